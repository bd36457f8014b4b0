import Derived.Test.YtchdplceopegoaaGreatDoorPi02
import Derived.WalkKit
import Derived.Outline
import Derived.WalkLawsBesides
import Derived.Deep.OwnRows
import Derived.Deep.AppendLies
import Derived.OwnWalk
import Derived.Lib.SmallJoins
open Go.Proofs.Tryz
open List (all_eq_true getElem_mem length_append length_cons replicate)
open Option (map_some)
namespace Go.Proofs.YtchdplceopegoaaGreatDoor
theorem z4p(wd:Nat):∀(s:List UInt8)(c c':Nat),wd<=c->wd<=c'->(q3c wd c s).1=(q3c wd c' s).1/\(q3c wd c s).2.1=(q3c wd c' s).2.1
 | [],c,c',_,_=>⟨rfl,rfl⟩
 | b::s,c,c',h,h'=>by
  by_cases hb:b=10
  ·simp only[q3c,if_pos hb,and_self]
  ·simp only[q3c,if_neg hb,if_pos h,if_pos h'];obtain⟨e1,e2⟩:=z4p wd s (c+1) (c'+1) (by omega) (by omega);exact⟨by rw[e1],e2⟩
theorem k8e(wd c:Nat)(s:List UInt8):(q3c wd c s).1=(q3c wd (min c wd) s).1/\(q3c wd c s).2.1=(q3c wd (min c wd) s).2.1:=by
 rcases Nat.le_total c wd with h|h
 ·rw[Nat.min_eq_left h];exact⟨rfl,rfl⟩
 ·rw[Nat.min_eq_right h];exact z4p wd s c wd h Zl
theorem y2r(wd c:Nat)(ks:List (Nat × Tr)):bst wd c ks=bst wd (min c wd) ks:=by
 unfold bst q4o
 congr 2
 funext p
 rw[(k8e wd c p.1).1,(k8e wd c p.1).2]
theorem z3x(wd:Nat):∀(s:List UInt8)(c:Nat),(∀b∈s,b≠10)->q3c wd c s=((c+s.length-wd)-(c-wd),0,c+s.length)
 | [],c,_=>by simp[q3c]
 | b::s,c,h=>by
  have hb:b≠10:=h b (by simp);simp only[q3c,if_neg hb,z3x wd s (c+1) (fun x hx=>h x (by simp[hx])),length_cons,Prod.mk.injEq,true_and];refine⟨?_,by omega⟩
  split<;>omega
theorem j5z(wd c d:Nat):q3c wd c (10::replicate d 32)=(d-wd,1,d):=by
 simp only[q3c,if_pos];rw[z3x wd (replicate d 32) 0 (by intro b A;rw[(List.mem_replicate.1 A).2];decide)];simp
/-! ### How much a way may cost at most -/
def Tr.lf:Tr->Nat
 | .leaf _=>1
 | .one _ a=>a.lf
 | .two _ a b=>a.lf+b.lf
def Tr.dsum:Tr->Nat
 | .leaf _=>0
 | .one _ a=>8+a.dsum
 | .two _ a b=>a.dsum+b.dsum
theorem z0a:∀t:Tr,8*t.lf+t.dsum<=8*t.N.length
 | .leaf _=>by simp[Tr.lf,Tr.dsum,Tr.N]
 | .one _ a=>by have:=z0a a;simp only[Tr.lf,Tr.dsum,Tr.N,length_cons];omega
 | .two _ a b=>by have:=z0a a;have:=z0a b;simp only[Tr.lf,Tr.dsum,Tr.N,length_cons,length_append];omega
theorem q9w:∀(t:Tr)(s:List UInt8),t.Wf->t.flat=some s->s.length<=20*t.lf
 | .leaf x,s,h,e=>by
  obtain⟨_,_,_,_,h5,_⟩:=q2d h.1;simp only[Tr.flat]at e;simp only[Tr.lf]
  split at e
  ·rename_i h1;cases e
   have:=q4c (h5 h1)
   have e:=q1a x.tx;omega
  ·split at e
   ·cases e;simp
   ·split at e
    ·cases e
    ·cases e;simp
 | .one x a,s,h,e=>q9w a s h.2.2 e
 | .two x a b,s,h,e=>by
  simp only[Tr.flat]at e;simp only[Tr.lf]
  split at e
  ·cases ha:a.flat with
   | none=>rw[ha]at e;cases e
   | some u=>
    cases hb:b.flat with
    | none=>rw[ha,hb]at e;cases e
    | some v=>
     rw[ha,hb]at e;cases e
     have:=q9w a u h.2.2.1 ha
     have:=q9w b v h.2.2.2 hb
     rw[length_append];omega
  ·have:=q9w a s h.2.2.1 e
   omega
theorem q7e:∀(t:Tr)(d:Nat)(p:List UInt8 × List Int),t.Wf->p∈t.outs d->p.1.length<=t.lf*(21+d+t.dsum)
 | .leaf x,d,p,h,hp=>by
  obtain⟨_,_,_,_,h5,_⟩:=q2d h.1;simp only[Tr.outs,List.mem_singleton]at hp;subst hp;simp only[Tr.lf,Tr.dsum]
  split
  ·rename_i h1
   have:=q4c (h5 h1)
   have e:=q1a x.tx;omega
  ·split
   ·simp
   ·simp;omega
 | .one x a,d,p,h,hp=>by
  obtain⟨_,_,_,_,_,h6⟩:=q2d h.1;simp only[Tr.outs]at hp;simp only[Tr.lf,Tr.dsum]
  split at hp
  ·rename_i h7;have h1:=q7e a _ p h.2.2 hp;have h2:a.lf*(21+(d+x.n.toNat)+a.dsum)<=a.lf*(21+d+(8+a.dsum)):=Nat.mul_le_mul_left _ (by have:=h6 h7;omega);omega
  ·rcases List.mem_append.1 hp with hp|hp
   ·cases hf:a.flat with
    | none=>rw[hf]at hp;simp at hp
    | some s=>
     rw[hf]at hp;simp only[List.mem_singleton]at hp;subst hp;have h1:=q9w a s h.2.2 hf;have h2:a.lf*20<=a.lf*(21+d+(8+a.dsum)):=Nat.mul_le_mul_left _ (by omega);dsimp only;omega
   ·obtain⟨q,hq,rfl⟩:=List.mem_map.1 hp;have h1:=q7e a d q h.2.2 hq;have h2:a.lf*(21+d+a.dsum)<=a.lf*(21+d+(8+a.dsum)):=Nat.mul_le_mul_left _ (by omega);dsimp only;omega
 | .two x a b,d,p,h,hp=>by
  simp only[Tr.outs]at hp;simp only[Tr.lf,Tr.dsum];have ma:a.lf*(21+d+a.dsum)<=a.lf*(21+d+(a.dsum+b.dsum)):=Nat.mul_le_mul_left _ (by omega);have mb:b.lf*(21+d+b.dsum)<=b.lf*(21+d+(a.dsum+b.dsum)):=Nat.mul_le_mul_left _ (by omega);rw[Nat.add_mul]
  split at hp
  ·obtain⟨u,hu,hp⟩:=List.mem_flatMap.1 hp;obtain⟨v,hv,rfl⟩:=List.mem_map.1 hp;have h1:=q7e a d u h.2.2.1 hu;have h2:=q7e b d v h.2.2.2 hv;simp only[length_append];omega
  ·rcases List.mem_append.1 hp with hp|hp
   ·obtain⟨q,hq,rfl⟩:=List.mem_map.1 hp;have h1:=q7e a d q h.2.2.1 hq;dsimp only;omega
   ·obtain⟨q,hq,rfl⟩:=List.mem_map.1 hp;have h1:=q7e b d q h.2.2.2 hq;dsimp only;omega
def lfK:List (Nat × Tr)->Nat
 | []=>0
 | (_,t)::ks=>t.lf+lfK ks
def KB(M:Nat)(ks:List (Nat × Tr)):Prop:=∀p∈ks,p.1+p.2.dsum<=M/\p.2.Wf
theorem k3r(M:Nat):∀(ks:List (Nat × Tr))(p:List UInt8 × List Int),KB M ks->p∈q5s ks->p.1.length<=lfK ks*(21+M)
 | [],p,_,hp=>by simp only[q5s,List.mem_singleton]at hp;subst hp;simp
 | (d,t)::ks,p,hk,hp=>by
  rw[q5s]at hp;obtain⟨u,hu,hp⟩:=List.mem_flatMap.1 hp;obtain⟨v,hv,rfl⟩:=List.mem_map.1 hp;obtain⟨k1,k2⟩:=hk (d,t) (by simp);have h1:=q7e t d u k2 hu;have h2:=k3r M ks v (fun q hq=>hk q (by simp[hq])) hv;have h3:t.lf*(21+d+t.dsum)<=t.lf*(21+M):=Nat.mul_le_mul_left _ (by dsimp only at k1;omega);simp only[lfK,length_append,Nat.add_mul];omega
theorem k5n(wd:Nat):∀(s:List UInt8)(c:Nat),(q3c wd c s).1<=s.length/\(q3c wd c s).2.1<=s.length
 | [],c=>by simp[q3c]
 | b::s,c=>by
  simp only[q3c,length_cons]
  split
  ·have:=k5n wd s 0
   dsimp only;omega
  ·have:=k5n wd s (c+1)
   dsimp only
   split<;>omega
def bs(wd c:Nat)(ks:List (Nat × Tr)):Crs:=(bst wd c ks).getD ((0,0),[])
theorem q3q(wd c:Nat)(ks:List (Nat × Tr)):bst wd c ks=some (bs wd c ks):=by
 obtain⟨a,h⟩:=k7y wd c ks;rw[bs,h];rfl
theorem g1q(wd c M:Nat)(ks:List (Nat × Tr))(h:KB M ks):(bs wd c ks).1.1<=lfK ks*(21+M)/\(bs wd c ks).1.2<=lfK ks*(21+M):=by
 obtain⟨p,q,e,_,_⟩:=z9m (q3q wd c ks);have A:bs wd c ks∈q4o wd c ks:=by rw[e];simp
 obtain⟨x,C,B⟩:=List.mem_map.1 A;rw[<-B];have D:=k3r M ks x h C;have E:=k5n wd x.1 c;dsimp only;omega
theorem most:∀D,D<401->(400-D)*(21+8*D)<=400000:=by
 set_option maxRecDepth 100000 in decide
theorem y4u{L M n:Nat}(h:8*L+M<=8*n)(hn:n<=400):L*(21+M)<=400000:=by
 have A:=most ((M+7) / 8) (by omega);have B:L*(21+M)<=(400-(M+7) / 8)*(21+8*((M+7) / 8)):=Nat.mul_le_mul (by omega) (by omega);omega
theorem y7k(wd c:Nat):bs wd c []=((0,0),[]):=by rw[bs,y2s];rfl
theorem j5o(wd c:Nat)(ks:List (Nat × Tr)):bs wd c ks=bs wd (min c wd) ks:=by rw[bs,y2r];rfl
theorem y2p{wd c d:Nat}{x:Nd}{ks:List (Nat × Tr)}(hx:q1e x=0)(h:x.op=1)(hc:c<=wd):bs wd c ((d,.leaf x)::ks)=q6e (c+x.tx.size-wd) 0 [] (bs wd (min (c+x.tx.size) wd) ks):=by
 have A:∀b∈x.tx.data.toList,b≠10:=v3n hx h;have e:=z8v wd c d x ks x.tx.data.toList (by rw[if_pos h]);rw[z3x wd _ c A,q1a,q3q,q3q wd (c+x.tx.size),map_some,Option.some.injEq,j5o wd (c+x.tx.size)]at e;rw[e,Nat.sub_eq_zero_of_le hc,Nat.sub_zero]
theorem y2o{wd c d:Nat}{x:Nd}{ks:List (Nat × Tr)}(h:x.op≠1/\x.op≠5):bs wd c ((d,.leaf x)::ks)=q6e (d-wd) 1 [] (bs wd (min d wd) ks):=by
 have e:=z8v wd c d x ks (10::replicate d 32) (by rw[if_neg h.1,if_neg h.2]);rw[j5z,q3q,q3q wd d,map_some,Option.some.injEq,j5o wd d]at e;exact e
theorem y2q{wd c d:Nat}{x:Nd}{ks:List (Nat × Tr)}(h:x.op=5):bs wd c ((d,.leaf x)::ks)=q6e 0 0 [] (bs wd c ks):=by
 have e:=z8v wd c d x ks [] (by rw[if_neg (by omega),if_pos h]);rw[q3q,q3c,q3q wd c ks,map_some,Option.some.injEq]at e;exact e
theorem y2m{wd c d:Nat}{x:Nd}{a:Tr}{ks:List (Nat × Tr)}(h:x.op=7):bs wd c ((d,.one x a)::ks)=bs wd c ((d+x.n.toNat,a)::ks):=by rw[bs,v4t wd c d x a ks h];rfl
theorem y2l{wd c d:Nat}{x:Nd}{a b:Tr}{ks:List (Nat × Tr)}(h:x.op=6):bs wd c ((d,.two x a b)::ks)=bs wd c ((d,a)::(d,b)::ks):=by rw[bs,v4s wd c d x a b ks h];rfl
theorem j5n{wd c d:Nat}{x:Nd}{a b:Tr}{ks:List (Nat × Tr)}(h:x.op≠6):bs wd c ((d,.two x a b)::ks)=k1k (q6e 0 0 [0] (bs wd c ((d,a)::ks))) (q6e 0 0 [1] (bs wd c ((d,b)::ks))):=by
 have e:=j1g wd c d x a b ks h;rw[q3q,q3q wd c ((d,a)::ks),q3q wd c ((d,b)::ks),map_some,map_some,q6m,Option.some.injEq]at e;exact e
theorem v4r{wd c d:Nat}{x:Nd}{a:Tr}{ks:List (Nat × Tr)}{s:List UInt8}(h:x.op≠7)(ha:a.Wf)(hf:a.flat=some s)(hc:c<=wd):
  bs wd c ((d,.one x a)::ks)=k1k (q6e (c+s.length-wd) 0 [0] (bs wd (min (c+s.length) wd) ks)) (q6e 0 0 [1] (bs wd c ((d,a)::ks))):=by
 have e:=k1u wd c d x a ks h;rw[hf]at e;dsimp only at e;rw[z3x wd _ c (q8c a s ha hf),q3q,q3q wd (c+s.length),q3q wd c ((d,a)::ks),map_some,map_some,q6m,Option.some.injEq,j5o wd (c+s.length)]at e;rw[e,Nat.sub_eq_zero_of_le hc,Nat.sub_zero]
theorem y2n{wd c d:Nat}{x:Nd}{a:Tr}{ks:List (Nat × Tr)}(h:x.op≠7)(hf:a.flat=none):bs wd c ((d,.one x a)::ks)=q6e 0 0 [1] (bs wd c ((d,a)::ks)):=by
 have e:=k1u wd c d x a ks h;rw[hf]at e;dsimp only at e;rw[q3q,q3q wd c ((d,a)::ks),map_some,q6m,Option.some.injEq]at e;exact e
end Go.Proofs.YtchdplceopegoaaGreatDoor
namespace Go.Proofs.YtchdplceopegoaaGreatDoor
open Go Go.RowKit
def ntL(wd:Nat)(tx:ByteArray):List UInt8:=if q0d (btL tx)=[]then [35,10]else(j8p ((q0d (btL tx)).map wbS) (z4q (wd-2) ((q0d (btL tx)).map wbS))).flatMap fun l=>35::32::(btL l++[10])
def dcL(wd:Nat)(t:List Td):List UInt8:=(q0w t).txt (bs wd 0 [(0,q0w t)]).2++[10]
def k9n(t:List Td)(wd:Int):Int:=if wd<10\/100<wd then 1 else if q0b t≠0 then q0b t else if opT t=9 then 0 else if 400<(q0w t).N.length then 3 else 0
def q7c(wd:Nat)(t:List Td):List UInt8:=match t with
 | []=>[]
 | x::_=>if x.op=9 then ntL wd x.tx else dcL wd t
theorem v7h{t:List Td}(wd:Nat):∃u∈(q0w t).ways,dcL wd t=(q0w t).txt u++[10]/\(q0w t).show u=.ok ((q0w t).txt u)/\∀v∈(q0w t).ways,¬q2x ((q0w t).cst wd v) ((q0w t).cst wd u):=by
 have E:(q0w t).best wd=some (bs wd 0 [(0,q0w t)]):=by rw[z0m,q3q]
 obtain⟨A,B,C,D⟩:=q6k E;exact⟨_,A,rfl,B,fun v hv=>by rw[<-C];exact(D v hv).1⟩
theorem k3n{t:List Td}(h:q0b t=0)(h9:opT t=9):∃x,t=[x]/\x.op=9/\q2t x.tx=0/\q2p t=j4b x.tx:=by
 rcases q5y h with⟨x,rfl,A,H,E⟩|⟨x,F,rfl,_,_,_,B⟩
 ·have G:(Fo.nil).len=kdT x:=by simp[kdT,A,Fo.len]
  have C:q2p [x]=stX x []:=(z5r (x:=x) (F:=.nil) trivial G).1;exact⟨x,rfl,A,E,by rw[C,j4b];simp[stX,A]⟩
 ·have D:x.op=9:=h9;rcases B with⟨B,_⟩|⟨B,_⟩<;>omega
def q9j(wd:Nat)(ps:List (List Td)):List UInt8:=ps.flatMap (q7c wd)
def q2m(n:Int):Value:=if n=0 then .nilIface else .iface 24 (.int .i64 n)
theorem q1n:q2m 0=.nilIface:=rfl
theorem z7a:q2m 1=.iface 24 (.int .i64 1):=rfl
theorem k2d:q2m 2=.iface 24 (.int .i64 2):=rfl
theorem k8l:q2m 3=.iface 24 (.int .i64 3):=rfl
theorem y7q:q2m 4=.iface 24 (.int .i64 4):=rfl
theorem y0e:q2m 5=.iface 24 (.int .i64 5):=rfl
theorem q0q{n:Int}(h:n≠0):q2m n=.iface 24 (.int .i64 n):=by simp[q2m,h]
theorem q0s{W w1:World}(hb:Below W W w1):(∀b o,b<W.heap.size->w1.cell? ⟨b,o,none⟩=W.cell? ⟨b,o,none⟩)/\(∀b o,b<W.heap.size->w1.frozen? ⟨b,o,none⟩=W.frozen? ⟨b,o,none⟩):=
 ⟨fun b o h=>hb.cell (p:=⟨b,o,none⟩) h,fun b o h=>hb.frozen (p:=⟨b,o,none⟩) h⟩
theorem ane{b o b' o':Nat}(h:b≠b'\/o≠o'):(⟨b,o,none⟩:Addr)≠⟨b',o',none⟩:=by
 intro e;simp at e;omega
theorem cso{W:World}{b o b' o':Nat}{v:Value}(h:b≠b'\/o≠o'):(W.setCell ⟨b,o,none⟩ v).cell? ⟨b',o',none⟩=W.cell? ⟨b',o',none⟩:=World.cell?_setCell_other (h:=ane h) ..
theorem css{W:World}{a:Addr}{v u:Value}(h:W.cell? a=some u):(W.setCell a v).cell? a=some v:=World.cell?_setCell_same (h:=h) ..
theorem csf{W:World}{a b:Addr}{v:Value}:(W.setCell a v).frozen? b=W.frozen? b:=World.frozen?_setCell ..
theorem q7x{n:Nat}{w w1 w2:World}{A:Obj}(h1:Below n w w1)(hn:n<=w.heap.size)(hb:Below (w1.alloc A).heap.size (w1.alloc A) w2):Below n w w2:=
 (h1.alloc (by have:=h1.size;omega) _).trans (hb.mono (by have:=h1.size;simp;omega))
theorem q0e{n:Nat}{w w1 w2:World}(h1:Below n w w1)(hn:n<=w.heap.size)(hb:Below w1 w1 w2):Below n w w2:=
 h1.trans (hb.mono (by have:=h1.size;omega))
theorem hid{p:Prop}(h:p):Hid p:=h
def z3r(B:Nat)(w:World)(a:Option Addr)(ws:List ByteArray):Prop:=
 ∀i(h:i<ws.length),∃b o,a=some ⟨b,o,none⟩/\b<B/\w.cell? ⟨b,o+i,none⟩=some (.string ws[i])
theorem z3r.W{B:Nat}{w w':World}{a:Option Addr}{ws:List ByteArray}(h:z3r B w a ws)(hb:Below B w w'):z3r B w' a ws:=by
 intro i D;obtain⟨b,o,e,A,C⟩:=h i D;exact⟨b,o,e,A,(hb.cell (p:=⟨b,_,none⟩) A).trans C⟩
theorem z3r.up{B B':Nat}{w:World}{a:Option Addr}{ws:List ByteArray}(h:z3r B w a ws)(hB:B<=B'):z3r B' w a ws:=by
 intro i C;obtain⟨b,o,e,D,A⟩:=h i C;exact⟨b,o,e,by omega,A⟩
theorem z3r.nil(B:Nat)(w:World)(a:Option Addr):z3r B w a []:=fun i hi=>by simp at hi
theorem z3r.take{B:Nat}{w:World}{a:Option Addr}{ws:List ByteArray}(h:z3r B w a ws)(k:Nat):z3r B w a (ws.take k):=by
 intro i E;have A:i<ws.length:=by simp at E;omega
 obtain⟨b,o,e,C,D⟩:=h i A;exact⟨b,o,e,C,by rw[List.getElem_take];exact D⟩
theorem z3r.drop{B:Nat}{w:World}{b o:Nat}{ws:List ByteArray}(h:z3r B w (some ⟨b,o,none⟩) ws)(k:Nat):z3r B w (some ⟨b,o+k,none⟩) (ws.drop k):=by
 intro i E;have A:k+i<ws.length:=by simp at E;omega
 obtain⟨G,H,e,C,D⟩:=h (k+i) A;simp only[Option.some.injEq,Addr.mk.injEq,and_true]at e;obtain⟨rfl,rfl⟩:=e;refine⟨b,o+k,rfl,C,?_⟩;rw[List.getElem_drop,Nat.add_assoc];exact D
theorem z3r.some{B:Nat}{w:World}{a:Option Addr}{ws:List ByteArray}(h:z3r B w a ws)(h0:0<ws.length):∃b o,a=some ⟨b,o,none⟩/\b<B:=by
 obtain⟨b,o,e,A,_⟩:=h 0 h0;exact⟨b,o,e,A⟩
abbrev Wds(w:World)(a:Option Addr)(ws:List ByteArray):Prop:=z3r w.heap.size w a ws
theorem Wds.W{w w':World}{a:Option Addr}{ws:List ByteArray}(h:Wds w a ws)(hb:Below w w w'):Wds w' a ws:=(z3r.W h hb).up hb.size
def q2b(w:World)(a:Option Addr)(ds:List Nd):Prop:=
 ∀i(h:i<ds.length),∃b o,a=some ⟨b,o,none⟩/\b<w.heap.size/\w.cell? ⟨b,o+i*3,none⟩=some (.int .i64 ds[i].op)/\w.cell? ⟨b,o+i*3+1,none⟩=some (.string ds[i].tx)/\w.cell? ⟨b,o+i*3+2,none⟩=some (.int .i64 ds[i].n)
theorem q2b.W{w w':World}{a:Option Addr}{ds:List Nd}(h:q2b w a ds)(hb:Below w w w'):q2b w' a ds:=by
 intro i G;obtain⟨b,o,e,A,C,D,E⟩:=h i G;obtain⟨B,_⟩:=q0s hb
 have:=hb.size
 exact⟨b,o,e,by omega,(B _ _ A).trans C,(B _ _ A).trans D,(B _ _ A).trans E⟩
abbrev g3l(x:Nd):Value:=.agg #[.int .i64 x.op,.string x.tx,.int .i64 x.n]
def Tds(w:World)(a:Option Addr)(ds:List Td):Prop:=
 ∀i(h:i<ds.length),∃b o,a=some ⟨b,o,none⟩/\b<w.heap.size/\w.cell? ⟨b,o+i*3,none⟩=some (.int .i64 ds[i].op)/\w.cell? ⟨b,o+i*3+1,none⟩=some (.string ds[i].tx)/\w.cell? ⟨b,o+i*3+2,none⟩=some (.int .i64 ds[i].n)
theorem Tds.W{w w':World}{a:Option Addr}{ds:List Td}(h:Tds w a ds)(hb:Below w w w'):Tds w' a ds:=by
 intro i G;obtain⟨b,o,e,A,C,D,E⟩:=h i G;obtain⟨B,_⟩:=q0s hb
 have:=hb.size
 exact⟨b,o,e,by omega,(B _ _ A).trans C,(B _ _ A).trans D,(B _ _ A).trans E⟩
theorem Tds.alloc{w:World}{a:Option Addr}{ds:List Td}(h:Tds w a ds)(o:Obj):Tds (w.alloc o) a ds:=h.W (Zb.alloc Zl _)
theorem Tds.nil(w:World)(a:Option Addr):Tds w a []:=fun i hi=>by simp at hi
abbrev tdV(x:Td):Value:=.agg #[.int .i64 x.op,.string x.tx,.int .i64 x.n]
def z9g(o:Option Nat):Int:=match o with|some j=>j|none=>-1
def kdZ(x:Td):Int:=if x.op=3\/x.op=4 then x.n else(kdT x:Int)
theorem y0o{x:Td}(h:q0t x=0):kdZ x=(kdT x:Int):=by
 unfold kdZ
 split
 ·rename_i h1;rw[kdT,if_pos h1];unfold q0t at h
  split at h
  ·cases h
  ·split at h
   ·cases h
   ·omega
 ·rfl
def q9m(t:List Td):Int:=if q0b t≠0 then q0b t else if opT t=9 then 2 else if 400<(q0w t).N.length then 3 else 0
def q8x(t:List Td):List Nd:=if q9m t=0 then(q0w t).N else []
def k4z(t:List Td):Int:=if q0b t≠0 then q0b t else if opT t=9 then 0 else 2
def txT(t:List Td):ByteArray:=match t with
 | []=>⟨#[]⟩
 | x::_=>x.tx
def j2a(t:List Td):List ByteArray:=if k4z t=0 then(q0d (btL (txT t))).map wbS else []
def z4e(t:List Td)(e:Ending)(w':World):Prop:=∃A c,e=.returned (.tuple #[.slice A (q8x t).length c,q2m (q9m t)])/\q2b w' A (q8x t)/\(q8x t).length<=c
def z8k(t:List Td)(e:Ending)(w':World):Prop:=∃A c,e=.returned (.tuple #[.slice A (j2a t).length c,q2m (k4z t)])/\Wds w' A (j2a t)/\(j2a t).length<=c
theorem j7x{t:List Td}(h:q0b t≠0):q9m t=q0b t/\q8x t=[]/\k4z t=q0b t/\j2a t=[]:=by
 have A:q9m t=q0b t:=by rw[q9m,if_pos h]
 have B:k4z t=q0b t:=by rw[k4z,if_pos h]
 exact⟨A,by rw[q8x,if_neg (by rw[A];exact h)],B,by rw[j2a,if_neg (by rw[B];exact h)]⟩
theorem z9p{t:List Td}(h:q0b t=0)(h9:opT t=9):q9m t=2/\q8x t=[]/\k4z t=0/\j2a t=(q0d (btL (txT t))).map wbS:=by
 have A:q9m t=2:=by rw[q9m,if_neg (by simp[h]),if_pos h9]
 have B:k4z t=0:=by rw[k4z,if_neg (by simp[h]),if_pos h9]
 exact⟨A,by rw[q8x,if_neg (by rw[A];decide)],B,by rw[j2a,if_pos B]⟩
theorem v6h{t:List Td}(h:q0b t=0)(h9:opT t≠9)(hn:400<(q0w t).N.length):q9m t=3/\q8x t=[]/\k4z t=2/\j2a t=[]:=by
 have A:q9m t=3:=by rw[q9m,if_neg (by simp[h]),if_neg h9,if_pos hn]
 have B:k4z t=2:=by rw[k4z,if_neg (by simp[h]),if_neg h9]
 exact⟨A,by rw[q8x,if_neg (by rw[A];decide)],B,by rw[j2a,if_neg (by rw[B];decide)]⟩
theorem y3z{t:List Td}(h:q0b t=0)(h9:opT t≠9)(hn:¬400<(q0w t).N.length):q9m t=0/\q8x t=(q0w t).N/\k4z t=2/\j2a t=[]:=by
 have A:q9m t=0:=by rw[q9m,if_neg (by simp[h]),if_neg h9,if_neg hn]
 have B:k4z t=2:=by rw[k4z,if_neg (by simp[h]),if_neg h9]
 exact⟨A,by rw[q8x,if_pos A],B,by rw[j2a,if_neg (by rw[B];decide)]⟩
end Go.Proofs.YtchdplceopegoaaGreatDoor
namespace Go.Proofs.YtchdplceopegoaaGreatDoor
def q7a(f g:Nat->List Int->Except Int (List UInt8 × List Int))(deep:Nat)(ws:List Int):Except Int (List UInt8 × List Int):=
 match f deep ws with
 | .error e=>.error e
 | .ok (s,ws1)=>match g deep ws1 with
  | .error e=>.error e
  | .ok (t,ws2)=>.ok (s++t,ws2)
def q4u(f:Nat->List Int->Except Int (List UInt8 × List Int))(sA:ByteArray)(fl:Bool)(deep:Nat)(ws:List Int):Except Int (List UInt8 × List Int):=
 match ws with
 | []=>.error 2
 | c::ws=>if c=1 then f deep ws else if fl=true then .ok (sA.data.toList,ws)else .error 4
def q4i(f g:Nat->List Int->Except Int (List UInt8 × List Int))(deep:Nat)(ws:List Int):Except Int (List UInt8 × List Int):=
 match ws with
 | []=>.error 2
 | c::ws=>if c=0 then f deep ws else g deep ws
theorem v5x{t:Tr}{s:List UInt8}(h:t.Wf)(e:t.flat=some s):s.length<=20*t.N.length:=by
 have:=q8b t h
 rw[e]at this;exact this
theorem q6c:∀(t:Tr)(deep:Nat)(ws:List Int)(u:List UInt8)(v:List Int),t.Wf->t.lay deep ws=.ok (u,v)->deep+8*t.N.length<=3300->u.length<=4000*t.N.length
 | .leaf x,deep,ws,u,v,h,e,hd=>by
  obtain⟨_,_,_,_,h5,_⟩:=q2d h.1;simp only[Tr.lay]at e;simp only[Tr.N,length_cons,List.length_nil]at hd⊢
  split at e
  ·rename_i h1;cases e
   have:=q4c (h5 h1)
   rw[q1a];omega
  ·split at e
   ·cases e;simp
   ·cases e;simp;omega
 | .one x a,deep,ws,u,v,h,e,hd=>by
  obtain⟨_,_,_,_,_,h6⟩:=q2d h.1;simp only[Tr.lay]at e;simp only[Tr.N,length_cons]at hd⊢
  split at e
  ·rename_i h7
   have:=h6 h7
   have:=q6c a _ ws u v h.2.2 e (by omega)
   omega
  ·match ws,e with
   | c::ws,e=>
    simp only at e
    split at e
    ·have:=q6c a deep ws u v h.2.2 e (by omega)
     omega
    ·cases hf:a.flat with
     | none=>rw[hf]at e;cases e
     | some w=>
      rw[hf]at e;cases e
      have:=v5x h.2.2 hf
      omega
 | .two x a b,deep,ws,u,v,h,e,hd=>by
  simp only[Tr.lay]at e;simp only[Tr.N,length_cons,length_append]at hd⊢
  split at e
  ·cases ha:a.lay deep ws with
   | error e0=>rw[ha]at e;cases e
   | ok p=>
    obtain⟨s1,ws1⟩:=p;rw[ha]at e;simp only at e;cases hb:b.lay deep ws1 with
    | error e0=>rw[hb]at e;cases e
    | ok q=>
     obtain⟨s2,ws2⟩:=q;rw[hb]at e;cases e
     have:=q6c a deep ws s1 ws1 h.2.2.1 ha (by omega)
     have:=q6c b deep ws1 s2 _ h.2.2.2 hb (by omega)
     rw[length_append];omega
  ·match ws,e with
   | c::ws,e=>
    simp only at e
    split at e
    ·have:=q6c a deep ws u v h.2.2.1 e (by omega)
     omega
    ·have:=q6c b deep ws u v h.2.2.2 e (by omega)
     omega
theorem j8b{x:Nd}{a b:Tr}(h:x.op=6):Tr.lay (.two x a b)=q7a a.lay b.lay:=by
 funext deep ws
 simp only[Tr.lay,q7a,if_pos h];rfl
theorem z7i{x:Nd}{a b:Tr}(h:x.op=9):Tr.lay (.two x a b)=q4i a.lay b.lay:=by
 funext deep ws
 simp only[Tr.lay,q4i,if_neg (show ¬x.op=6 by omega)];rfl
theorem k2n{x:Nd}{a:Tr}(h:x.op=8):Tr.lay (.one x a)=q4u a.lay a.line a.isFlat:=by
 funext deep ws
 simp only[Tr.lay,q4u,if_neg (show ¬x.op=7 by omega)];cases ws with
 | nil=>rfl
 | cons c ws=>
  simp only[z5e,Tr.isFlat];cases a.flat with
  | none=>rfl
  | some s=>rfl
def shS(r:Except Int (List UInt8)):ByteArray:=match r with| .ok s=>⟨s.toArray⟩| .error _=>⟨#[]⟩
def shE(r:Except Int (List UInt8)):Int:=match r with| .ok _=>0| .error e=>e
theorem j3a{t:Tr}{ws:List Int}{k:Nat}(h:k<ws.length)(h0:ws[k]≠0)(h1:ws[k]≠1):t.show ws=.error 1:=by
 unfold Tr.show;rw[if_neg];intro A
 have:=k5f.1 A ws[k] (getElem_mem h)
 omega
theorem j0a{t:Tr}{ws:List Int}(h:q3n ws):t.show ws=match t.lay 0 ws with| .error e=>.error e| .ok (s,[])=>.ok s| .ok (_,_::_)=>.error 2:=by
 unfold Tr.show;rw[if_pos (k5f.2 h)];rfl
noncomputable def q7j(ds:List Nd)(ws:List Int):Except Int (List UInt8):=if h:q3f ds=0 then(y0c ds h).show ws else .error (q3f ds)
theorem k4b{ds:List Nd}{ws:List Int}(h:q3f ds≠0):q7j ds ws=.error (q3f ds):=dif_neg h
theorem z2w{ds:List Nd}{ws:List Int}{t:Tr}(ht:t.Wf)(e:ds=t.N)(hl:ds.length<=400):q7j ds ws=t.show ws:=by
 have h:q3f ds=0:=by rw[e];exact z1t ht (by rw[<-e];exact hl)
 rw[q7j,dif_pos h,z9c h ht e]
theorem v8a{ds:List Nd}{ws:List Int}{u:List UInt8}(h:q7j ds ws=.ok u):q3f ds=0/\ds.length<=400/\∃t:Tr,t.Wf/\ds=t.N/\t.show ws=.ok u:=by
 by_cases A:q3f ds=0
 ·rw[q7j,dif_pos A]at h;exact⟨A,(q5j A).1,_,q9u A,q3w A,h⟩
 ·rw[k4b A]at h;cases h
theorem q8n:∀(t:Tr)(u:List Int),u∈t.ways->u.length<=t.N.length
 | .leaf _,u,h=>by simp[Tr.ways]at h;subst h;simp
 | .one x a,u,h=>by
  simp only[Tr.ways]at h;simp only[Tr.N,length_cons]
  split at h
  ·have:=q8n a u h;omega
  ·rcases List.mem_append.1 h with h|h
   ·split at h
    ·simp at h;subst h;simp
    ·simp at h
   ·obtain⟨v,hv,rfl⟩:=List.mem_map.1 h
    have:=q8n a v hv
    simp;omega
 | .two x a b,u,h=>by
  simp only[Tr.ways]at h;simp only[Tr.N,length_cons,length_append]
  split at h
  ·obtain⟨p,hp,hpq⟩:=List.mem_flatMap.1 h;obtain⟨q,hq,rfl⟩:=List.mem_map.1 hpq;have h1:=q8n a p hp;have h2:=q8n b q hq;rw[length_append];omega
  ·rcases List.mem_append.1 h with h|h
   ·obtain⟨v,hv,rfl⟩:=List.mem_map.1 h
    have:=q8n a v hv
    simp;omega
   ·obtain⟨v,hv,rfl⟩:=List.mem_map.1 h
    have:=q8n b v hv
    simp;omega
theorem v1r{t:Tr}{ws:List Int}{u:List UInt8}(h:t.show ws=.ok u):q3n ws/\t.lay 0 ws=.ok (u,[]):=by
 unfold Tr.show at h
 split at h
 ·rename_i h0;refine⟨k5f.1 h0,?_⟩;cases A:t.lay 0 ws with
  | error e0=>rw[A]at h;cases h
  | ok p=>
   obtain⟨v,r⟩:=p;rw[A]at h;cases r with
   | nil=>cases h;rfl
   | cons c r=>cases h
 ·cases h
theorem v1q{ds:List Nd}{ws:List Int}{u:List UInt8}(h:q7j ds ws=.ok u):u.length<=1600000/\ws.length<=400:=by
 obtain⟨_,H,t,E,e,A⟩:=v8a h;have G:=(z5p t ws).1 ⟨u,A⟩;have B:=q8n t ws G;obtain⟨_,C⟩:=v1r A;rw[<-e]at B;have D:=q6c t 0 ws u [] E C (by rw[<-e];omega);rw[<-e]at D;omega
end Go.Proofs.YtchdplceopegoaaGreatDoor
namespace Go.Proofs.YtchdplceopegoaaGreatDoor
open Go Go.RowKit
theorem j8a{t:List Td}(h:q9m t=0):q0b t=0/\opT t≠9/\q8x t=(q0w t).N/\(q0w t).N.length<=400:=by
 have A:=h;unfold q9m at h
 split at h
 ·rename_i h0;exact absurd h h0
 ·rename_i h0
  split at h
  ·cases h
  ·rename_i h9
   split at h
   ·cases h
   ·rename_i hm;exact⟨by simpa using h0,h9,by rw[q8x,if_pos A],by omega⟩
theorem v6i{t:List Td}(h:q9m t=0)(ws:List Int):q7j (q8x t) ws=(q0w t).show ws:=by
 obtain⟨B,C,A,D⟩:=j8a h;exact z2w (z6x B C).w A (by rw[A];exact D)
theorem y7l{s:ByteArray}{k:Nat}(h:k<s.size):s[k]∈s.data.toList:=by
 have A:k<s.data.toList.length:=by rw[<-Lib.size_eq];exact h
 exact getElem_mem A
theorem k9m{s:ByteArray}(h1:1<=s.size)(h2:s.size<=20)(h:∀k(h:k<s.size),q7v s[k]=true):okW s=true:=by
 simp only[okW,h1,h2,decide_true,Bool.true_and,all_eq_true];intro b A;obtain⟨i,B,rfl⟩:=List.getElem_of_mem A;exact h i (by rw[Lib.size_eq];exact B)
theorem v0n{s:ByteArray}{k:Nat}(h:k<s.size)(hb:q7v s[k]=false):okW s=false:=by
 cases e:okW s with
 | false=>rfl
 | true=>
  simp only[okW,Bool.and_eq_true,all_eq_true]at e
  have:=e.2 s[k] (y7l h)
  rw[hb]at this;cases this
theorem z6b{b:UInt8}(h:q7v b=false):(b.toNat:Int)<33\/(¬(b.toNat:Int)<33/\126<(b.toNat:Int)):=by
 simp[q7v]at h;omega
theorem z8d{b:UInt8}(h:q7v b=true):¬(b.toNat:Int)<33/\¬126<(b.toNat:Int):=by
 simp[q7v]at h;omega
theorem q7p{ws:List ByteArray}(h:60<ws.length):q1f ws=3:=by rw[q1f,if_pos h]
theorem z8f{ws:List ByteArray}{k:Nat}(hl:ws.length<=60)(hk:k<ws.length)(h:okW ws[k]=false):q1f ws=5:=by
 rw[q1f,if_neg (by omega),if_neg];intro e
 have:=List.all_eq_true.1 e ws[k] (getElem_mem hk)
 rw[h]at this;cases this
theorem z8e{ws:List ByteArray}(hl:ws.length<=60)(h:∀j(h:j<ws.length),okW ws[j]=true):q1f ws=0:=by
 rw[q1f,if_neg (by omega),if_pos];rw[all_eq_true];intro x B;obtain⟨j,A,rfl⟩:=List.getElem_of_mem B;exact h j A
def q2s(B:Nat)(w:World)(a:Option Addr)(ws:List Int):Prop:=
 ∀i(h:i<ws.length),∃b o,a=some ⟨b,o,none⟩/\b<B/\w.cell? ⟨b,o+i,none⟩=some (.int .i64 ws[i])
theorem q2s.W{B:Nat}{w w':World}{a:Option Addr}{ws:List Int}(h:q2s B w a ws)(hb:Below B w w'):q2s B w' a ws:=by
 intro i D;obtain⟨b,o,e,A,C⟩:=h i D;exact⟨b,o,e,A,(hb.cell (p:=⟨b,_,none⟩) A).trans C⟩
theorem q2s.rest{B:Nat}{w:World}{b o:Nat}{x:Int}{ws:List Int}(h:q2s B w (some ⟨b,o,none⟩) (x::ws)):q2s B w (some ⟨b,o+1,none⟩) ws:=by
 intro i E;obtain⟨D,G,e,A,C⟩:=h (i+1) (by simp;omega);simp only[Option.some.injEq,Addr.mk.injEq,and_true]at e;obtain⟨rfl,rfl⟩:=e;refine⟨b,o+1,rfl,A,?_⟩;rw[show o+1+i=o+(i+1) by omega];exact C
theorem q2s.slid{B:Nat}{w:World}{b o cap:Nat}{x:Int}{ws:List Int}(h:q2s B w (some ⟨b,o,none⟩) (x::ws))(hc:ws.length+1<=cap):
  q2s B w (if cap=1 then some ⟨b,o,none⟩else some ⟨b,o+1,none⟩) ws:=by
 by_cases A:cap=1
 ·have:ws=[]:=List.eq_nil_of_length_eq_zero (by omega)
  subst this;exact fun i hi=>by simp at hi
 ·rw[if_neg A];exact h.rest
abbrev q9s(w:World)(a:Option Addr)(ws:List Int):Prop:=q2s w.heap.size w a ws
theorem q2s.up{B B':Nat}{w:World}{a:Option Addr}{ws:List Int}(h:q2s B w a ws)(hB:B<=B'):q2s B' w a ws:=by
 intro i C;obtain⟨b,o,e,D,A⟩:=h i C;exact⟨b,o,e,by omega,A⟩
theorem q9s.W{w w':World}{a:Option Addr}{ws:List Int}(h:q9s w a ws)(hb:Below w w w'):q9s w' a ws:=(q2s.W h hb).up hb.size
set_option maxRecDepth 100000
set_option maxHeartbeats 1000000
theorem z6e(s:ByteArray)(w:World):Cw 150 #[.string s] w (.bool (okW s)):=by
 unfold Cw;by_cases L:(s.size:Int)<1
 ·have e:okW s=false:=by simp[okW];omega
  rw[e];go_in;go_wp2;go_ret;exact⟨rfl,rfl⟩
 by_cases M:20<(s.size:Int)
 ·have e:okW s=false:=by simp[okW];omega
  rw[e];go_in;go_wp2;go_ret;exact⟨rfl,rfl⟩
 go_in;go_wp2
 go_loopw [14] (fun i wr=>wr=w/\∃k:Nat,k<=s.size/\i=.int .i64 k/\∀j(h:j<s.size),j<k->q7v s[j]=true) (fun i _=>s.size-(intOf i).toNat)
 case atStart=>exact⟨rfl,0,Nat.zero_le _,rfl,fun j _ K=>by omega⟩
 case round=>
  obtain⟨rfl,k,N,rfl,A⟩:=hrel;have H:Hid (∀j(h:j<s.size),j<k->q7v s[j]=true):=A;by_cases G:k<s.size
  ·cases C:q7v s[k]with
   | false=>
    have B:Hid (okW s=false):=v0n G C;have D:=z6b C;rcases D with D|⟨D,J⟩
    ·go_wp2;go_ret;exact⟨by rw[B.o];rfl,rfl⟩
    ·go_wp2;go_ret;exact⟨by rw[B.o];rfl,rfl⟩
   | true=>
    have I:Hid (q7v s[k]=true):=C;obtain⟨D,J⟩:=z8d C;go_wp2
    go_roundw
    case rel=>
     refine⟨by trivial,k+1,by omega,by go_num,?_⟩;intro j h K;by_cases E:j=k
     ·subst E;exact I.o
     ·exact H.o j h (by omega)
    case measure=>simp[intOf];omega
  ·have B:Hid (okW s=true):=k9m (by omega) (by omega) fun j h=>H.o j h (by omega)
   go_wp2;go_ret;exact⟨by rw[B.o];rfl,rfl⟩
theorem q6r(ws:List ByteArray)(a:Option Addr)(cap:Nat)(w:World)(hW:Wds w a ws):
  Cw 111 #[.slice a ws.length cap] w (q2m (q1f ws)):=by
 unfold Cw;have K:Hid (Wds w a ws):=hW;by_cases P:60<(ws.length:Int)
 ·have B:Hid (q1f ws=3):=q7p (by omega);go_in;go_wp2;go_ret;exact⟨by rw[B.o];rfl,rfl⟩
 go_in;go_wp2
 go_loopw [11] (fun i wr=>wr=w/\∃k:Nat,k<=ws.length/\i=.int .i64 k/\∀j(h:j<ws.length),j<k->okW ws[j]=true) (fun i _=>ws.length-(intOf i).toNat)
 case atStart=>exact⟨rfl,0,Nat.zero_le _,rfl,fun j _ hj=>by omega⟩
 case round=>
  obtain⟨rfl,k,Q,rfl,C⟩:=hrel;have I:Hid (∀j(h:j<ws.length),j<k->okW ws[j]=true):=C;by_cases D:k<ws.length
  ·obtain⟨O,R,L,M,J⟩:=K.o k D;subst L;cases E:okW ws[k]with
   | false=>
    have B:Hid (q1f ws=5):=z8f (by omega) D E;have A:Hid (okW ws[k]=false):=E;generalize ws[k]=x at J A;go_wp2_with fail;refine(z6e _ _).mono ?_;rintro e N⟨rfl,rfl⟩;rw[A.o];go_wp2;go_ret;exact⟨by rw[B.o];rfl,rfl⟩
   | true=>
    have A:Hid (okW ws[k]=true):=E
    have G:Hid (∀j(h:j<ws.length),j<k+1->okW ws[j]=true):=fun j h hj=>by
     by_cases H:j=k
     ·subst H;exact E
     ·exact I.o j h (by omega)
    generalize ws[k]=x at J A;go_wp2_with fail;refine(z6e _ _).mono ?_;rintro e N⟨rfl,rfl⟩;rw[A.o];go_wp2
    go_roundw
    case rel=>exact⟨by trivial,k+1,by omega,by go_num,G.o⟩
    case measure=>simp[intOf];omega
  ·have B:Hid (q1f ws=0):=z8e (by omega) fun j h=>I.o j h (by omega)
   go_wp2;go_ret;exact⟨by rw[B.o];rfl,rfl⟩
theorem v3t(ws:List ByteArray)(a:Option Addr)(cap:Nat)(wd:Int)(w:World)(hW:Wds w a ws):
  Cw 119 #[.slice a ws.length cap,.int .i64 wd] w (q2m (q6w ws wd)):=by
 unfold Cw;have C:Hid (Wds w a ws):=hW;by_cases D:q1f ws=0
 ·have B:Hid (q1f ws=0):=D;by_cases H:wd<1
  ·have A:Hid (q6w ws wd=1):=by
    show q6w ws wd=1;rw[q6w,if_neg (by rw[B.o];simp),if_pos (.inl H)]
   go_in;go_wp2_with fail;refine(q6r ws a cap _ C.o).mono ?_;rintro e E⟨rfl,rfl⟩;rw[B.o,q1n];go_wp2;go_ret;exact⟨by rw[A.o];rfl,rfl⟩
  by_cases I:100<wd
  ·have A:Hid (q6w ws wd=1):=by
    show q6w ws wd=1;rw[q6w,if_neg (by rw[B.o];simp),if_pos (.inr I)]
   go_in;go_wp2_with fail;refine(q6r ws a cap _ C.o).mono ?_;rintro e E⟨rfl,rfl⟩;rw[B.o,q1n];go_wp2;go_ret;exact⟨by rw[A.o];rfl,rfl⟩
  ·have A:Hid (q6w ws wd=0):=by
    show q6w ws wd=0;rw[q6w,if_neg (by rw[B.o];simp),if_neg (by omega)]
   go_in;go_wp2_with fail;refine(q6r ws a cap _ C.o).mono ?_;rintro e E⟨rfl,rfl⟩;rw[B.o,q1n];go_wp2;go_ret;exact⟨by rw[A.o];rfl,rfl⟩
 ·have A:Hid (q6w ws wd=q1f ws):=by
   show q6w ws wd=q1f ws;rw[q6w,if_pos D]
  have G:Hid (q2m (q1f ws)=.iface 24 (.int .i64 (q1f ws))):=q0q D;go_in;go_wp2_with fail;refine(q6r ws a cap _ C.o).mono ?_;rintro e E⟨rfl,rfl⟩;rw[G.o];go_wp2;go_ret;exact⟨by rw[A.o,G.o];rfl,rfl⟩
theorem v3s(ws:List ByteArray)(a:Option Addr)(cap:Nat)(w:World)(h0:ws≠[])(hF:Few ws)(hW:Wds w a ws):
  Cw 156 #[.slice a ws.length cap] w (.int .i64 (ln ws)):=by
 unfold Cw;have H:Hid (Wds w a ws):=hW;have Q:0<ws.length:=List.length_pos_iff.2 h0;have P:=hF.1
 have E:Hid ((ln ws:Int)=(ws.length:Int)-1+tot ws):=by
  show(ln ws:Int)=_
  simp only[ln];omega
 have D:Hid (Few ws):=hF;go_in;go_wp2
 go_loopw [3,11] (fun s i wr=>wr=w/\∃k:Nat,k<=ws.length/\i=.int .i64 k/\s=.int .i64 ((ws.length:Int)-1+tot (ws.take k))) (fun _ i _=>ws.length-(intOf i).toNat)
 case atStart=>exact⟨rfl,0,Nat.zero_le _,rfl,by simp[tot]⟩
 case round=>
  obtain⟨rfl,k,O,rfl,rfl⟩:=hrel;by_cases A:k<ws.length
  ·obtain⟨N,R,J,K,I⟩:=H.o k A;subst J;have B:Hid (tot (ws.take (k+1))=tot (ws.take k)+ws[k].size):=v8x A;have L:=(D.o.take k).tot;have M:=D.o.2 _ (getElem_mem A);generalize ws[k]=x at I B M;generalize tot (ws.take k)=t0 at B L;go_wp2
   go_roundw
   case rel=>exact⟨by trivial,k+1,by omega,by go_num,by rw[B.o];go_num⟩
   case measure=>simp[intOf];omega
  ·have C:k=ws.length:=by omega
   subst C;have G:Hid (tot (ws.take ws.length)=tot ws):=by show _=_;rw[List.take_length]
   go_wp2;go_ret;exact⟨by rw[E.o,<-G.o];rfl,rfl⟩
theorem j4x{n wd:Nat}{last:Bool}(h:wd<n):(bd n wd last:Int)=1000*((n:Int)-wd):=by
 rw[bd,if_pos h];omega
theorem j4w{n wd:Nat}(h:¬wd<n):bd n wd true=0:=by rw[bd,if_neg h];rfl
theorem k7v{n wd:Nat}(h:¬wd<n):(bd n wd false:Int)=((wd:Int)-n)*((wd:Int)-n):=by
 rw[bd,if_neg h];simp only[Bool.false_eq_true,if_false];rw[Int.natCast_mul]
 congr 1<;>omega
theorem v9i(n wd:Nat)(last:Bool)(w:World)(hn:n<=1260)(hw:wd<=100):
  Cw 155 #[.int .i64 n,.int .i64 wd,.bool last] w (.int .i64 (bd n wd last)):=by
 unfold Cw;by_cases h:wd<n
 ·have A:Hid ((bd n wd last:Int)=1000*((n:Int)-wd)):=j4x h;have B:(wd:Int)-n<0:=by omega
  go_in;go_wp2;go_ret;exact⟨by rw[A.o];go_num,rfl⟩
 ·cases last with
  | true=>
   have A:Hid (bd n wd true=0):=j4w h;have B:¬(wd:Int)-n<0:=by omega
   go_in;go_wp2;go_ret;exact⟨by rw[A.o];rfl,rfl⟩
  | false=>
   have A:Hid ((bd n wd false:Int)=((wd:Int)-n)*((wd:Int)-n)):=k7v h;have B:¬(wd:Int)-n<0:=by omega
   obtain⟨m,H⟩:∃m:Int,m=(wd:Int)-n:=⟨_,rfl⟩;have E:IntKind.i64.wrap ((wd:Int)-n)=(wd:Int)-n:=by rw[IntKind.wrap_i64];omega
   have G:IntKind.i64.wrap (((wd:Int)-n)*((wd:Int)-n))=((wd:Int)-n)*((wd:Int)-n):=by
    have C:0<=((wd:Int)-n)*((wd:Int)-n):=Int.mul_nonneg (by omega) (by omega);have D:((wd:Int)-n)*((wd:Int)-n)<=100*100:=Int.mul_le_mul (by omega) (by omega) (by omega) (by omega);rw[IntKind.wrap_i64];omega
   go_in;go_wp2;go_ret;exact⟨by rw[A.o];rfl,rfl⟩
set_option maxHeartbeats 2000000
theorem z7u(ws:List ByteArray)(a:Option Addr)(cap:Nat)(w:World)(hW:Wds w a ws):
  Cw 72 #[.slice a ws.length cap] w (.int .i64 (q1f ws)):=by
 unfold Cw;have P:Hid (Wds w a ws):=hW;by_cases b:60<(ws.length:Int)
 ·have A:Hid (q1f ws=3):=q7p (by omega);go_in;go_wp2;go_ret;exact⟨by rw[A.o];rfl,rfl⟩
 go_in;go_wp2
 go_loopw [3] (fun i wr=>wr=w/\∃k:Nat,k<=ws.length/\i=.int .i64 k/\∀j(h:j<ws.length),j<k->okW ws[j]=true) (fun i _=>ws.length-(intOf i).toNat)
 case atStart=>exact⟨rfl,0,Nat.zero_le _,rfl,fun j _ M=>by omega⟩
 case round=>
  obtain⟨rfl,k,c,rfl,I⟩:=hrel;have N:Hid (∀j(h:j<ws.length),j<k->okW ws[j]=true):=I;by_cases J:k<ws.length
  ·obtain⟨X,f,R,S,Q⟩:=P.o k J;subst R;have V:(k:Int)<(ws.length:Int):=by omega
   have H:Hid (okW ws[k]=true->∀j(h:j<ws.length),j<k+1->okW ws[j]=true):=fun C j h M=>by
    by_cases E:j=k
    ·subst E;exact C
    ·exact N.o j h (by omega)
   have B:Hid (okW ws[k]=false->q1f ws=5):=fun C=>z8f (by omega) J C
   generalize ws[k]=s at Q H B;by_cases Y:(s.size:Int)<1
   ·have A:Hid (q1f ws=5):=B.o (by simp[okW];omega);go_wp2;go_ret;exact⟨by rw[A.o];rfl,rfl⟩
   by_cases Z:20<(s.size:Int)
   ·have A:Hid (q1f ws=5):=B.o (by simp[okW];omega);go_wp2;go_ret;exact⟨by rw[A.o];rfl,rfl⟩
   go_wp2
   go_loopw [4] (fun i wx=>wx=wr/\∃m:Nat,m<=s.size/\i=.int .i64 m/\∀j(h:j<s.size),j<m->q7v s[j]=true) (fun i _=>s.size-(intOf i).toNat)
   case atStart=>exact⟨rfl,0,Nat.zero_le _,rfl,fun j _ M=>by omega⟩
   case round=>
    obtain⟨rfl,m,d,rfl,D⟩:=hrel;have G:Hid (∀j(h:j<s.size),j<m->q7v s[j]=true):=D;by_cases K:m<s.size
    ·have W:(m:Int)<(s.size:Int):=by omega
     cases C:q7v s[m]with
     | false=>
      have A:Hid (q1f ws=5):=B.o (v0n K C);have L:=z6b C;rcases L with L|⟨L,U⟩
      ·go_wp2;go_ret;exact⟨by rw[A.o];rfl,rfl⟩
      ·go_wp2;go_ret;exact⟨by rw[A.o];rfl,rfl⟩
     | true=>
      have O:Hid (q7v s[m]=true):=C;obtain⟨L,U⟩:=z8d C;go_wp2
      go_roundw
      case rel=>
       refine⟨by trivial,m+1,by omega,by go_num,?_⟩;intro j h M;by_cases E:j=m
       ·subst E;exact O.o
       ·exact G.o j h (by omega)
      case measure=>simp[intOf];omega
    ·have A:Hid (∀j(h:j<ws.length),j<k+1->okW ws[j]=true):=H.o (k9m (by omega) (by omega) fun j h=>G.o j h (by omega));go_wp2
     go_roundw
     case rel=>exact⟨by trivial,k+1,by omega,by go_num,A.o⟩
     case measure=>simp[intOf];omega
  ·have A:Hid (q1f ws=0):=z8e (by omega) fun j h=>N.o j h (by omega)
   go_wp2;go_ret;exact⟨by rw[A.o];rfl,rfl⟩
theorem q7g(ws:List ByteArray)(a:Option Addr)(cap:Nat)(w:World)(hF:Few ws)(hW:Wds w a ws):
  Cw 60 #[.slice a ws.length cap] w (.string (jnS ws)):=by
 unfold Cw;have L:Hid (Wds w a ws):=hW;have G:Hid (Few ws):=hF;have R:=hF.1;clear hW hF;go_in;go_wp2
 go_loopw [3,4] (fun s i wr=>wr=w/\∃k:Nat,k<=ws.length/\i=.int .i64 k/\s=.string (jnS (ws.take k))) (fun _ i _=>ws.length-(intOf i).toNat)
 case atStart=>exact⟨rfl,0,Nat.zero_le _,rfl,rfl⟩
 case round=>
  obtain⟨rfl,k,Q,rfl,rfl⟩:=hrel;by_cases A:k<ws.length
  ·obtain⟨P,S,M,N,H⟩:=L.o k A;subst M;have O:(k:Int)<(ws.length:Int):=by omega
   have I:=G.o.2 _ (getElem_mem A);have J:(jnS (ws.take k)).size<=1260:=by rw[z4a];exact(G.o.take k).ln
   by_cases C:k=0
   ·have B:Hid (jnS (ws.take (k+1))=jnS (ws.take k)++ws[k]):=by
     show _=_;subst C;rw[List.take_zero,y3x,j7r A];exact(ByteArray.empty_append).symm
    have D:¬(0:Int)<(k:Int):=by omega
    generalize ws[k]=x at H B I;generalize jnS (ws.take k)=z at B J;clear C;go_wp2
    go_roundw
    case rel=>exact⟨by trivial,k+1,by omega,by go_num,by rw[B.o]⟩
    case measure=>simp[intOf];omega
   ·have B:Hid (jnS (ws.take (k+1))=jnS (ws.take k)++⟨#[32]⟩++ws[k]):=v6e (by omega) A;have D:(0:Int)<(k:Int):=by omega
    generalize ws[k]=x at H B I;generalize jnS (ws.take k)=z at B J;clear C;go_wp2
    go_roundw
    case rel=>exact⟨by trivial,k+1,by omega,by go_num,by rw[B.o]⟩
    case measure=>simp[intOf];omega
  ·have E:k=ws.length:=by omega
   subst E;have K:Hid (jnS (ws.take ws.length)=jnS ws):=by show _=_;rw[List.take_length]
   go_wp2;go_ret;exact⟨by rw[<-K.o];rfl,rfl⟩
theorem v7s(ws:List ByteArray)(a:Option Addr)(cap wd:Nat)(last:Bool)(w:World)(hF:Few ws)(hw:wd<=100)(hW:Wds w a ws):
  Cw 59 #[.slice a ws.length cap,.int .i64 wd,.bool last] w (.int .i64 (bd (ln ws) wd last)):=by
 unfold Cw;have D:Hid (Wds w a ws):=hW;have C:Hid (Few ws):=hF;have I:=hF.ln;have B:Hid ((jnS ws).size=ln ws):=z4a ws;generalize ln ws=n at I B;by_cases h:wd<n
 ·have A:Hid ((bd n wd last:Int)=1000*((n:Int)-wd)):=j4x h;have E:(wd:Int)<n:=by omega
  go_in;go_wp2_with fail;refine(q7g ws a cap _ C.o D.o).mono ?_;rintro e H⟨rfl,rfl⟩;have G:=B.o;go_wp2;go_ret;exact⟨by rw[A.o];go_num,rfl⟩
 ·cases last with
  | true=>
   have A:Hid (bd n wd true=0):=j4w h;have E:¬(wd:Int)<n:=by omega
   go_in;go_wp2_with fail;refine(q7g ws a cap _ C.o D.o).mono ?_;rintro e H⟨rfl,rfl⟩;have G:=B.o;go_wp2;go_ret;exact⟨by rw[A.o];rfl,rfl⟩
  | false=>
   have A:Hid ((bd n wd false:Int)=((wd:Int)-n)*((wd:Int)-n)):=k7v h;have E:¬(wd:Int)<n:=by omega
   have L:IntKind.i64.wrap ((wd:Int)-n)=(wd:Int)-n:=by rw[IntKind.wrap_i64];omega
   have M:IntKind.i64.wrap (((wd:Int)-n)*((wd:Int)-n))=((wd:Int)-n)*((wd:Int)-n):=by
    have J:0<=((wd:Int)-n)*((wd:Int)-n):=Int.mul_nonneg (by omega) (by omega);have K:((wd:Int)-n)*((wd:Int)-n)<=100*100:=Int.mul_le_mul (by omega) (by omega) (by omega) (by omega);rw[IntKind.wrap_i64];omega
   go_in;go_wp2_with fail;refine(q7g ws a cap _ C.o D.o).mono ?_;rintro e H⟨rfl,rfl⟩;have G:=B.o;go_wp2;go_ret;exact⟨by rw[A.o];rfl,rfl⟩
theorem y5l(a:Option Addr)(n c k:Nat)(hk:k<=c)(W:World):
  (Instr.slice 51 (.slice a n c) none (some ↑(k:Int)) none).run prog W=.ok (.slice a k c) W:=by
 rw[run_slice_h W 51 a n c Tryz.underlying51 .i64 (k:Int) (by omega) (by omega)];have A:(sizeOf (prog.elem 51)).run prog W=.ok 1 W:=by kernel_rfl
 rw[A];simp[Result.andThen,sliced,Addr.add]
theorem y5m{B:Nat}{w:World}{b o c k:Nat}{ws:List ByteArray}(h:z3r B w (some ↑(b,o)) ws)(hk:k<=ws.length)(hc:ws.length<=c):
  ∃A,(∀W:World,(Instr.slice 51 (.slice (some ↑(b,o)) ws.length c) (some ↑(k:Int)) none none).run prog W=.ok (.slice A (ws.drop k).length (c-k)) W)/\z3r B w A (ws.drop k):=by
 refine⟨if c=k then some ↑(b,o)else some ↑(b,o+k),fun W=>?_,?_⟩
 ·rw[run_slice_l W 51 _ ws.length c Tryz.underlying51 .i64 (k:Int) (by omega) (by omega)];have D:(sizeOf (prog.elem 51)).run prog W=.ok 1 W:=by kernel_rfl
  rw[D]
  have C:((b,o):Addr).add k=(b,o+k):=by
   unfold Addr.add
   split
   ·rename_i h;subst h;rfl
   ·rfl
  simp[Result.andThen,sliced,C]
 ·by_cases e:c=k
  ·have:ws.drop k=[]:=List.drop_eq_nil_of_le (by omega)
   rw[this];exact z3r.nil _ _ _
  ·rw[if_neg e];exact h.drop k
theorem v1u(b o n c i k:Nat)(hi:i<c)(hk:i+k<=c)(W:World):
  (Instr.slice 51 (.slice (some ↑(b,o)) n c) (some ↑(i:Int)) (some ↑((i:Int)+(k:Int))) none).run prog W=.ok (.slice (some ↑(b,o+i)) k (c-i)) W:=by
 rw[run_slice_lh W 51 _ n c Tryz.underlying51 .i64 .i64 (i:Int) ((i:Int)+(k:Int)) (by omega) (by omega) (by omega)];have E:(sizeOf (prog.elem 51)).run prog W=.ok 1 W:=by kernel_rfl
 rw[E]
 have D:((b,o):Addr).add i=(b,o+i):=by
  unfold Addr.add
  split
  ·rename_i h;subst h;rfl
  ·rfl
 have A:((i:Int)+(k:Int)).toNat=i+k:=by omega
 have B:¬c=i:=by omega
 have C:i+k-i=k:=by omega
 simp[Result.andThen,sliced,D,A,B,C]
theorem z3f:(prog.info? 3).map (fun i=>(i.zero,i.size,i.bytes))=some (some (.int .i64 0),1,8):=by kernel_rfl
theorem z1l:(prog.info? 9).map (fun i=>(i.zero,i.size,i.bytes))=some (some (.string ⟨#[]⟩),1,16):=by kernel_rfl
def k1g(w:World)(b n:Nat):Prop:=∃cs T,w.heap[b]?=some (.cells cs T (0,0))/\cs.size=n
theorem k1g.lt{w:World}{b n:Nat}(h:k1g w b n):b<w.heap.size:=by
 obtain⟨B,T,h,_⟩:=h;rcases Nat.lt_or_ge b w.heap.size with A|A
 ·exact A
 ·simp[Array.getElem?_eq_none A]at h
theorem k1g.cell{w:World}{b n i:Nat}(h:k1g w b n)(hi:i<n):∃y,w.cell? (b,i)=some y:=by
 obtain⟨A,T,h,B⟩:=h;refine⟨A[i],?_⟩;simp[World.cell?,h]
theorem k1g.frozen{w:World}{b n i:Nat}(h:k1g w b n):w.frozen? (b,i)=false:=by
 obtain⟨A,T,h,B⟩:=h;simp[World.frozen?,h]
theorem k1g.kept{w w':World}{b n:Nat}(h:k1g w b n)(hb:w'.heap[b]?=w.heap[b]?):k1g w' b n:=by
 obtain⟨A,T,h,B⟩:=h;exact⟨A,T,hb.trans h,B⟩
theorem k1g.set{w:World}{b n c i:Nat}{v:Value}(h:k1g w b n):k1g (w.setCell (c,i) v) b n:=by
 by_cases e:c=b
 ·subst e;obtain⟨A,T,h,B⟩:=h;exact⟨A.setIfInBounds i v,T,by simp[World.setCell,Array.getElem?_modify,h],by simpa using B⟩
 ·exact h.kept (Below.heap_setCell _ _ _ _ (Ne.symm e))
theorem k3f{n j:Nat}(z:Value)(h:j<n):(madeCells #[z] n)[j]?=some z:=by
 simp[madeCells,h,Nat.mod_one]
def q3b(ks:List Nat):List Value:=ks.map fun(k:Nat)=>.int .i64 (k:Int)
theorem z3i(a b:List Nat):q3b (a++b)=q3b a++q3b b:=by simp[q3b]
def z2b(B:Nat)(v:Value)(ks:List Nat)(w:World):Prop:=w.ownsRow B 3 1 v ks.length (q3b ks)
theorem q0f{B:Nat}{w w':World}(h:Below B w w')(n:Nat):Below B w (w'.drewN n):=h.trans ⟨rfl,rfl,rfl,Nat.le_refl _,fun _ _=>rfl⟩
theorem j5b{B:Nat}{w w':World}{b1 o1 b2 o2:Nat}{v1 v2:Value}(h:Below B w w')(h1:B<=b1)(h2:B<=b2):Below B w ((w'.setCell ⟨b1,o1,none⟩ v1).setCell ⟨b2,o2,none⟩ v2):=
 (h.setCell (p:=⟨b1,o1,none⟩) h1 _).setCell (p:=⟨b2,o2,none⟩) h2 _
theorem z7p{B:Nat}{w:World}{A:Option Addr}{n c:Nat}{ks:List Nat}(h:z2b B (.slice A n c) ks w)(j:Nat)(hj:j<ks.length):∃g,A=some ⟨g,0,none⟩/\g<w.heap.size/\w.cell? ⟨g,j,none⟩=some (.int .i64 ((ks[j]:Nat):Int)):=by
 rcases h.2 with⟨E,K⟩|⟨g,c,H,E,_,G,I,_,J,C⟩
 ·omega
 ·simp only[Value.slice.injEq]at E;obtain⟨rfl,rfl,rfl⟩:=E;refine⟨g,rfl,(Array.getElem?_eq_some_iff.1 G).1,?_⟩;have D:(q3b ks)[j]?=some ↑((ks[j]:Nat):Int):=by simp[q3b,hj]
  rw[<-C]at D;rw[List.getElem?_take_of_lt (by omega)]at D;simp only[World.cell?,G];simpa using D
theorem q2r{w w':World}{B e A n:Nat}{v:Value}{xs:List Value}(h:w.ownsRow B e A v n xs)(hb:Below w w w'):w'.ownsRow B e A v n xs:=by
 refine⟨h.1,?_⟩;rcases h.2 with G|⟨g,c,D,rfl,H,E,C⟩
 ·exact .inl G
 ·exact .inr ⟨g,c,D,rfl,H,(hb.block g (Array.getElem?_eq_some_iff.1 E).1).trans E,C⟩
def strCells(xs:List ByteArray):List Value:=xs.map fun x=>.string x
theorem q2f(a b:List ByteArray):strCells (a++b)=strCells a++strCells b:=by simp[strCells]
def q2i(B:Nat)(v:Value)(xs:List ByteArray)(w:World):Prop:=w.ownsRow B 9 1 v xs.length (strCells xs)
theorem q3t{B:Nat}{w:World}{A:Option Addr}{n c:Nat}{xs:List ByteArray}(h:q2i B (.slice A n c) xs w):Wds w A xs:=by
 intro j I;rcases h.2 with⟨E,L⟩|⟨g,c,H,E,_,G,J,_,K,C⟩
 ·omega
 ·simp only[Value.slice.injEq]at E;obtain⟨rfl,rfl,rfl⟩:=E;refine⟨g,0,rfl,(Array.getElem?_eq_some_iff.1 G).1,?_⟩;have D:(strCells xs)[j]?=some (.string xs[j]):=by simp[strCells,I]
  rw[<-C]at D;rw[List.getElem?_take_of_lt (by omega)]at D;rw[Nat.zero_add];simp only[World.cell?,G];simpa using D
theorem v0x{w:World}{B e A n k:Nat}{v:Value}{xs:List Value}(h:w.ownsRow B e A v n xs)(hk:v.ownBlock=some k):∃cur,w.heap[k]?=some (.cells cur e (0,0)):=by
 rcases h.2 with⟨rfl,_⟩|⟨g,c,cur,rfl,_,C,_⟩
 ·simp[Value.ownBlock]at hk
 ·simp only[Value.ownBlock,Option.some.injEq]at hk;subst hk;exact⟨cur,C⟩
theorem z2s{w w':World}{B B' e e' A C n n':Nat}{v v':Value}{xs D:List Value}(h:w.ownsRow B e A v n xs)(h':w.ownsRow B' e' C v' n' D)(he:e≠e')(hg:w.grownBy w' v'.ownBlock):w'.ownsRow B e A v n xs:=by
 refine h.kept hg ?_;cases H:v.ownBlock with
 | none=>exact .inl rfl
 | some k=>
  refine .inr fun e0=>?_
  obtain⟨I,G⟩:=v0x h H;obtain⟨J,E⟩:=v0x h' e0.symm;rw[G]at E;cases E;exact he rfl
theorem y5g(n:Nat)(ws:List ByteArray)(hn:ws.length=n)(a:Option Addr)(cap wd:Nat)(last:Bool)(w:World)(hF:Few ws)(hw:wd<=100)(hW:Wds w a ws):
  Cw 59 #[.slice a n cap,.int .i64 wd,.bool last] w (.int .i64 (bd (ln ws) wd last)):=by
 unfold Cw;subst hn;exact v7s ws a cap wd last w hF hw hW
theorem v9m(n:Nat)(ws:List ByteArray)(hn:ws.length=n)(a:Option Addr)(cap:Nat)(w:World)(h0:ws≠[])(hF:Few ws)(hW:Wds w a ws):
  Cw 156 #[.slice a n cap] w (.int .i64 (ln ws)):=by
 unfold Cw;subst hn;exact v3s ws a cap w h0 hF hW
end Go.Proofs.YtchdplceopegoaaGreatDoor
