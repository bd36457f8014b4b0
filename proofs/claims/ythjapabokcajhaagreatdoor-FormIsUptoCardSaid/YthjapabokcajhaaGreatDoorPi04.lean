/- Texts as one: FlatS, BstS, LnV, LnR, LnW, LnX, Base, FilM, DocA0, TreM, LayO, WayS, WayQ, LayZ, FilQ, IntB. -/
import Derived.Test.YthjapabokcajhaaGreatDoorPi03
import Derived.WalkKit
import Derived.Outline
import Derived.WalkLawsBesides
open Go.Proofs.Tryz
namespace Go.Proofs.YthjapabokcajhaaGreatDoor
theorem q7y:∀(t t':Tr)(r r':List Nd),t.Wf->t'.Wf->t.nodes++r=t'.nodes++r'->t=t'/\r=r'
 | .leaf x,t',r,r',h,h',e=>by
  cases t' with
  | leaf y=>simp only[Tr.nodes,List.cons_append,List.nil_append,List.cons.injEq]at e;exact⟨by rw[e.1],e.2⟩
  | one y a=>
   simp only[Tr.nodes,List.cons_append,List.nil_append,List.cons.injEq]at e;have h1:=h.2;have h2:=h'.2.1;rw[e.1,h2]at h1;cases h1
  | two y a b=>
   simp only[Tr.nodes,List.cons_append,List.nil_append,List.cons.injEq]at e;have h1:=h.2;have h2:=h'.2.1;rw[e.1,h2]at h1;cases h1
 | .one x a,t',r,r',h,h',e=>by
  cases t' with
  | leaf y=>
   simp only[Tr.nodes,List.cons_append,List.nil_append,List.cons.injEq]at e;have h1:=h.2.1;have h2:=h'.2;rw[e.1,h2]at h1;cases h1
  | one y a'=>
   simp only[Tr.nodes,List.cons_append,List.cons.injEq]at e;obtain⟨e1,e2⟩:=q7y a a' r r' h.2.2 h'.2.2 e.2;exact⟨by rw[e.1,e1],e2⟩
  | two y a' b=>
   simp only[Tr.nodes,List.cons_append,List.cons.injEq]at e;have h1:=h.2.1;have h2:=h'.2.1;rw[e.1,h2]at h1;cases h1
 | .two x a b,t',r,r',h,h',e=>by
  cases t' with
  | leaf y=>
   simp only[Tr.nodes,List.cons_append,List.nil_append,List.cons.injEq]at e;have h1:=h.2.1;have h2:=h'.2;rw[e.1,h2]at h1;cases h1
  | one y a'=>
   simp only[Tr.nodes,List.cons_append,List.cons.injEq]at e;have h1:=h.2.1;have h2:=h'.2.1;rw[e.1,h2]at h1;cases h1
  | two y a' b'=>
   simp only[Tr.nodes,List.cons_append,List.append_assoc,List.cons.injEq]at e;obtain⟨e1,e2⟩:=q7y a a' _ _ h.2.2.1 h'.2.2.1 e.2;obtain⟨e3,e4⟩:=q7y b b' r r' h.2.2.2 h'.2.2.2 e2;exact⟨by rw[e.1,e1,e3],e4⟩
theorem j6y{t t':Tr}(h:t.Wf)(h':t'.Wf)(e:t.nodes=t'.nodes):t=t':=(q7y t t' [] [] h h' (by rw[e])).1
noncomputable def v6o(ds:List Nd)(h:q3c ds=0):Tr:=Classical.choose (z8g h)
theorem q9f{ds:List Nd}(h:q3c ds=0):(v6o ds h).Wf:=(Classical.choose_spec (z8g h)).1
theorem q3s{ds:List Nd}(h:q3c ds=0):ds=(v6o ds h).nodes:=(Classical.choose_spec (z8g h)).2
theorem z8f{ds:List Nd}(h:q3c ds=0){t:Tr}(ht:t.Wf)(e:ds=t.nodes):v6o ds h=t:=j6y (q9f h) ht ((q3s h).symm.trans e)
open Classical in
noncomputable def flS(ds:List Nd):ByteArray:=if h:q3c ds=0 then(v6o ds h).line else⟨#[]⟩
open Classical in
noncomputable def flB(ds:List Nd):Bool:=if h:q3c ds=0 then(v6o ds h).isFlat else false
theorem j3w{ds:List Nd}{t:Tr}(ht:t.Wf)(e:ds=t.nodes)(hl:ds.length<=400):q3c ds=0/\flS ds=t.line/\flB ds=t.isFlat:=by
 have h:q3c ds=0:=by rw[e];exact z1b ht (by rw[<-e];exact hl)
 refine⟨h,?_,?_⟩
 ·rw[flS,dif_pos h,z8f h ht e]
 ·rw[flB,dif_pos h,z8f h ht e]
theorem y3y{ds:List Nd}(h:q3c ds≠0):flS ds=⟨#[]⟩/\flB ds=false:=⟨by rw[flS,dif_neg h],by rw[flB,dif_neg h]⟩
theorem j5h{x:Nd}{a c:Tr}(h:x.op=6):Tr.line (.two x a c)=(if(a.isFlat&&c.isFlat)=true then a.line++c.line else⟨#[]⟩)/\Tr.isFlat (.two x a c)=(a.isFlat&&c.isFlat):=by
 unfold Tr.line Tr.isFlat;simp only[Tr.flat,if_pos h];cases ha:a.flat with
 | none=>simp
 | some s=>
  cases hc:c.flat with
  | none=>simp
  | some t=>exact⟨q6a (by simp),by simp⟩
theorem z3r(wd:Nat):∀(s:List UInt8)(c c':Nat),wd<=c->wd<=c'->(q2z wd c s).1=(q2z wd c' s).1/\(q2z wd c s).2.1=(q2z wd c' s).2.1
 | [],c,c',_,_=>⟨rfl,rfl⟩
 | b::s,c,c',h,h'=>by
  by_cases hb:b=10
  ·simp only[q2z,if_pos hb,and_self]
  ·simp only[q2z,if_neg hb,if_pos h,if_pos h'];obtain⟨e1,e2⟩:=z3r wd s (c+1) (c'+1) (by omega) (by omega);exact⟨by rw[e1],e2⟩
theorem k5t(wd c:Nat)(s:List UInt8):(q2z wd c s).1=(q2z wd (min c wd) s).1/\(q2z wd c s).2.1=(q2z wd (min c wd) s).2.1:=by
 rcases Nat.le_total c wd with h|h
 ·rw[Nat.min_eq_left h];exact⟨rfl,rfl⟩
 ·rw[Nat.min_eq_right h];exact z3r wd s c wd h Zl
theorem v8y(wd c:Nat)(ks:List (Nat × Tr)):bst wd c ks=bst wd (min c wd) ks:=by
 unfold bst q4k
 congr 2
 funext p
 rw[(k5t wd c p.1).1,(k5t wd c p.1).2]
theorem z2x(wd:Nat):∀(s:List UInt8)(c:Nat),(∀b∈s,b≠10)->q2z wd c s=((c+s.length-wd)-(c-wd),0,c+s.length)
 | [],c,_=>by simp[q2z]
 | b::s,c,h=>by
  have hb:b≠10:=h b (by simp);simp only[q2z,if_neg hb,z2x wd s (c+1) (fun x hx=>h x (by simp[hx])),List.length_cons,Prod.mk.injEq,true_and];refine⟨?_,by omega⟩
  split<;>omega
theorem j2u(wd c d:Nat):q2z wd c (10::List.replicate d 32)=(d-wd,1,d):=by
 simp only[q2z,if_pos];rw[z2x wd (List.replicate d 32) 0 (by intro b hb;rw[(List.mem_replicate.1 hb).2];decide)];simp
/-! ### How much a way may cost at most -/
def Tr.lf:Tr->Nat
 | .leaf _=>1
 | .one _ a=>a.lf
 | .two _ a b=>a.lf+b.lf
def Tr.dsum:Tr->Nat
 | .leaf _=>0
 | .one _ a=>8+a.dsum
 | .two _ a b=>a.dsum+b.dsum
theorem q9m:∀t:Tr,8*t.lf+t.dsum<=8*t.nodes.length
 | .leaf _=>by simp[Tr.lf,Tr.dsum,Tr.nodes]
 | .one _ a=>by have:=q9m a;simp only[Tr.lf,Tr.dsum,Tr.nodes,List.length_cons];omega
 | .two _ a b=>by have:=q9m a;have:=q9m b;simp only[Tr.lf,Tr.dsum,Tr.nodes,List.length_cons,List.length_append];omega
theorem q9h:∀(t:Tr)(s:List UInt8),t.Wf->t.flat=some s->s.length<=20*t.lf
 | .leaf x,s,h,e=>by
  obtain⟨_,_,_,_,h5,_⟩:=q1x h.1;simp only[Tr.flat]at e;simp only[Tr.lf]
  split at e
  ·rename_i h1;cases e
   have:=q3y (h5 h1)
   have e:=q0q x.tx;omega
  ·split at e
   ·cases e;simp
   ·split at e
    ·cases e
    ·cases e;simp
 | .one x a,s,h,e=>q9h a s h.2.2 e
 | .two x a b,s,h,e=>by
  simp only[Tr.flat]at e;simp only[Tr.lf]
  split at e
  ·cases ha:a.flat with
   | none=>rw[ha]at e;cases e
   | some u=>
    cases hb:b.flat with
    | none=>rw[ha,hb]at e;cases e
    | some v=>
     rw[ha,hb]at e;cases e
     have:=q9h a u h.2.2.1 ha
     have:=q9h b v h.2.2.2 hb
     rw[List.length_append];omega
  ·have:=q9h a s h.2.2.1 e
   omega
theorem q6w:∀(t:Tr)(d:Nat)(p:List UInt8 × List Int),t.Wf->p∈t.outs d->p.1.length<=t.lf*(21+d+t.dsum)
 | .leaf x,d,p,h,hp=>by
  obtain⟨_,_,_,_,h5,_⟩:=q1x h.1;simp only[Tr.outs,List.mem_singleton]at hp;subst hp;simp only[Tr.lf,Tr.dsum]
  split
  ·rename_i h1
   have:=q3y (h5 h1)
   have e:=q0q x.tx;omega
  ·split
   ·simp
   ·simp;omega
 | .one x a,d,p,h,hp=>by
  obtain⟨_,_,_,_,_,h6⟩:=q1x h.1;simp only[Tr.outs]at hp;simp only[Tr.lf,Tr.dsum]
  split at hp
  ·rename_i h7;have h1:=q6w a _ p h.2.2 hp;have h2:a.lf*(21+(d+x.n.toNat)+a.dsum)<=a.lf*(21+d+(8+a.dsum)):=Nat.mul_le_mul_left _ (by have:=h6 h7;omega);omega
  ·rcases List.mem_append.1 hp with hp|hp
   ·cases hf:a.flat with
    | none=>rw[hf]at hp;simp at hp
    | some s=>
     rw[hf]at hp;simp only[List.mem_singleton]at hp;subst hp;have h1:=q9h a s h.2.2 hf;have h2:a.lf*20<=a.lf*(21+d+(8+a.dsum)):=Nat.mul_le_mul_left _ (by omega);dsimp only;omega
   ·obtain⟨q,hq,rfl⟩:=List.mem_map.1 hp;have h1:=q6w a d q h.2.2 hq;have h2:a.lf*(21+d+a.dsum)<=a.lf*(21+d+(8+a.dsum)):=Nat.mul_le_mul_left _ (by omega);dsimp only;omega
 | .two x a b,d,p,h,hp=>by
  simp only[Tr.outs]at hp;simp only[Tr.lf,Tr.dsum];have ma:a.lf*(21+d+a.dsum)<=a.lf*(21+d+(a.dsum+b.dsum)):=Nat.mul_le_mul_left _ (by omega);have mb:b.lf*(21+d+b.dsum)<=b.lf*(21+d+(a.dsum+b.dsum)):=Nat.mul_le_mul_left _ (by omega);rw[Nat.add_mul]
  split at hp
  ·obtain⟨u,hu,hp⟩:=List.mem_flatMap.1 hp;obtain⟨v,hv,rfl⟩:=List.mem_map.1 hp;have h1:=q6w a d u h.2.2.1 hu;have h2:=q6w b d v h.2.2.2 hv;simp only[List.length_append];omega
  ·rcases List.mem_append.1 hp with hp|hp
   ·obtain⟨q,hq,rfl⟩:=List.mem_map.1 hp;have h1:=q6w a d q h.2.2.1 hq;dsimp only;omega
   ·obtain⟨q,hq,rfl⟩:=List.mem_map.1 hp;have h1:=q6w b d q h.2.2.2 hq;dsimp only;omega
def lfK:List (Nat × Tr)->Nat
 | []=>0
 | (_,t)::ks=>t.lf+lfK ks
def KB(M:Nat)(ks:List (Nat × Tr)):Prop:=∀p∈ks,p.1+p.2.dsum<=M/\p.2.Wf
theorem k2a(M:Nat):∀(ks:List (Nat × Tr))(p:List UInt8 × List Int),KB M ks->p∈q5i ks->p.1.length<=lfK ks*(21+M)
 | [],p,_,hp=>by simp only[q5i,List.mem_singleton]at hp;subst hp;simp
 | (d,t)::ks,p,hk,hp=>by
  rw[q5i]at hp;obtain⟨u,hu,hp⟩:=List.mem_flatMap.1 hp;obtain⟨v,hv,rfl⟩:=List.mem_map.1 hp;obtain⟨k1,k2⟩:=hk (d,t) (by simp);have h1:=q6w t d u k2 hu;have h2:=k2a M ks v (fun q hq=>hk q (by simp[hq])) hv;have h3:t.lf*(21+d+t.dsum)<=t.lf*(21+M):=Nat.mul_le_mul_left _ (by dsimp only at k1;omega);simp only[lfK,List.length_append,Nat.add_mul];omega
theorem k3j(wd:Nat):∀(s:List UInt8)(c:Nat),(q2z wd c s).1<=s.length/\(q2z wd c s).2.1<=s.length
 | [],c=>by simp[q2z]
 | b::s,c=>by
  simp only[q2z,List.length_cons]
  split
  ·have:=k3j wd s 0
   dsimp only;omega
  ·have:=k3j wd s (c+1)
   dsimp only
   split<;>omega
def bs(wd c:Nat)(ks:List (Nat × Tr)):Crs:=(bst wd c ks).getD ((0,0),[])
theorem q3i(wd c:Nat)(ks:List (Nat × Tr)):bst wd c ks=some (bs wd c ks):=by
 obtain⟨a,h⟩:=k5q wd c ks;rw[bs,h];rfl
theorem y7k(wd c M:Nat)(ks:List (Nat × Tr))(h:KB M ks):(bs wd c ks).1.1<=lfK ks*(21+M)/\(bs wd c ks).1.2<=lfK ks*(21+M):=by
 obtain⟨p,q,e,_,_⟩:=z8m (q3i wd c ks);have hin:bs wd c ks∈q4k wd c ks:=by rw[e];simp
 obtain⟨x,hx,hxe⟩:=List.mem_map.1 hin;rw[<-hxe];have h1:=k2a M ks x h hx;have h2:=k3j wd x.1 c;dsimp only;omega
theorem most:∀D,D<401->(400-D)*(21+8*D)<=400000:=by
 set_option maxRecDepth 100000 in decide
theorem y1e{L M n:Nat}(h:8*L+M<=8*n)(hn:n<=400):L*(21+M)<=400000:=by
 have h1:=most ((M+7) / 8) (by omega);have h2:L*(21+M)<=(400-(M+7) / 8)*(21+8*((M+7) / 8)):=Nat.mul_le_mul (by omega) (by omega);omega
theorem y3o(wd c:Nat):bs wd c []=((0,0),[]):=by rw[bs,v8z];rfl
theorem j2i(wd c:Nat)(ks:List (Nat × Tr)):bs wd c ks=bs wd (min c wd) ks:=by rw[bs,v8y];rfl
theorem v8w{wd c d:Nat}{x:Nd}{ks:List (Nat × Tr)}(hx:q1c x=0)(h:x.op=1)(hc:c<=wd):bs wd c ((d,.leaf x)::ks)=q5t (c+x.tx.size-wd) 0 [] (bs wd (min (c+x.tx.size) wd) ks):=by
 have hs:∀b∈x.tx.data.toList,b≠10:=v0a hx h;have e:=z8a wd c d x ks x.tx.data.toList (by rw[if_pos h]);rw[z2x wd _ c hs,q0q,q3i,q3i wd (c+x.tx.size),Option.map_some,Option.some.injEq,j2i wd (c+x.tx.size)]at e;rw[e,Nat.sub_eq_zero_of_le hc,Nat.sub_zero]
theorem v8v{wd c d:Nat}{x:Nd}{ks:List (Nat × Tr)}(h:x.op≠1/\x.op≠5):bs wd c ((d,.leaf x)::ks)=q5t (d-wd) 1 [] (bs wd (min d wd) ks):=by
 have e:=z8a wd c d x ks (10::List.replicate d 32) (by rw[if_neg h.1,if_neg h.2]);rw[j2u,q3i,q3i wd d,Option.map_some,Option.some.injEq,j2i wd d]at e;exact e
theorem v8x{wd c d:Nat}{x:Nd}{ks:List (Nat × Tr)}(h:x.op=5):bs wd c ((d,.leaf x)::ks)=q5t 0 0 [] (bs wd c ks):=by
 have e:=z8a wd c d x ks [] (by rw[if_neg (by omega),if_pos h]);rw[q3i,q2z,q3i wd c ks,Option.map_some,Option.some.injEq]at e;exact e
theorem v8t{wd c d:Nat}{x:Nd}{a:Tr}{ks:List (Nat × Tr)}(h:x.op=7):bs wd c ((d,.one x a)::ks)=bs wd c ((d+x.n.toNat,a)::ks):=by rw[bs,v1i wd c d x a ks h];rfl
theorem v8s{wd c d:Nat}{x:Nd}{a b:Tr}{ks:List (Nat × Tr)}(h:x.op=6):bs wd c ((d,.two x a b)::ks)=bs wd c ((d,a)::(d,b)::ks):=by rw[bs,v1h wd c d x a b ks h];rfl
theorem j2h{wd c d:Nat}{x:Nd}{a b:Tr}{ks:List (Nat × Tr)}(h:x.op≠6):bs wd c ((d,.two x a b)::ks)=z9w (q5t 0 0 [0] (bs wd c ((d,a)::ks))) (q5t 0 0 [1] (bs wd c ((d,b)::ks))):=by
 have e:=k8j wd c d x a b ks h;rw[q3i,q3i wd c ((d,a)::ks),q3i wd c ((d,b)::ks),Option.map_some,Option.map_some,q6b,Option.some.injEq]at e;exact e
theorem v1g{wd c d:Nat}{x:Nd}{a:Tr}{ks:List (Nat × Tr)}{s:List UInt8}(h:x.op≠7)(ha:a.Wf)(hf:a.flat=some s)(hc:c<=wd):
  bs wd c ((d,.one x a)::ks)=z9w (q5t (c+s.length-wd) 0 [0] (bs wd (min (c+s.length) wd) ks)) (q5t 0 0 [1] (bs wd c ((d,a)::ks))):=by
 have e:=k0j wd c d x a ks h;rw[hf]at e;dsimp only at e;rw[z2x wd _ c (q7u a s ha hf),q3i,q3i wd (c+s.length),q3i wd c ((d,a)::ks),Option.map_some,Option.map_some,q6b,Option.some.injEq,j2i wd (c+s.length)]at e;rw[e,Nat.sub_eq_zero_of_le hc,Nat.sub_zero]
theorem v8u{wd c d:Nat}{x:Nd}{a:Tr}{ks:List (Nat × Tr)}(h:x.op≠7)(hf:a.flat=none):bs wd c ((d,.one x a)::ks)=q5t 0 0 [1] (bs wd c ((d,a)::ks)):=by
 have e:=k0j wd c d x a ks h;rw[hf]at e;dsimp only at e;rw[q3i,q3i wd c ((d,a)::ks),Option.map_some,q6b,Option.some.injEq]at e;exact e
end Go.Proofs.YthjapabokcajhaaGreatDoor
namespace Go.Proofs.YthjapabokcajhaaGreatDoor
open Go Go.RowKit
def ntL(wd:Nat)(tx:ByteArray):List UInt8:=if q0e (btL tx)=[]then [35,10]else(j5k ((q0e (btL tx)).map wbS) (z3s (wd-2) ((q0e (btL tx)).map wbS))).flatMap fun l=>35::32::(btL l++[10])
def dcL(wd:Nat)(t:List Td):List UInt8:=(q0r t).txt (bs wd 0 [(0,q0r t)]).2++[10]
def z5w(t:List Td)(wd:Int):Int:=if wd<10\/100<wd then 1 else if q0b t≠0 then q0b t else if opT t=9 then 0 else if 400<(q0r t).nodes.length then 3 else 0
def z3c(wd:Nat)(t:List Td):List UInt8:=match t with
 | []=>[]
 | x::_=>if x.op=9 then ntL wd x.tx else dcL wd t
theorem v3s{t:List Td}(wd:Nat):∃u∈(q0r t).ways,dcL wd t=(q0r t).txt u++[10]/\(q0r t).show u=.ok ((q0r t).txt u)/\∀v∈(q0r t).ways,¬q2t ((q0r t).cst wd v) ((q0r t).cst wd u):=by
 have hb:(q0r t).best wd=some (bs wd 0 [(0,q0r t)]):=by rw[q9y,q3i]
 obtain⟨b1,b2,b3,b4⟩:=q5z hb;exact⟨_,b1,rfl,b2,fun v hv=>by rw[<-b3];exact(b4 v hv).1⟩
theorem v4n{t:Tr}{u:List Int}{r:List UInt8}(h:t.show u=.ok r):t.lay 0 u=.ok (r,[]):=by
 unfold Tr.show at h
 split at h
 ·split at h
  ·cases h
  ·rename_i hl;cases h;exact hl
  ·cases h
 ·cases h
theorem k1w{t:List Td}(h:q0b t=0)(h9:opT t=9):∃x,t=[x]/\x.op=9/\q2u x.tx=0/\v4t t=y8x x.tx:=by
 rcases z9j h with⟨x,rfl,ho,hn,hf⟩|⟨x,F,rfl,_,_,_,hx⟩
 ·have hk:(Fo.nil).len=kdT x:=by simp[kdT,ho,Fo.len]
  have e1:v4t [x]=stX x []:=(v4u (x:=x) (F:=.nil) trivial hk).1;exact⟨x,rfl,ho,hf,by rw[e1,y8x];simp[stX,ho]⟩
 ·have h9':x.op=9:=h9;rcases hx with⟨hx,_⟩|⟨hx,_⟩<;>omega
def q9i(wd:Nat)(ps:List (List Td)):List UInt8:=ps.flatMap (z3c wd)
def q1y(n:Int):Value:=if n=0 then .nilIface else .iface 23 (.int .i64 n)
theorem q1m:q1y 0=.nilIface:=rfl
theorem z6k:q1y 1=.iface 23 (.int .i64 1):=rfl
theorem k0p:q1y 2=.iface 23 (.int .i64 2):=rfl
theorem k5z:q1y 3=.iface 23 (.int .i64 3):=rfl
theorem y3u:q1y 4=.iface 23 (.int .i64 4):=rfl
theorem v6q:q1y 5=.iface 23 (.int .i64 5):=rfl
theorem q0w{n:Int}(h:n≠0):q1y n=.iface 23 (.int .i64 n):=by simp[q1y,h]
theorem q1v{W w1:World}(hb:Below W W w1):(∀b o,b<W.heap.size->w1.cell? ⟨b,o,none⟩=W.cell? ⟨b,o,none⟩)/\(∀b o,b<W.heap.size->w1.frozen? ⟨b,o,none⟩=W.frozen? ⟨b,o,none⟩):=
 ⟨fun b o h=>hb.cell (p:=⟨b,o,none⟩) h,fun b o h=>hb.frozen (p:=⟨b,o,none⟩) h⟩
theorem ane{b o b' o':Nat}(h:b≠b'\/o≠o'):(⟨b,o,none⟩:Addr)≠⟨b',o',none⟩:=by
 intro e;simp at e;omega
theorem cso{W:World}{b o b' o':Nat}{v:Value}(h:b≠b'\/o≠o'):(W.setCell ⟨b,o,none⟩ v).cell? ⟨b',o',none⟩=W.cell? ⟨b',o',none⟩:=World.cell?_setCell_other (h:=ane h) ..
theorem css{W:World}{a:Addr}{v u:Value}(h:W.cell? a=some u):(W.setCell a v).cell? a=some v:=World.cell?_setCell_same (h:=h) ..
theorem csf{W:World}{a b:Addr}{v:Value}:(W.setCell a v).frozen? b=W.frozen? b:=World.frozen?_setCell ..
theorem z6b{n:Nat}{w w1 w2:World}{A:Obj}(h1:Below n w w1)(hn:n<=w.heap.size)(hb:Below (w1.alloc A).heap.size (w1.alloc A) w2):Below n w w2:=
 (h1.alloc (by have:=h1.size;omega) _).trans (hb.mono (by have:=h1.size;simp;omega))
theorem q0d{n:Nat}{w w1 w2:World}(h1:Below n w w1)(hn:n<=w.heap.size)(hb:Below w1 w1 w2):Below n w w2:=
 h1.trans (hb.mono (by have:=h1.size;omega))
theorem hid{p:Prop}(h:p):Hid p:=h
def z2u(B:Nat)(w:World)(a:Option Addr)(ws:List ByteArray):Prop:=
 ∀i(h:i<ws.length),∃b o,a=some ⟨b,o,none⟩/\b<B/\w.cell? ⟨b,o+i,none⟩=some (.string ws[i])
theorem z2u.below{B:Nat}{w w':World}{a:Option Addr}{ws:List ByteArray}(h:z2u B w a ws)(hb:Below B w w'):z2u B w' a ws:=by
 intro i hi;obtain⟨b,o,e,hlt,c1⟩:=h i hi;exact⟨b,o,e,hlt,(hb.cell (p:=⟨b,_,none⟩) hlt).trans c1⟩
theorem z2u.up{B B':Nat}{w:World}{a:Option Addr}{ws:List ByteArray}(h:z2u B w a ws)(hB:B<=B'):z2u B' w a ws:=by
 intro i hi;obtain⟨b,o,e,hlt,c1⟩:=h i hi;exact⟨b,o,e,by omega,c1⟩
theorem z2u.nil(B:Nat)(w:World)(a:Option Addr):z2u B w a []:=fun i hi=>by simp at hi
theorem z2u.take{B:Nat}{w:World}{a:Option Addr}{ws:List ByteArray}(h:z2u B w a ws)(k:Nat):z2u B w a (ws.take k):=by
 intro i hi;have hi':i<ws.length:=by simp at hi;omega
 obtain⟨b,o,e,hlt,c1⟩:=h i hi';exact⟨b,o,e,hlt,by rw[List.getElem_take];exact c1⟩
theorem z2u.drop{B:Nat}{w:World}{b o:Nat}{ws:List ByteArray}(h:z2u B w (some ⟨b,o,none⟩) ws)(k:Nat):z2u B w (some ⟨b,o+k,none⟩) (ws.drop k):=by
 intro i hi;have hi':k+i<ws.length:=by simp at hi;omega
 obtain⟨b',o',e,hlt,c1⟩:=h (k+i) hi';simp only[Option.some.injEq,Addr.mk.injEq,and_true]at e;obtain⟨rfl,rfl⟩:=e;refine⟨b,o+k,rfl,hlt,?_⟩;rw[List.getElem_drop,Nat.add_assoc];exact c1
theorem z2u.some{B:Nat}{w:World}{a:Option Addr}{ws:List ByteArray}(h:z2u B w a ws)(h0:0<ws.length):∃b o,a=some ⟨b,o,none⟩/\b<B:=by
 obtain⟨b,o,e,hlt,_⟩:=h 0 h0;exact⟨b,o,e,hlt⟩
abbrev Wds(w:World)(a:Option Addr)(ws:List ByteArray):Prop:=z2u w.heap.size w a ws
theorem Wds.below{w w':World}{a:Option Addr}{ws:List ByteArray}(h:Wds w a ws)(hb:Below w w w'):Wds w' a ws:=(z2u.below h hb).up hb.size
def q1u(w:World)(a:Option Addr)(ds:List Nd):Prop:=
 ∀i(h:i<ds.length),∃b o,a=some ⟨b,o,none⟩/\b<w.heap.size/\w.cell? ⟨b,o+i*3,none⟩=some (.int .i64 ds[i].op)/\w.cell? ⟨b,o+i*3+1,none⟩=some (.string ds[i].tx)/\w.cell? ⟨b,o+i*3+2,none⟩=some (.int .i64 ds[i].n)
theorem q1u.below{w w':World}{a:Option Addr}{ds:List Nd}(h:q1u w a ds)(hb:Below w w w'):q1u w' a ds:=by
 intro i hi;obtain⟨b,o,e,hlt,c1,c2,c3⟩:=h i hi;obtain⟨hc,_⟩:=q1v hb
 have:=hb.size
 exact⟨b,o,e,by omega,(hc _ _ hlt).trans c1,(hc _ _ hlt).trans c2,(hc _ _ hlt).trans c3⟩
abbrev y9g(x:Nd):Value:=.agg #[.int .i64 x.op,.string x.tx,.int .i64 x.n]
def Tds(w:World)(a:Option Addr)(ds:List Td):Prop:=
 ∀i(h:i<ds.length),∃b o,a=some ⟨b,o,none⟩/\b<w.heap.size/\w.cell? ⟨b,o+i*3,none⟩=some (.int .i64 ds[i].op)/\w.cell? ⟨b,o+i*3+1,none⟩=some (.string ds[i].tx)/\w.cell? ⟨b,o+i*3+2,none⟩=some (.int .i64 ds[i].n)
theorem Tds.below{w w':World}{a:Option Addr}{ds:List Td}(h:Tds w a ds)(hb:Below w w w'):Tds w' a ds:=by
 intro i hi;obtain⟨b,o,e,hlt,c1,c2,c3⟩:=h i hi;obtain⟨hc,_⟩:=q1v hb
 have:=hb.size
 exact⟨b,o,e,by omega,(hc _ _ hlt).trans c1,(hc _ _ hlt).trans c2,(hc _ _ hlt).trans c3⟩
theorem Tds.alloc{w:World}{a:Option Addr}{ds:List Td}(h:Tds w a ds)(o:Obj):Tds (w.alloc o) a ds:=h.below (Zb.alloc Zl _)
theorem Tds.nil(w:World)(a:Option Addr):Tds w a []:=fun i hi=>by simp at hi
abbrev tdV(x:Td):Value:=.agg #[.int .i64 x.op,.string x.tx,.int .i64 x.n]
def z8i(o:Option Nat):Int:=match o with|some j=>j|none=>-1
def kdZ(x:Td):Int:=if x.op=3\/x.op=4 then x.n else(kdT x:Int)
theorem v6x{x:Td}(h:q0t x=0):kdZ x=(kdT x:Int):=by
 unfold kdZ
 split
 ·rename_i h1;rw[kdT,if_pos h1];unfold q0t at h
  split at h
  ·cases h
  ·split at h
   ·cases h
   ·omega
 ·rfl
def q9a(t:List Td):Int:=if q0b t≠0 then q0b t else if opT t=9 then 2 else if 400<(q0r t).nodes.length then 3 else 0
def q8o(t:List Td):List Nd:=if q9a t=0 then(q0r t).nodes else []
def k2u(t:List Td):Int:=if q0b t≠0 then q0b t else if opT t=9 then 0 else 2
def txT(t:List Td):ByteArray:=match t with
 | []=>⟨#[]⟩
 | x::_=>x.tx
def k9e(t:List Td):List ByteArray:=if k2u t=0 then(q0e (btL (txT t))).map wbS else []
def z3f(t:List Td)(e:Ending)(w':World):Prop:=∃A c,e=.returned (.tuple #[.slice A (q8o t).length c,q1y (q9a t)])/\q1u w' A (q8o t)/\(q8o t).length<=c
def z7s(t:List Td)(e:Ending)(w':World):Prop:=∃A c,e=.returned (.tuple #[.slice A (k9e t).length c,q1y (k2u t)])/\Wds w' A (k9e t)/\(k9e t).length<=c
theorem j4r{t:List Td}(h:q0b t≠0):q9a t=q0b t/\q8o t=[]/\k2u t=q0b t/\k9e t=[]:=by
 have e1:q9a t=q0b t:=by rw[q9a,if_pos h]
 have e2:k2u t=q0b t:=by rw[k2u,if_pos h]
 exact⟨e1,by rw[q8o,if_neg (by rw[e1];exact h)],e2,by rw[k9e,if_neg (by rw[e2];exact h)]⟩
theorem z8p{t:List Td}(h:q0b t=0)(h9:opT t=9):q9a t=2/\q8o t=[]/\k2u t=0/\k9e t=(q0e (btL (txT t))).map wbS:=by
 have e1:q9a t=2:=by rw[q9a,if_neg (by simp[h]),if_pos h9]
 have e2:k2u t=0:=by rw[k2u,if_neg (by simp[h]),if_pos h9]
 exact⟨e1,by rw[q8o,if_neg (by rw[e1];decide)],e2,by rw[k9e,if_pos e2]⟩
theorem v2x{t:List Td}(h:q0b t=0)(h9:opT t≠9)(hn:400<(q0r t).nodes.length):q9a t=3/\q8o t=[]/\k2u t=2/\k9e t=[]:=by
 have e1:q9a t=3:=by rw[q9a,if_neg (by simp[h]),if_neg h9,if_pos hn]
 have e2:k2u t=2:=by rw[k2u,if_neg (by simp[h]),if_neg h9]
 exact⟨e1,by rw[q8o,if_neg (by rw[e1];decide)],e2,by rw[k9e,if_neg (by rw[e2];decide)]⟩
theorem y0b{t:List Td}(h:q0b t=0)(h9:opT t≠9)(hn:¬400<(q0r t).nodes.length):q9a t=0/\q8o t=(q0r t).nodes/\k2u t=2/\k9e t=[]:=by
 have e1:q9a t=0:=by rw[q9a,if_neg (by simp[h]),if_neg h9,if_neg hn]
 have e2:k2u t=2:=by rw[k2u,if_neg (by simp[h]),if_neg h9]
 exact⟨e1,by rw[q8o,if_pos e1],e2,by rw[k9e,if_neg (by rw[e2];decide)]⟩
end Go.Proofs.YthjapabokcajhaaGreatDoor
namespace Go.Proofs.YthjapabokcajhaaGreatDoor
def q6t(f g:Nat->List Int->Except Int (List UInt8 × List Int))(deep:Nat)(ws:List Int):Except Int (List UInt8 × List Int):=
 match f deep ws with
 | .error e=>.error e
 | .ok (s,ws1)=>match g deep ws1 with
  | .error e=>.error e
  | .ok (t,ws2)=>.ok (s++t,ws2)
def q4o(f:Nat->List Int->Except Int (List UInt8 × List Int))(sA:ByteArray)(fl:Bool)(deep:Nat)(ws:List Int):Except Int (List UInt8 × List Int):=
 match ws with
 | []=>.error 2
 | c::ws=>if c=1 then f deep ws else if fl=true then .ok (sA.data.toList,ws)else .error 4
def q4e(f g:Nat->List Int->Except Int (List UInt8 × List Int))(deep:Nat)(ws:List Int):Except Int (List UInt8 × List Int):=
 match ws with
 | []=>.error 2
 | c::ws=>if c=0 then f deep ws else g deep ws
theorem v2m{t:Tr}{s:List UInt8}(h:t.Wf)(e:t.flat=some s):s.length<=20*t.nodes.length:=by
 have:=q7t t h
 rw[e]at this;exact this
theorem q5r:∀(t:Tr)(deep:Nat)(ws:List Int)(u:List UInt8)(v:List Int),t.Wf->t.lay deep ws=.ok (u,v)->deep+8*t.nodes.length<=3300->u.length<=4000*t.nodes.length
 | .leaf x,deep,ws,u,v,h,e,hd=>by
  obtain⟨_,_,_,_,h5,_⟩:=q1x h.1;simp only[Tr.lay]at e;simp only[Tr.nodes,List.length_cons,List.length_nil]at hd⊢
  split at e
  ·rename_i h1;cases e
   have:=q3y (h5 h1)
   rw[q0q];omega
  ·split at e
   ·cases e;simp
   ·cases e;simp;omega
 | .one x a,deep,ws,u,v,h,e,hd=>by
  obtain⟨_,_,_,_,_,h6⟩:=q1x h.1;simp only[Tr.lay]at e;simp only[Tr.nodes,List.length_cons]at hd⊢
  split at e
  ·rename_i h7
   have:=h6 h7
   have:=q5r a _ ws u v h.2.2 e (by omega)
   omega
  ·match ws,e with
   | c::ws,e=>
    simp only at e
    split at e
    ·have:=q5r a deep ws u v h.2.2 e (by omega)
     omega
    ·cases hf:a.flat with
     | none=>rw[hf]at e;cases e
     | some w=>
      rw[hf]at e;cases e
      have:=v2m h.2.2 hf
      omega
 | .two x a b,deep,ws,u,v,h,e,hd=>by
  simp only[Tr.lay]at e;simp only[Tr.nodes,List.length_cons,List.length_append]at hd⊢
  split at e
  ·cases ha:a.lay deep ws with
   | error e0=>rw[ha]at e;cases e
   | ok p=>
    obtain⟨s1,ws1⟩:=p;rw[ha]at e;simp only at e;cases hb:b.lay deep ws1 with
    | error e0=>rw[hb]at e;cases e
    | ok q=>
     obtain⟨s2,ws2⟩:=q;rw[hb]at e;cases e
     have:=q5r a deep ws s1 ws1 h.2.2.1 ha (by omega)
     have:=q5r b deep ws1 s2 _ h.2.2.2 hb (by omega)
     rw[List.length_append];omega
  ·match ws,e with
   | c::ws,e=>
    simp only at e
    split at e
    ·have:=q5r a deep ws u v h.2.2.1 e (by omega)
     omega
    ·have:=q5r b deep ws u v h.2.2.2 e (by omega)
     omega
theorem j4v{x:Nd}{a b:Tr}(h:x.op=6):Tr.lay (.two x a b)=q6t a.lay b.lay:=by
 funext deep ws
 simp only[Tr.lay,q6t,if_pos h];rfl
theorem z6r{x:Nd}{a b:Tr}(h:x.op=9):Tr.lay (.two x a b)=q4e a.lay b.lay:=by
 funext deep ws
 simp only[Tr.lay,q4e,if_neg (show ¬x.op=6 by omega)];rfl
theorem k0y{x:Nd}{a:Tr}(h:x.op=8):Tr.lay (.one x a)=q4o a.lay a.line a.isFlat:=by
 funext deep ws
 simp only[Tr.lay,q4o,if_neg (show ¬x.op=7 by omega)];cases ws with
 | nil=>rfl
 | cons c ws=>
  simp only[z4g,Tr.isFlat];cases a.flat with
  | none=>rfl
  | some s=>rfl
def shS(r:Except Int (List UInt8)):ByteArray:=match r with| .ok s=>⟨s.toArray⟩| .error _=>⟨#[]⟩
def shE(r:Except Int (List UInt8)):Int:=match r with| .ok _=>0| .error e=>e
theorem j0b{t:Tr}{ws:List Int}{k:Nat}(h:k<ws.length)(h0:ws[k]≠0)(h1:ws[k]≠1):t.show ws=.error 1:=by
 unfold Tr.show;rw[if_neg];intro hc
 have:=k3a.1 hc ws[k] (List.getElem_mem h)
 omega
theorem k7k{t:Tr}{ws:List Int}(h:q3g ws):t.show ws=match t.lay 0 ws with| .error e=>.error e| .ok (s,[])=>.ok s| .ok (_,_::_)=>.error 2:=by
 unfold Tr.show;rw[if_pos (k3a.2 h)];rfl
noncomputable def q5v(ds:List Nd)(ws:List Int):Except Int (List UInt8):=if h:q3c ds=0 then(v6o ds h).show ws else .error (q3c ds)
theorem k2h{ds:List Nd}{ws:List Int}(h:q3c ds≠0):q5v ds ws=.error (q3c ds):=dif_neg h
theorem z2f{ds:List Nd}{ws:List Int}{t:Tr}(ht:t.Wf)(e:ds=t.nodes)(hl:ds.length<=400):q5v ds ws=t.show ws:=by
 have h:q3c ds=0:=by rw[e];exact z1b ht (by rw[<-e];exact hl)
 rw[q5v,dif_pos h,z8f h ht e]
theorem v4l{ds:List Nd}{ws:List Int}{u:List UInt8}(h:q5v ds ws=.ok u):q3c ds=0/\ds.length<=400/\∃t:Tr,t.Wf/\ds=t.nodes/\t.show ws=.ok u:=by
 by_cases h0:q3c ds=0
 ·rw[q5v,dif_pos h0]at h;exact⟨h0,(q4z h0).1,_,q9f h0,q3s h0,h⟩
 ·rw[k2h h0]at h;cases h
theorem q8g:∀(t:Tr)(u:List Int),u∈t.ways->u.length<=t.nodes.length
 | .leaf _,u,h=>by simp[Tr.ways]at h;subst h;simp
 | .one x a,u,h=>by
  simp only[Tr.ways]at h;simp only[Tr.nodes,List.length_cons]
  split at h
  ·have:=q8g a u h;omega
  ·rcases List.mem_append.1 h with h|h
   ·split at h
    ·simp at h;subst h;simp
    ·simp at h
   ·obtain⟨v,hv,rfl⟩:=List.mem_map.1 h
    have:=q8g a v hv
    simp;omega
 | .two x a b,u,h=>by
  simp only[Tr.ways]at h;simp only[Tr.nodes,List.length_cons,List.length_append]
  split at h
  ·obtain⟨p,hp,hpq⟩:=List.mem_flatMap.1 h;obtain⟨q,hq,rfl⟩:=List.mem_map.1 hpq;have h1:=q8g a p hp;have h2:=q8g b q hq;rw[List.length_append];omega
  ·rcases List.mem_append.1 h with h|h
   ·obtain⟨v,hv,rfl⟩:=List.mem_map.1 h
    have:=q8g a v hv
    simp;omega
   ·obtain⟨v,hv,rfl⟩:=List.mem_map.1 h
    have:=q8g b v hv
    simp;omega
theorem j8j{t:Tr}{ws:List Int}{u:List UInt8}(h:t.show ws=.ok u):q3g ws/\t.lay 0 ws=.ok (u,[]):=by
 unfold Tr.show at h
 split at h
 ·rename_i h0;refine⟨k3a.1 h0,?_⟩;cases hl:t.lay 0 ws with
  | error e0=>rw[hl]at h;cases h
  | ok p=>
   obtain⟨v,r⟩:=p;rw[hl]at h;cases r with
   | nil=>cases h;rfl
   | cons c r=>cases h
 ·cases h
theorem j8i{ds:List Nd}{ws:List Int}{u:List UInt8}(h:q5v ds ws=.ok u):u.length<=1600000/\ws.length<=400:=by
 obtain⟨_,hl,t,ht,e,hs⟩:=v4l h;have hw:=(z4w t ws).1 ⟨u,hs⟩;have h1:=q8g t ws hw;obtain⟨_,h2⟩:=j8j hs;rw[<-e]at h1;have h3:=q5r t 0 ws u [] ht h2 (by rw[<-e];omega);rw[<-e]at h3;omega
end Go.Proofs.YthjapabokcajhaaGreatDoor
namespace Go.Proofs.YthjapabokcajhaaGreatDoor
open Go Go.RowKit
theorem j4u{t:List Td}(h:q9a t=0):q0b t=0/\opT t≠9/\q8o t=(q0r t).nodes/\(q0r t).nodes.length<=400:=by
 have h':=h;unfold q9a at h
 split at h
 ·rename_i h0;exact absurd h h0
 ·rename_i h0
  split at h
  ·cases h
  ·rename_i h9
   split at h
   ·cases h
   ·rename_i hm;exact⟨by simpa using h0,h9,by rw[q8o,if_pos h'],by omega⟩
theorem v2y{t:List Td}(h:q9a t=0)(ws:List Int):q5v (q8o t) ws=(q0r t).show ws:=by
 obtain⟨h0,h9,hd,hl⟩:=j4u h;exact z2f (z3u h0 h9).w hd (by rw[hd];exact hl)
def dnS(s:ByteArray):ByteArray:=wbS ((btL s).filter dnB)
theorem j4s{t:List Td}(h:q9a t=0){ws:List Int}{r:List UInt8}(hs:(q0r t).show ws=.ok r):dnS (wbS r)=dnS (wbS (v4t t))/\r.length<=2000000:=by
 obtain⟨h0,h9,hd,hl⟩:=j4u h;have ho:=z3u h0 h9;refine⟨?_,?_⟩
 ·show wbS (r.filter dnB)=wbS ((v4t t).filter dnB);rw[j3f h0 h9 hs]
 ·unfold Tr.show at hs
  split at hs
  ·cases hy:(q0r t).lay 0 ws with
   | error e=>rw[hy]at hs;cases hs
   | ok p=>
    obtain⟨r',ws'⟩:=p;rw[hy]at hs;have h1:=q5r _ 0 ws r' ws' ho.w hy (by omega);cases ws' with
    | nil=>
     cases hs
     have:4000*(q0r t).nodes.length<=2000000:=by omega
     omega
    | cons a b=>cases hs
  ·cases hs
theorem y3p{s:ByteArray}{k:Nat}(h:k<s.size):s[k]∈s.data.toList:=by
 have hl:k<s.data.toList.length:=by rw[<-Lib.size_eq];exact h
 exact List.getElem_mem hl
theorem k6z{s:ByteArray}(h1:1<=s.size)(h2:s.size<=20)(h:∀k(h:k<s.size),q8f s[k]=true):okW s=true:=by
 simp only[okW,h1,h2,decide_true,Bool.true_and,List.all_eq_true];intro b hb;obtain⟨i,hi,rfl⟩:=List.getElem_of_mem hb;exact h i (by rw[Lib.size_eq];exact hi)
theorem j7m{s:ByteArray}{k:Nat}(h:k<s.size)(hb:q8f s[k]=false):okW s=false:=by
 cases e:okW s with
 | false=>rfl
 | true=>
  simp only[okW,Bool.and_eq_true,List.all_eq_true]at e
  have:=e.2 s[k] (y3p h)
  rw[hb]at this;cases this
theorem z5h{b:UInt8}(h:q8f b=false):(b.toNat:Int)<33\/(¬(b.toNat:Int)<33/\126<(b.toNat:Int)):=by
 simp[q8f]at h;omega
theorem z7k{b:UInt8}(h:q8f b=true):¬(b.toNat:Int)<33/\¬126<(b.toNat:Int):=by
 simp[q8f]at h;omega
theorem q7h{ws:List ByteArray}(h:60<ws.length):q1d ws=3:=by rw[q1d,if_pos h]
theorem z7m{ws:List ByteArray}{k:Nat}(hl:ws.length<=60)(hk:k<ws.length)(h:okW ws[k]=false):q1d ws=5:=by
 rw[q1d,if_neg (by omega),if_neg];intro e
 have:=List.all_eq_true.1 e ws[k] (List.getElem_mem hk)
 rw[h]at this;cases this
theorem z7l{ws:List ByteArray}(hl:ws.length<=60)(h:∀j(h:j<ws.length),okW ws[j]=true):q1d ws=0:=by
 rw[q1d,if_neg (by omega),if_pos];rw[List.all_eq_true];intro x hx;obtain⟨j,hj,rfl⟩:=List.getElem_of_mem hx;exact h j hj
def q2l(B:Nat)(w:World)(a:Option Addr)(ws:List Int):Prop:=
 ∀i(h:i<ws.length),∃b o,a=some ⟨b,o,none⟩/\b<B/\w.cell? ⟨b,o+i,none⟩=some (.int .i64 ws[i])
theorem q2l.below{B:Nat}{w w':World}{a:Option Addr}{ws:List Int}(h:q2l B w a ws)(hb:Below B w w'):q2l B w' a ws:=by
 intro i hi;obtain⟨b,o,e,hlt,c1⟩:=h i hi;exact⟨b,o,e,hlt,(hb.cell (p:=⟨b,_,none⟩) hlt).trans c1⟩
theorem q2l.rest{B:Nat}{w:World}{b o:Nat}{x:Int}{ws:List Int}(h:q2l B w (some ⟨b,o,none⟩) (x::ws)):q2l B w (some ⟨b,o+1,none⟩) ws:=by
 intro i hi;obtain⟨b',o',e,hlt,c1⟩:=h (i+1) (by simp;omega);simp only[Option.some.injEq,Addr.mk.injEq,and_true]at e;obtain⟨rfl,rfl⟩:=e;refine⟨b,o+1,rfl,hlt,?_⟩;rw[show o+1+i=o+(i+1) by omega];exact c1
theorem q2l.slid{B:Nat}{w:World}{b o cap:Nat}{x:Int}{ws:List Int}(h:q2l B w (some ⟨b,o,none⟩) (x::ws))(hc:ws.length+1<=cap):
  q2l B w (if cap=1 then some ⟨b,o,none⟩else some ⟨b,o+1,none⟩) ws:=by
 by_cases h1:cap=1
 ·have:ws=[]:=List.eq_nil_of_length_eq_zero (by omega)
  subst this;exact fun i hi=>by simp at hi
 ·rw[if_neg h1];exact h.rest
abbrev q9e(w:World)(a:Option Addr)(ws:List Int):Prop:=q2l w.heap.size w a ws
theorem q2l.up{B B':Nat}{w:World}{a:Option Addr}{ws:List Int}(h:q2l B w a ws)(hB:B<=B'):q2l B' w a ws:=by
 intro i hi;obtain⟨b,o,e,hlt,c1⟩:=h i hi;exact⟨b,o,e,by omega,c1⟩
theorem q9e.below{w w':World}{a:Option Addr}{ws:List Int}(h:q9e w a ws)(hb:Below w w w'):q9e w' a ws:=(q2l.below h hb).up hb.size
end Go.Proofs.YthjapabokcajhaaGreatDoor
