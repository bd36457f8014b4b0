/- Texts as one: LnW, LnX, Base, FilM, DocA0, TreM, LayO, WayS, WayQ, LayZ. -/
import Derived.Test.YthjapabokcajhaaGreatDoorPf04
import Derived.WalkKit
import Derived.Outline
import Derived.WalkLawsBesides
import Derived.Test.YthjapabokcajhaaGreatDoorProg
import Derived.Test.YthjapabokcajhaaGreatDoorPf01
import Derived.Test.YthjapabokcajhaaGreatDoorPf00
import Derived.Test.YthjapabokcajhaaGreatDoorPf02
namespace Go.Proofs.YthjapabokcajhaaGreatDoor
open Go
theorem q6x:∀(t:Tr),t.noE->∀(deep:Nat)(ws ws':List Int)(r:List UInt8),t.lay deep ws=.ok (r,ws')->(∀c∈r,c≠10)->t.flat=some r
 | .leaf x,_,deep,ws,ws',r,h,hr=>by
  simp only[Tr.lay]at h;simp only[Tr.flat]
  split at h
  ·rename_i h1;cases h;rw[if_pos h1]
  ·split at h
   ·rename_i h1 h5;cases h;rw[if_neg h1,if_neg (by omega),if_neg (by omega)]
   ·cases h;exact absurd rfl (hr 10 (by simp))
 | .one x a,hn,deep,ws,ws',r,h,hr=>by
  simp only[Tr.lay]at h;simp only[Tr.flat]
  split at h
  ·exact q6x a hn _ _ _ _ h hr
  ·split at h
   ·cases h
   ·split at h
    ·exact q6x a hn _ _ _ _ h hr
    ·split at h
     ·cases h
     ·rename_i he;cases h;exact he
 | .two x a b,hn,deep,ws,ws',r,h,hr=>by
  simp only[Tr.lay,if_pos hn.1]at h;simp only[Tr.flat,if_pos hn.1]
  split at h
  ·cases h
  ·rename_i ha
   split at h
   ·cases h
   ·rename_i hb;cases h;rw[q6x a hn.2.1 _ _ _ _ ha fun c hc=>hr c (by simp[hc]),q6x b hn.2.2 _ _ _ _ hb fun c hc=>hr c (by simp[hc])]
def FlW(D:Tr):Prop:=∃u s,D.flat=some s/\q1o u/\∀deep rest,D.lay deep (u++rest)=.ok (s,rest)
theorem j0d(s:List UInt8):FlW (wdD s):=⟨[],s,rfl,fun _ h=>(by simp at h),fun _ _=>rfl⟩
theorem j0c{a:Tr}{s:List UInt8}(h:a.flat=some s):FlW (grD a):=⟨[0],s,h,fun c hc=>(by simp at hc;exact .inl hc),fun deep rest=>(by
 simp only[Tr.lay,List.cons_append,List.nil_append]
 rw[if_neg (by decide),if_neg (by decide),h])⟩
theorem v1w{a b:Tr}(ha:FlW a)(hb:FlW b):FlW (twD a b):=by
 obtain⟨u,s,a1,a2,a3⟩:=ha;obtain⟨v,t,b1,b2,b3⟩:=hb;refine⟨u++v,s++t,q3r a1 b1,fun c hc=>?_,fun deep rest=>?_⟩
 ·rcases List.mem_append.1 hc with h|h
  ·exact a2 c h
  ·exact b2 c h
 ·simp only[Tr.lay,if_true];rw[List.append_assoc,a3];simp only;rw[b3]
theorem k4a{op cl:List UInt8}{ps:List (Td × Tr)}{s:List UInt8}(h:(q1d op cl ps).flat=some s):FlW (q1d op cl ps):=by
 unfold q1d at h⊢
 split
 ·exact j0d _
 ·rename_i h0;rw[if_neg h0]at h;exact j0c h
theorem v1v{x:Td}{ps:List (Td × Tr)}{ts:List Tn}(h:Mts ps ts)(hx:exN x)(hk:ps.length=kdT x):FlW (q0d x ps):=by
 have hf:=j9b h hx hk
 have two:kdT x=2->∃a b,ps=[a,b]:=fun e=>by
  rw[e]at hk
  match ps,hk with
  | [a,b],_=>exact⟨a,b,rfl⟩
 rcases q1n hx with⟨ho,_⟩|⟨ho,_⟩|⟨ho,_⟩|⟨ho,_⟩|⟨ho,_,_,h2⟩|⟨ho,_,_,h2⟩
 ·rw[show q0d x ps=wdD (q3c x.n.toNat) by simp[q0d,ho]];exact j0d _
 ·rw[show q0d x ps=wdD (btL x.tx) by simp[q0d,ho]];exact j0d _
 ·rw[show q0d x ps=q1d (btL x.tx++[40]) [41] ps by simp[q0d,ho]]at hf⊢;exact k4a hf
 ·rw[show q0d x ps=q1d [91] [93] ps by simp[q0d,ho]]at hf⊢;exact k4a hf
 ·obtain⟨a,b,rfl⟩:=two h2;rw[show q0d x [a,b]=grD (twD (inD 0 a.1 a.2) (dpD (twD blD (twD (wdD [43,32]) (inD 1 b.1 b.2))))) by simp[q0d,tw2,ho]]at hf⊢;exact j0c hf
 ·obtain⟨a,b,rfl⟩:=two h2;rw[show q0d x [a,b]=grD (twD (inD 1 a.1 a.2) (dpD (twD blD (twD (wdD [42,32]) (inD 2 b.1 b.2))))) by simp[q0d,tw2,ho]]at hf⊢;exact j0c hf
theorem j8p{t:List Td}(h:q0b t=0)(h9:opT t≠9):FlW (q0i t):=by
 have hd0:=(q5q h h9).f;obtain⟨x,y,k,rfl,hok,hex,hk,hx⟩:=q4j h h9;have hm:Mts k.dcs k.trs:=q8q k hok.2.1 fun z hz=>hex z (by simp[Fo.nodes,hz])
 have hd:FlW (q0d y k.dcs):=v1v hm (hex y (by simp[Fo.nodes])) (by rw[q2m];exact hok.1);have e0:q0i (x::(Fo.cons y k .nil).nodes)=stD x (q0d y k.dcs):=q5n hok hk;rw[e0]at hd0⊢;generalize q0d y k.dcs=D at *;unfold stD at hd0⊢
 split
 ·rename_i ho;rw[if_pos ho]at hd0;exact j0c hd0
 ·exact v1w hd (j0d _)
theorem k9q{t:List Td}(h:q0b t=0)(h9:opT t≠9):∃u∈(q0i t).ways,(q0i t).txt u=q3x t/\∀b∈q3x t,b≠10:=by
 obtain⟨u,s,a1,a2,a3⟩:=j8p h h9;have hd:=q5q h h9;obtain rfl:s=q3x t:=by rw[hd.f]at a1;exact(Option.some.inj a1).symm
 have hl:=a3 0 [];rw[List.append_nil]at hl
 have hs:(q0i t).show u=.ok (q3x t):=by
  unfold Tr.show;rw[if_pos (z9q.2 a2),hl]
 exact⟨u,(q9t _ _).1 ⟨_,hs⟩,by rw[Tr.txt,hs],q3s _ _ hd.w a1⟩
theorem z8o(wd:Nat):∀(s:List UInt8)(c:Nat),(q1e wd c s).2.1=0->∀b∈s,b≠10
 | [],_,_,b,hb=>by cases hb
 | a::s,c,h,b,hb=>by
  simp only[q1e]at h
  split at h
  ·simp at h
  ·rename_i ha;rcases List.mem_cons.1 hb with rfl|hb
   ·exact ha
   ·exact z8o wd s (c+1) h b hb
theorem z3a{t:List Td}(wd:Nat):∃u∈(q0i t).ways,dcL wd t=(q0i t).txt u++[10]/\(q0i t).show u=.ok ((q0i t).txt u)/\∀v∈(q0i t).ways,¬q2f ((q0i t).cst wd v) ((q0i t).cst wd u):=by
 have hb:(q0i t).best wd=some (bs wd 0 [(0,q0i t)]):=by rw[q6n,q2e]
 obtain⟨b1,b2,b3,b4⟩:=q5f hb;exact⟨_,b1,rfl,b2,fun v hv=>by rw[<-b3];exact(b4 v hv).1⟩
theorem z9d{t:Tr}{u:List Int}{r:List UInt8}(h:t.show u=.ok r):t.lay 0 u=.ok (r,[]):=by
 unfold Tr.show at h
 split at h
 ·split at h
  ·cases h
  ·rename_i hl;cases h;exact hl
  ·cases h
 ·cases h
theorem j5i{t:List Td}{wd:Nat}(h:q0b t=0)(h9:opT t≠9)(hl:(q3x t).length<=wd):dcL wd t=q3x t++[10]:=by
 obtain⟨v,v1,v2,v3⟩:=k9q h h9;obtain⟨u,u1,u2,u3,u4⟩:=z3a (t:=t) wd
 have hv:(q0i t).cst wd v=(0,0):=by
  rw[Tr.cst,v2,q6q wd _ 0 v3];simp;omega
 have hu:=u4 v v1;rw[hv,q2f]at hu
 have hz:(q1e wd 0 ((q0i t).txt u)).2.1=0:=by
  simp only[Tr.cst]at hu;omega
 have hf:=q6x _ (q5q h h9).e _ _ _ _ (z9d u3) (z8o wd _ 0 hz);rw[(q5q h h9).f]at hf;rw[u2,<-Option.some.inj hf]
theorem j5j{t:List Td}{wd:Nat}{w:List Int}{r:List UInt8}(hs:(q0i t).show w=.ok r)(h0:(q1e wd 0 r).1=0):(q1e wd 0 (dcL wd t)).1=0:=by
 obtain⟨u,u1,u2,u3,u4⟩:=z3a (t:=t) wd;have hw:=u4 w ((q9t _ _).1 ⟨_,hs⟩);have e:(q0i t).txt w=r:=by rw[Tr.txt,hs]
 rw[q2f]at hw;simp only[Tr.cst,e]at hw;rw[u2,q8o];simp only[q1e];simp;omega
end Go.Proofs.YthjapabokcajhaaGreatDoor
namespace Go.Proofs.YthjapabokcajhaaGreatDoor
open Go
theorem q9q{t:List Td}(h:q0b t=0)(h9:opT t=9):∃x,t=[x]/\x.op=9/\q1s x.tx=0/\q3x t=j8c x.tx:=by
 rcases q5o h with⟨x,rfl,ho,hn,hf⟩|⟨x,F,rfl,_,_,_,hx⟩
 ·have hk:(Fo.nil).len=kdT x:=by simp[kdT,ho,Fo.len]
  have e1:q3x [x]=stX x []:=(z7g (x:=x) (F:=.nil) trivial hk).1;exact⟨x,rfl,ho,hf,by rw[e1,j8c];simp[stX,ho]⟩
 ·have h9':x.op=9:=h9;rcases hx with⟨hx,_⟩|⟨hx,_⟩<;>omega
theorem j7i{tx:ByteArray}{wd:Nat}(hl:(j8c tx).length<=wd):ntL wd tx=j8c tx++[10]:=by
 by_cases h0:btL tx=[]
 ·have h1:q0f (btL tx)=[]:=by rw[q0f,if_pos h0]
  rw[ntL,if_pos h1,j8c,if_pos (q8s.2 h0)];rfl
 ·have hz:tx.size≠0:=fun e=>h0 (q8s.1 e)
  have h1:q0f (btL tx)=q3w (btL tx):=by rw[q0f,if_neg h0]
  have hj:jb (q0f (btL tx))=btL tx:=by rw[h1,z8i]
  have hne:q0f (btL tx)≠[]:=by rw[h1];exact q6h _
  rw[j8c,if_neg hz]at hl⊢;rw[ntL,if_neg hne];generalize q0f (btL tx)=ws at *;have hne':ws.map wbS≠[]:=by simpa using hne
  have hln:ln (ws.map wbS)=(btL tx).length:=by rw[<-z6l,j0g,hj]
  simp only[List.length_append,List.length_cons,List.length_nil]at hl
  have hg:fOf (wd-2) (ws.map wbS) (ws.map wbS).length=0:=by
   rw[fOf,List.take_length,List.drop_length,q8m,hln,bd,if_neg (by omega),if_pos (by simp)]
  have hpos:1<=(ws.map wbS).length:=List.length_pos_iff.2 hne'
  have hm:z0i (fOf (wd-2) (ws.map wbS)) (ws.map wbS).length=0:=by
   have:=z2t (fOf (wd-2) (ws.map wbS)) (ws.map wbS).length (ws.map wbS).length hpos (Nat.le_refl _)
   omega
  have ha:agF (wd-2) (ws.map wbS)=(ws.map wbS).length:=by
   have h2:=(q5v (wd-2) hne').2;rcases Nat.lt_or_ge (agF (wd-2) (ws.map wbS)) (ws.map wbS).length with h|h
   ·exact absurd (hg.trans hm.symm) (z3l _ _ _ h (Nat.le_refl _) hpos)
   ·omega
  rw[q3n _ hne',ha,List.drop_length,q4b];simp only[z4p,List.take_length,List.flatMap_cons,List.flatMap_nil,List.append_nil];have e:btL (jnS (ws.map wbS))=btL tx:=by rw[jnS,j0g,hj]
  rw[e];rfl
theorem z8w{t:List Td}{wd:Nat}(h:q0b t=0)(hl:(q3x t).length<=wd):q5s wd t=q3x t++[10]:=by
 by_cases h9:opT t=9
 ·obtain⟨x,rfl,ho,_,e⟩:=q9q h h9;rw[e]at hl⊢;rw[q5s,if_pos ho];exact j7i hl
 ·cases t with
  | nil=>exact absurd h (by decide)
  | cons x r=>
   have:q5s wd (x::r)=dcL wd (x::r):=if_neg (show ¬x.op=9 from h9)
   rw[this];exact j5i h h9 hl
theorem k4g:∀g:List Wd,(∀w∈g,∀b∈w,b≠10)->∀b∈jb g,b≠10
 | [],_,b,hb=>by cases hb
 | [w],h,b,hb=>h w (by simp) b (by simpa[jb]using hb)
 | w::u::r,h,b,hb=>by
  have e:jb (w::u::r)=w++32::jb (u::r):=rfl;rw[e]at hb;rcases List.mem_append.1 hb with hb|hb
  ·exact h w (by simp) b hb
  ·rcases List.mem_cons.1 hb with rfl|hb
   ·decide
   ·exact k4g (u::r) (fun x hx=>h x (List.mem_cons_of_mem _ hx)) b hb
theorem j7x{b:UInt8}(h:q3y b=true):b≠10:=fun e=>by subst e;revert h;decide
theorem j2x:∀(gs:List (List Wd)),(∀g∈gs,GOk g)->Gd (gs.flatMap fun g=>lnW g++[10])
 | [],_=>fun p q e=>by cases p<;>cases e
 | g::gs,h=>by
  have ih:=j2x gs fun x hx=>h x (by simp[hx])
  have hg:=h g (by simp);obtain⟨v,c,e,w,hw,hc⟩:=k4f g hg.1 fun w hw=>(hg.2.2 w hw).1
  have e0:((g::gs).flatMap fun g=>lnW g++[10])=lnW g++([10]++gs.flatMap fun g=>lnW g++[10]):=by simp
  have hj10:∀b∈jb g,b≠10:=k4g g fun w hw b hb=>j7x ((hg.2.2 w hw).2.2 b hb)
  rw[e0];refine z4e (q9k fun b hb=>?_) (z4e (z2k (by decide)) ih (fun hh=>absurd hh.1 (by decide))) fun hh=>?_
  ·rcases List.mem_append.1 hb with hb|hb
   ·simp at hb;rcases hb with rfl|rfl<;>decide
   ·exact hj10 b hb
  ·have:(lnW g).getLast?=some c:=by rw[lnW,e,<-List.append_assoc,List.getLast?_append];simp
   rw[this]at hh;exact j7y ((hg.2.2 w hw).2.2 c hc) (Option.some.inj hh.1)
theorem j9d{t:List Td}(h:q0b t=0){s:List UInt8}{ws:List Wd}(hf:FmS t s ws):Gd s/\∃r,s=r++[10]/\r≠[]:=by
 cases hf with
 | @doc r cs cs' h9 hr=>
  have hn:=j8r h h9;have ht:Txt (q0i t) r:=.inr ⟨_,_,_,hr⟩;obtain⟨a,r',e,ha⟩:=hn.l r ht;refine⟨z4e (hn.g r ht) (z2k (by decide)) fun hh=>?_,r,rfl,by rw[e];simp⟩;rw[e]at hh;simp at hh;exact ha.1 hh
 | empty=>exact⟨z2k (by decide),[35],rfl,by simp⟩
 | @note x gs he ho hne hg hfl hx=>
  refine⟨j2x gs hg,?_⟩;have e:gs=gs.dropLast++[gs.getLast hne]:=(List.dropLast_concat_getLast hne).symm;rw[e];refine⟨(gs.dropLast.flatMap fun g=>lnW g++[10])++lnW (gs.getLast hne),by simp,by simp⟩
end Go.Proofs.YthjapabokcajhaaGreatDoor
namespace Go.Proofs.YthjapabokcajhaaGreatDoor
open Go Go.RowKit
def q1p(n:Int):Value:=if n=0 then .nilIface else .iface 23 (.int .i64 n)
theorem q0u:q1p 0=.nilIface:=rfl
theorem z0u:q1p 1=.iface 23 (.int .i64 1):=rfl
theorem z3y:q1p 2=.iface 23 (.int .i64 2):=rfl
theorem j2t:q1p 3=.iface 23 (.int .i64 3):=rfl
theorem j8s:q1p 4=.iface 23 (.int .i64 4):=rfl
theorem j8t:q1p 5=.iface 23 (.int .i64 5):=rfl
theorem q0o{n:Int}(h:n≠0):q1p n=.iface 23 (.int .i64 n):=by simp[q1p,h]
theorem q1g{W w1:World}(hb:Below W.heap.size W w1):(∀b o,b<W.heap.size->w1.cell? ⟨b,o,none⟩=W.cell? ⟨b,o,none⟩)/\(∀b o,b<W.heap.size->w1.frozen? ⟨b,o,none⟩=W.frozen? ⟨b,o,none⟩):=
 ⟨fun b o h=>hb.cell (p:=⟨b,o,none⟩) h,fun b o h=>hb.frozen (p:=⟨b,o,none⟩) h⟩
theorem ane{b o b' o':Nat}(h:b≠b'\/o≠o'):(⟨b,o,none⟩:Addr)≠⟨b',o',none⟩:=by
 intro e;simp at e;omega
theorem cso{W:World}{b o b' o':Nat}{v:Value}(h:b≠b'\/o≠o'):(W.setCell ⟨b,o,none⟩ v).cell? ⟨b',o',none⟩=W.cell? ⟨b',o',none⟩:=World.cell?_setCell_other (h:=ane h) ..
theorem css{W:World}{a:Addr}{v u:Value}(h:W.cell? a=some u):(W.setCell a v).cell? a=some v:=World.cell?_setCell_same (h:=h) ..
theorem csf{W:World}{a b:Addr}{v:Value}:(W.setCell a v).frozen? b=W.frozen? b:=World.frozen?_setCell ..
theorem z3n{n:Nat}{w w1 w2:World}{A:Obj}(h1:Below n w w1)(hn:n<=w.heap.size)(hb:Below (w1.alloc A).heap.size (w1.alloc A) w2):Below n w w2:=
 (h1.alloc (by have:=h1.size;omega) _).trans (hb.mono (by have:=h1.size;simp;omega))
theorem q0g{n:Nat}{w w1 w2:World}(h1:Below n w w1)(hn:n<=w.heap.size)(hb:Below w1.heap.size w1 w2):Below n w w2:=
 h1.trans (hb.mono (by have:=h1.size;omega))
theorem hid{p:Prop}(h:p):Hid p:=h
end Go.Proofs.YthjapabokcajhaaGreatDoor
namespace Go.Proofs.YthjapabokcajhaaGreatDoor
open Go Go.RowKit
def z0h(B:Nat)(w:World)(a:Option Addr)(ws:List ByteArray):Prop:=
 ∀i(h:i<ws.length),∃b o,a=some ⟨b,o,none⟩/\b<B/\w.cell? ⟨b,o+i,none⟩=some (.string ws[i])
theorem z0h.below{B:Nat}{w w':World}{a:Option Addr}{ws:List ByteArray}(h:z0h B w a ws)(hb:Below B w w'):z0h B w' a ws:=by
 intro i hi;obtain⟨b,o,e,hlt,c1⟩:=h i hi;exact⟨b,o,e,hlt,(hb.cell (p:=⟨b,_,none⟩) hlt).trans c1⟩
theorem z0h.up{B B':Nat}{w:World}{a:Option Addr}{ws:List ByteArray}(h:z0h B w a ws)(hB:B<=B'):z0h B' w a ws:=by
 intro i hi;obtain⟨b,o,e,hlt,c1⟩:=h i hi;exact⟨b,o,e,by omega,c1⟩
theorem z0h.nil(B:Nat)(w:World)(a:Option Addr):z0h B w a []:=fun i hi=>by simp at hi
theorem z0h.take{B:Nat}{w:World}{a:Option Addr}{ws:List ByteArray}(h:z0h B w a ws)(k:Nat):z0h B w a (ws.take k):=by
 intro i hi;have hi':i<ws.length:=by simp at hi;omega
 obtain⟨b,o,e,hlt,c1⟩:=h i hi';exact⟨b,o,e,hlt,by rw[List.getElem_take];exact c1⟩
theorem z0h.drop{B:Nat}{w:World}{b o:Nat}{ws:List ByteArray}(h:z0h B w (some ⟨b,o,none⟩) ws)(k:Nat):z0h B w (some ⟨b,o+k,none⟩) (ws.drop k):=by
 intro i hi;have hi':k+i<ws.length:=by simp at hi;omega
 obtain⟨b',o',e,hlt,c1⟩:=h (k+i) hi';simp only[Option.some.injEq,Addr.mk.injEq,and_true]at e;obtain⟨rfl,rfl⟩:=e;refine⟨b,o+k,rfl,hlt,?_⟩;rw[List.getElem_drop,Nat.add_assoc];exact c1
theorem z0h.some{B:Nat}{w:World}{a:Option Addr}{ws:List ByteArray}(h:z0h B w a ws)(h0:0<ws.length):∃b o,a=some ⟨b,o,none⟩/\b<B:=by
 obtain⟨b,o,e,hlt,_⟩:=h 0 h0;exact⟨b,o,e,hlt⟩
abbrev Wds(w:World)(a:Option Addr)(ws:List ByteArray):Prop:=z0h w.heap.size w a ws
theorem Wds.below{w w':World}{a:Option Addr}{ws:List ByteArray}(h:Wds w a ws)(hb:Below w.heap.size w w'):Wds w' a ws:=(z0h.below h hb).up hb.size
end Go.Proofs.YthjapabokcajhaaGreatDoor
namespace Go.Proofs.YthjapabokcajhaaGreatDoor
open Go Go.RowKit
def q1u(w:World)(a:Option Addr)(ds:List Nd):Prop:=
 ∀i(h:i<ds.length),∃b o,a=some ⟨b,o,none⟩/\b<w.heap.size/\w.cell? ⟨b,o+i*3,none⟩=some (.int .i64 ds[i].op)/\w.cell? ⟨b,o+i*3+1,none⟩=some (.string ds[i].tx)/\w.cell? ⟨b,o+i*3+2,none⟩=some (.int .i64 ds[i].n)
theorem q1u.below{w w':World}{a:Option Addr}{ds:List Nd}(h:q1u w a ds)(hb:Below w.heap.size w w'):q1u w' a ds:=by
 intro i hi;obtain⟨b,o,e,hlt,c1,c2,c3⟩:=h i hi;obtain⟨hc,_⟩:=q1g hb
 have:=hb.size
 exact⟨b,o,e,by omega,(hc _ _ hlt).trans c1,(hc _ _ hlt).trans c2,(hc _ _ hlt).trans c3⟩
abbrev v3d(x:Nd):Value:=.agg #[.int .i64 x.op,.string x.tx,.int .i64 x.n]
end Go.Proofs.YthjapabokcajhaaGreatDoor
namespace Go.Proofs.YthjapabokcajhaaGreatDoor
open Go Go.RowKit
def Tds(w:World)(a:Option Addr)(ds:List Td):Prop:=
 ∀i(h:i<ds.length),∃b o,a=some ⟨b,o,none⟩/\b<w.heap.size/\w.cell? ⟨b,o+i*3,none⟩=some (.int .i64 ds[i].op)/\w.cell? ⟨b,o+i*3+1,none⟩=some (.string ds[i].tx)/\w.cell? ⟨b,o+i*3+2,none⟩=some (.int .i64 ds[i].n)
theorem Tds.below{w w':World}{a:Option Addr}{ds:List Td}(h:Tds w a ds)(hb:Below w.heap.size w w'):Tds w' a ds:=by
 intro i hi;obtain⟨b,o,e,hlt,c1,c2,c3⟩:=h i hi;obtain⟨hc,_⟩:=q1g hb
 have:=hb.size
 exact⟨b,o,e,by omega,(hc _ _ hlt).trans c1,(hc _ _ hlt).trans c2,(hc _ _ hlt).trans c3⟩
theorem Tds.alloc{w:World}{a:Option Addr}{ds:List Td}(h:Tds w a ds)(o:Obj):Tds (w.alloc o) a ds:=h.below ((Below.refl _ _).alloc (Nat.le_refl _) _)
theorem Tds.nil(w:World)(a:Option Addr):Tds w a []:=fun i hi=>by simp at hi
abbrev tdV(x:Td):Value:=.agg #[.int .i64 x.op,.string x.tx,.int .i64 x.n]
def z2g(o:Option Nat):Int:=match o with|some j=>j|none=>-1
def kdZ(x:Td):Int:=if x.op=3\/x.op=4 then x.n else(kdT x:Int)
theorem j3a{x:Td}(h:q0l x=0):kdZ x=(kdT x:Int):=by
 unfold kdZ
 split
 ·rename_i h1;rw[kdT,if_pos h1];unfold q0l at h
  split at h
  ·cases h
  ·split at h
   ·cases h
   ·omega
 ·rfl
end Go.Proofs.YthjapabokcajhaaGreatDoor
namespace Go.Proofs.YthjapabokcajhaaGreatDoor
open Go Go.RowKit
def q4v(t:List Td):Int:=if q0b t≠0 then q0b t else if opT t=9 then 2 else if 400<(q0i t).nodes.length then 3 else 0
def q3g(t:List Td):List Nd:=if q4v t=0 then(q0i t).nodes else []
def z5s(t:List Td):Int:=if q0b t≠0 then q0b t else if opT t=9 then 0 else 2
def txT(t:List Td):ByteArray:=match t with
 | []=>⟨#[]⟩
 | x::_=>x.tx
def k0n(t:List Td):List ByteArray:=if z5s t=0 then(q0f (btL (txT t))).map wbS else []
def q8u(t:List Td)(e:Ending)(w':World):Prop:=∃A c,e=.returned (.tuple #[.slice A (q3g t).length c,q1p (q4v t)])/\q1u w' A (q3g t)/\(q3g t).length<=c
def z1t(t:List Td)(e:Ending)(w':World):Prop:=∃A c,e=.returned (.tuple #[.slice A (k0n t).length c,q1p (z5s t)])/\Wds w' A (k0n t)/\(k0n t).length<=c
theorem k4j{t:List Td}(h:q0b t≠0):q4v t=q0b t/\q3g t=[]/\z5s t=q0b t/\k0n t=[]:=by
 have e1:q4v t=q0b t:=by rw[q4v,if_pos h]
 have e2:z5s t=q0b t:=by rw[z5s,if_pos h]
 exact⟨e1,by rw[q3g,if_neg (by rw[e1];exact h)],e2,by rw[k0n,if_neg (by rw[e2];exact h)]⟩
theorem z2n{t:List Td}(h:q0b t=0)(h9:opT t=9):q4v t=2/\q3g t=[]/\z5s t=0/\k0n t=(q0f (btL (txT t))).map wbS:=by
 have e1:q4v t=2:=by rw[q4v,if_neg (by simp[h]),if_pos h9]
 have e2:z5s t=0:=by rw[z5s,if_neg (by simp[h]),if_pos h9]
 exact⟨e1,by rw[q3g,if_neg (by rw[e1];decide)],e2,by rw[k0n,if_pos e2]⟩
theorem j0i{t:List Td}(h:q0b t=0)(h9:opT t≠9)(hn:400<(q0i t).nodes.length):q4v t=3/\q3g t=[]/\z5s t=2/\k0n t=[]:=by
 have e1:q4v t=3:=by rw[q4v,if_neg (by simp[h]),if_neg h9,if_pos hn]
 have e2:z5s t=2:=by rw[z5s,if_neg (by simp[h]),if_neg h9]
 exact⟨e1,by rw[q3g,if_neg (by rw[e1];decide)],e2,by rw[k0n,if_neg (by rw[e2];decide)]⟩
theorem j6d{t:List Td}(h:q0b t=0)(h9:opT t≠9)(hn:¬400<(q0i t).nodes.length):q4v t=0/\q3g t=(q0i t).nodes/\z5s t=2/\k0n t=[]:=by
 have e1:q4v t=0:=by rw[q4v,if_neg (by simp[h]),if_neg h9,if_neg hn]
 have e2:z5s t=2:=by rw[z5s,if_neg (by simp[h]),if_neg h9]
 exact⟨e1,by rw[q3g,if_pos e1],e2,by rw[k0n,if_neg (by rw[e2];decide)]⟩
end Go.Proofs.YthjapabokcajhaaGreatDoor
namespace Go.Proofs.YthjapabokcajhaaGreatDoor
def q7y(f g:Nat->List Int->Except Int (List UInt8 × List Int))(deep:Nat)(ws:List Int):Except Int (List UInt8 × List Int):=
 match f deep ws with
 | .error e=>.error e
 | .ok (s,ws1)=>match g deep ws1 with
  | .error e=>.error e
  | .ok (t,ws2)=>.ok (s++t,ws2)
def q6w(f:Nat->List Int->Except Int (List UInt8 × List Int))(sA:ByteArray)(fl:Bool)(deep:Nat)(ws:List Int):Except Int (List UInt8 × List Int):=
 match ws with
 | []=>.error 2
 | c::ws=>if c=1 then f deep ws else if fl=true then .ok (sA.data.toList,ws)else .error 4
def q4w(f g:Nat->List Int->Except Int (List UInt8 × List Int))(deep:Nat)(ws:List Int):Except Int (List UInt8 × List Int):=
 match ws with
 | []=>.error 2
 | c::ws=>if c=0 then f deep ws else g deep ws
theorem j0b{t:Tr}{s:List UInt8}(h:t.Wf)(e:t.flat=some s):s.length<=20*t.nodes.length:=by
 have:=q9j t h
 rw[e]at this;exact this
theorem q4y:∀(t:Tr)(deep:Nat)(ws:List Int)(u:List UInt8)(v:List Int),t.Wf->t.lay deep ws=.ok (u,v)->deep+8*t.nodes.length<=3300->u.length<=4000*t.nodes.length
 | .leaf x,deep,ws,u,v,h,e,hd=>by
  obtain⟨_,_,_,_,h5,_⟩:=q1l h.1;simp only[Tr.lay]at e;simp only[Tr.nodes,List.length_cons,List.length_nil]at hd⊢
  split at e
  ·rename_i h1;cases e
   have:=q2q (h5 h1)
   rw[q0w];omega
  ·split at e
   ·cases e;simp
   ·cases e;simp;omega
 | .one x a,deep,ws,u,v,h,e,hd=>by
  obtain⟨_,_,_,_,_,h6⟩:=q1l h.1;simp only[Tr.lay]at e;simp only[Tr.nodes,List.length_cons]at hd⊢
  split at e
  ·rename_i h7
   have:=h6 h7
   have:=q4y a _ ws u v h.2.2 e (by omega)
   omega
  ·match ws,e with
   | c::ws,e=>
    simp only at e
    split at e
    ·have:=q4y a deep ws u v h.2.2 e (by omega)
     omega
    ·cases hf:a.flat with
     | none=>rw[hf]at e;cases e
     | some w=>
      rw[hf]at e;cases e
      have:=j0b h.2.2 hf
      omega
 | .two x a b,deep,ws,u,v,h,e,hd=>by
  simp only[Tr.lay]at e;simp only[Tr.nodes,List.length_cons,List.length_append]at hd⊢
  split at e
  ·cases ha:a.lay deep ws with
   | error e0=>rw[ha]at e;cases e
   | ok p=>
    obtain⟨s1,ws1⟩:=p;rw[ha]at e;simp only at e;cases hb:b.lay deep ws1 with
    | error e0=>rw[hb]at e;cases e
    | ok q=>
     obtain⟨s2,ws2⟩:=q;rw[hb]at e;cases e
     have:=q4y a deep ws s1 ws1 h.2.2.1 ha (by omega)
     have:=q4y b deep ws1 s2 _ h.2.2.2 hb (by omega)
     rw[List.length_append];omega
  ·match ws,e with
   | c::ws,e=>
    simp only at e
    split at e
    ·have:=q4y a deep ws u v h.2.2.1 e (by omega)
     omega
    ·have:=q4y b deep ws u v h.2.2.2 e (by omega)
     omega
theorem j6e{x:Nd}{a b:Tr}(h:x.op=6):Tr.lay (.two x a b)=q7y a.lay b.lay:=by
 funext deep ws
 simp only[Tr.lay,q7y,if_pos h];rfl
theorem k0o{x:Nd}{a b:Tr}(h:x.op=9):Tr.lay (.two x a b)=q4w a.lay b.lay:=by
 funext deep ws
 simp only[Tr.lay,q4w,if_neg (show ¬x.op=6 by omega)];rfl
theorem k4l{x:Nd}{a:Tr}(h:x.op=8):Tr.lay (.one x a)=q6w a.lay a.line a.isFlat:=by
 funext deep ws
 simp only[Tr.lay,q6w,if_neg (show ¬x.op=7 by omega)];cases ws with
 | nil=>rfl
 | cons c ws=>
  simp only[z4m,Tr.isFlat];cases a.flat with
  | none=>rfl
  | some s=>rfl
def shS(r:Except Int (List UInt8)):ByteArray:=match r with| .ok s=>⟨s.toArray⟩| .error _=>⟨#[]⟩
def shE(r:Except Int (List UInt8)):Int:=match r with| .ok _=>0| .error e=>e
theorem j1k{t:Tr}{ws:List Int}(h:q1o ws):t.show ws=match t.lay 0 ws with| .error e=>.error e| .ok (s,[])=>.ok s| .ok (_,_::_)=>.error 2:=by
 unfold Tr.show;rw[if_pos (z9q.2 h)];rfl
end Go.Proofs.YthjapabokcajhaaGreatDoor
namespace Go.Proofs.YthjapabokcajhaaGreatDoor
theorem q6b:∀(t:Tr)(deep:Nat)(ws:List Int)(e:Int),t.lay deep ws=.error e->e≠0
 | .leaf x,deep,ws,e,h=>by
  simp only[Tr.lay]at h
  split at h
  ·cases h
  ·split at h<;>cases h
 | .one x a,deep,ws,e,h=>by
  simp only[Tr.lay]at h
  split at h
  ·exact q6b a _ ws e h
  ·match ws,h with
   | [],h=>cases h;decide
   | c::ws,h=>
    simp only at h
    split at h
    ·exact q6b a deep ws e h
    ·cases hf:a.flat with
     | none=>rw[hf]at h;cases h;decide
     | some s=>rw[hf]at h;cases h
 | .two x a b,deep,ws,e,h=>by
  simp only[Tr.lay]at h
  split at h
  ·cases ha:a.lay deep ws with
   | error e0=>rw[ha]at h;cases h;exact q6b a deep ws _ ha
   | ok p=>
    obtain⟨s1,ws1⟩:=p;rw[ha]at h;simp only at h;cases hb:b.lay deep ws1 with
    | error e0=>rw[hb]at h;cases h;exact q6b b deep ws1 _ hb
    | ok q=>rw[hb]at h;cases h
  ·match ws,h with
   | [],h=>cases h;decide
   | c::ws,h=>
    simp only at h
    split at h
    ·exact q6b a deep ws e h
    ·exact q6b b deep ws e h
theorem j1i{t:Tr}{ws:List Int}{e:Int}(h:t.show ws=.error e):e≠0:=by
 unfold Tr.show at h
 split at h
 ·cases hl:t.lay 0 ws with
  | error e0=>rw[hl]at h;cases h;exact q6b t 0 ws _ hl
  | ok p=>
   obtain⟨u,r⟩:=p;rw[hl]at h;cases r with
   | nil=>cases h
   | cons c r=>cases h;decide
 ·cases h;decide
noncomputable def q4i(ds:List Nd)(ws:List Int):Except Int (List UInt8):=if h:q2a ds=0 then(j2s ds h).show ws else .error (q2a ds)
theorem z5f{ds:List Nd}{ws:List Int}(h:q2a ds≠0):q4i ds ws=.error (q2a ds):=dif_neg h
theorem z1k{ds:List Nd}{ws:List Int}{t:Tr}(ht:t.Wf)(e:ds=t.nodes)(hl:ds.length<=400):q4i ds ws=t.show ws:=by
 have h:q2a ds=0:=by rw[e];exact q7i ht (by rw[<-e];exact hl)
 rw[q4i,dif_pos h,z2d h ht e]
theorem k6z{ds:List Nd}{ws:List Int}{e:Int}(h:q4i ds ws=.error e):e≠0:=by
 by_cases h0:q2a ds=0
 ·rw[q4i,dif_pos h0]at h;exact j1i h
 ·rw[z5f h0]at h;cases h;exact h0
theorem q6i:∀(t:Tr)(u:List Int),u∈t.ways->u.length<=t.nodes.length
 | .leaf _,u,h=>by simp[Tr.ways]at h;subst h;simp
 | .one x a,u,h=>by
  simp only[Tr.ways]at h;simp only[Tr.nodes,List.length_cons]
  split at h
  ·have:=q6i a u h;omega
  ·rcases List.mem_append.1 h with h|h
   ·split at h
    ·simp at h;subst h;simp
    ·simp at h
   ·obtain⟨v,hv,rfl⟩:=List.mem_map.1 h
    have:=q6i a v hv
    simp;omega
 | .two x a b,u,h=>by
  simp only[Tr.ways]at h;simp only[Tr.nodes,List.length_cons,List.length_append]
  split at h
  ·obtain⟨p,hp,hpq⟩:=List.mem_flatMap.1 h;obtain⟨q,hq,rfl⟩:=List.mem_map.1 hpq;have h1:=q6i a p hp;have h2:=q6i b q hq;rw[List.length_append];omega
  ·rcases List.mem_append.1 h with h|h
   ·obtain⟨v,hv,rfl⟩:=List.mem_map.1 h
    have:=q6i a v hv
    simp;omega
   ·obtain⟨v,hv,rfl⟩:=List.mem_map.1 h
    have:=q6i b v hv
    simp;omega
end Go.Proofs.YthjapabokcajhaaGreatDoor
namespace Go.Proofs.YthjapabokcajhaaGreatDoor
open Go Go.RowKit
theorem z8m{t:List Td}(h:q4v t=0):q0b t=0/\opT t≠9/\q3g t=(q0i t).nodes/\(q0i t).nodes.length<=400:=by
 have h':=h;unfold q4v at h
 split at h
 ·rename_i h0;exact absurd h h0
 ·rename_i h0
  split at h
  ·cases h
  ·rename_i h9
   split at h
   ·cases h
   ·rename_i hm;exact⟨by simpa using h0,h9,by rw[q3g,if_pos h'],by omega⟩
theorem z2o{t:List Td}(h:q4v t=0)(ws:List Int):q4i (q3g t) ws=(q0i t).show ws:=by
 obtain⟨h0,h9,hd,hl⟩:=z8m h;exact z1k (q5q h0 h9).w hd (by rw[hd];exact hl)
def dnS(s:ByteArray):ByteArray:=wbS ((btL s).filter dnB)
theorem k4k{t:List Td}(h:q4v t=0){ws:List Int}{r:List UInt8}(hs:(q0i t).show ws=.ok r):dnS (wbS r)=dnS (wbS (q3x t))/\r.length<=2000000:=by
 obtain⟨h0,h9,hd,hl⟩:=z8m h;have ho:=q5q h0 h9;refine⟨?_,?_⟩
 ·show wbS (r.filter dnB)=wbS ((q3x t).filter dnB);rw[k3g h0 h9 hs]
 ·unfold Tr.show at hs
  split at hs
  ·cases hy:(q0i t).lay 0 ws with
   | error e=>rw[hy]at hs;cases hs
   | ok p=>
    obtain⟨r',ws'⟩:=p;rw[hy]at hs;have h1:=q4y _ 0 ws r' ws' ho.w hy (by omega);cases ws' with
    | nil=>
     cases hs
     have:4000*(q0i t).nodes.length<=2000000:=by omega
     omega
    | cons a b=>cases hs
  ·cases hs
theorem c32{c:UInt8}(h:(c.toNat:Int)=32):c=32:=by
 apply UInt8.toNat_inj.1;show c.toNat=32;omega
theorem c10{c:UInt8}(h:(c.toNat:Int)=10):c=10:=by
 apply UInt8.toNat_inj.1;show c.toNat=10;omega
end Go.Proofs.YthjapabokcajhaaGreatDoor
