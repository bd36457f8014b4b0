/- Texts as one: Pn3, PlanN. -/
import Derived.Test.YtchdplceopegoaaGreatDoorPw23
namespace Go.Proofs.YtchdplceopegoaaGreatDoor
open Go Go.RowKit
def F1 (R:List Pl) (k:Nat):Nat→Q:=fun j=>if k≤j then q1 (q1b R j) else q0
theorem v1q {R:List Pl} {i:Nat}:upd (F1 R (i+1)) i (q1 (q1b R i))=F1 R i:=by
 funext j
 simp only [upd,F1]
 by_cases e:j=i
 ·subst e;simp
 ·by_cases h:i+1≤j
  ·rw [if_neg e,if_pos h,if_pos (by omega)]
  ·rw [if_neg e,if_neg h,if_neg (by omega)]
structure Tl (R:List Pl) (L M i:Nat) (F:Nat→Q):Prop where
 op:∀ j,j<R.length→(F j).op=(q1b R j).nd.op
 tx:∀ j,j<R.length→(F j).tx=(q1b R j).nd.tx
 n:∀ j,j<R.length→(F j).n=(q1b R j).nd.n
 en:∀ j,j<R.length→(F j).en=(q1b R j).en
 nx:∀ j,j<R.length→(j=0∨∃ p,p<i∧k6s R L M p j)→(F j).nx=(q1b R j).nx
 dp:∀ j,j<R.length→(j=0∨∃ p,p<i∧k6s R L M p j)→(F j).dp=(q1b R j).dp
 lg:∀ j,j<R.length→j<i→(F j).lg=(q1b R j).lg
 l0:∀ j,j<R.length→i≤j→(F j).lg=0
theorem Tl.tell {R:List Pl} {L M i j:Nat} {F:Nat→Q} {x y:Int} (h:Tl R L M i F) (hx:x=(q1b R j).nx) (hy:y=(q1b R j).dp):Tl R L M i (upd F j { F j with nx:=x,dp:=y }) where
 op k hk:=by by_cases e:k=j;subst e;rw [q0j];exact h.op k hk;rw [q0x e];exact h.op k hk
 tx k hk:=by by_cases e:k=j;subst e;rw [q0j];exact h.tx k hk;rw [q0x e];exact h.tx k hk
 n k hk:=by by_cases e:k=j;subst e;rw [q0j];exact h.n k hk;rw [q0x e];exact h.n k hk
 en k hk:=by by_cases e:k=j;subst e;rw [q0j];exact h.en k hk;rw [q0x e];exact h.en k hk
 nx k hk hp:=by by_cases e:k=j;subst e;rw [q0j];exact hx;rw [q0x e];exact h.nx k hk hp
 dp k hk hp:=by by_cases e:k=j;subst e;rw [q0j];exact hy;rw [q0x e];exact h.dp k hk hp
 lg k hk hp:=by by_cases e:k=j;subst e;rw [q0j];exact h.lg k hk hp;rw [q0x e];exact h.lg k hk hp
 l0 k hk hp:=by by_cases e:k=j;subst e;rw [q0j];exact h.l0 k hk hp;rw [q0x e];exact h.l0 k hk hp
theorem Tl.next {R:List Pl} {L M i:Nat} {F:Nat→Q} (h:Tl R L M i F) (hp:∀ j,j<R.length→k6s R L M i j→(F j).nx=(q1b R j).nx∧(F j).dp=(q1b R j).dp) (hl:(F i).lg=(q1b R i).lg):Tl R L M (i+1) F where
 op:=h.op
 tx:=h.tx
 n:=h.n
 en:=h.en
 nx k hk hq:=by
  rcases hq with e | ⟨p,hp1,hp2⟩
  ·exact h.nx k hk (.inl e)
  ·by_cases e:p=i
   ·subst e;exact (hp k hk hp2).1
   ·exact h.nx k hk (.inr ⟨p,by omega,hp2⟩)
 dp k hk hq:=by
  rcases hq with e | ⟨p,hp1,hp2⟩
  ·exact h.dp k hk (.inl e)
  ·by_cases e:p=i
   ·subst e;exact (hp k hk hp2).2
   ·exact h.dp k hk (.inr ⟨p,by omega,hp2⟩)
 lg k hk hq:=by
  by_cases e:k=i
  ·subst e;exact hl
  ·exact h.lg k hk (by omega)
 l0 k hk hq:=h.l0 k hk (by omega)
theorem Tl.setLg {R:List Pl} {L M i:Nat} {F:Nat→Q} {x:Int} (h:Tl R L M i F):Tl R L M i F→∀ k,k<R.length→(upd F i { F i with lg:=x } k).op=(F k).op∧(upd F i { F i with lg:=x } k).tx=(F k).tx∧(upd F i { F i with lg:=x } k).n=(F k).n∧(upd F i { F i with lg:=x } k).en=(F k).en∧(upd F i { F i with lg:=x } k).nx=(F k).nx∧(upd F i { F i with lg:=x } k).dp=(F k).dp:=by
 intro _ k _
 by_cases e:k=i
 ·subst e;rw [q0j];exact ⟨rfl,rfl,rfl,rfl,rfl,rfl⟩
 ·rw [q0x e];exact ⟨rfl,rfl,rfl,rfl,rfl,rfl⟩
theorem Tl.nextLg {R:List Pl} {L M i:Nat} {F:Nat→Q} (h:Tl R L M i F) (hp:∀ j,j<R.length→k6s R L M i j→(F j).nx=(q1b R j).nx∧(F j).dp=(q1b R j).dp):Tl R L M (i+1) (upd F i { F i with lg:=(q1b R i).lg }) where
 op k hk:=by rw [(h.setLg h k hk).1];exact h.op k hk
 tx k hk:=by rw [(h.setLg h k hk).2.1];exact h.tx k hk
 n k hk:=by rw [(h.setLg h k hk).2.2.1];exact h.n k hk
 en k hk:=by rw [(h.setLg h k hk).2.2.2.1];exact h.en k hk
 nx k hk hq:=by
  rw [(h.setLg h k hk).2.2.2.2.1]
  rcases hq with e | ⟨p,hp1,hp2⟩
  ·exact h.nx k hk (.inl e)
  ·by_cases e:p=i
   ·subst e;exact (hp k hk hp2).1
   ·exact h.nx k hk (.inr ⟨p,by omega,hp2⟩)
 dp k hk hq:=by
  rw [(h.setLg h k hk).2.2.2.2.2]
  rcases hq with e | ⟨p,hp1,hp2⟩
  ·exact h.dp k hk (.inl e)
  ·by_cases e:p=i
   ·subst e;exact (hp k hk hp2).2
   ·exact h.dp k hk (.inr ⟨p,by omega,hp2⟩)
 lg k hk hq:=by
  by_cases e:k=i
  ·subst e;rw [q0j]
  ·rw [q0x e];exact h.lg k hk (by omega)
 l0 k hk hq:=by rw [q0x (by omega)];exact h.l0 k hk (by omega)
theorem Tl.all {t:Tr} {F:Nat→Q} (ht:t.Wf) (h:Tl (q0a t) t.lf t.dsum (q0a t).length F):∀ j,j<(q0a t).length→F j=q2 (q1b (q0a t) j):=by
 intro j hj
 have hq:j=0∨∃ p,p<(q0a t).length∧k6s (q0a t) t.lf t.dsum p j:=by
  rcases Nat.eq_zero_or_pos j with e | e
  ·exact .inl e
  ·obtain ⟨p,hp,hpp⟩:=z8v ht e hj
   exact .inr ⟨p,by omega,hpp⟩
 have h1:=h.op j hj
 have h2:=h.tx j hj
 have h3:=h.n j hj
 have h4:=h.en j hj
 have h5:=h.nx j hj hq
 have h6:=h.dp j hj hq
 have h7:=h.lg j hj hj
 unfold q2
 rw [←h1,←h2,←h3,←h4,←h5,←h6,←h7]
theorem Tl.start {t:Tr}:Tl (q0a t) t.lf t.dsum 0 (upd (F1 (q0a t) 0) 0 { F1 (q0a t) 0 0 with nx:=t.sz }):=by
 have hF:∀ j,F1 (q0a t) 0 j=q1 (q1b (q0a t) j):=fun j=>by simp [F1]
 have e0:q1b (q0a t) 0=z4d t 0 t.sz 0 []:=by
  obtain ⟨r,e⟩:=j2d t 0 t.sz 0 []
  rw [q1b,List.getD,q0a,e]
  rfl
 have hk:∀ (P:Q→Prop) k,(k=0→P { F1 (q0a t) 0 0 with nx:=t.sz })→(k≠0→P (F1 (q0a t) 0 k))→P (upd (F1 (q0a t) 0) 0 { F1 (q0a t) 0 0 with nx:=t.sz } k):=by
  intro P k h1 h2
  by_cases e:k=0
  ·subst e;rw [q0j];exact h1 rfl
  ·rw [q0x e];exact h2 e
 refine ⟨fun j _=>?_,fun j _=>?_,fun j _=>?_,fun j _=>?_,fun j _ hq=>?_,fun j _ hq=>?_,fun j _ hq=>?_,fun j _ _=>?_⟩
 ·refine hk (fun q=>q.op=_) j (fun e=>?_) (fun _=>?_)
  ·subst e;rw [hF];rfl
  ·rw [hF];rfl
 ·refine hk (fun q=>q.tx=_) j (fun e=>?_) (fun _=>?_)
  ·subst e;rw [hF];rfl
  ·rw [hF];rfl
 ·refine hk (fun q=>q.n=_) j (fun e=>?_) (fun _=>?_)
  ·subst e;rw [hF];rfl
  ·rw [hF];rfl
 ·refine hk (fun q=>q.en=_) j (fun e=>?_) (fun _=>?_)
  ·subst e;rw [hF];rfl
  ·rw [hF];rfl
 ·rcases hq with e | ⟨p,hp,_⟩
  ·subst e;rw [q0j,e0];rfl
  ·omega
 ·rcases hq with e | ⟨p,hp,_⟩
  ·subst e;rw [q0j,hF,e0];rfl
  ·omega
 ·omega
 ·refine hk (fun q=>q.lg=0) j (fun e=>?_) (fun _=>?_)
  ·rw [hF];rfl
  ·rw [hF];rfl
theorem v2n {R:List Pl} {L M i nx dp:Nat} {ks:List (Nat × Tr)} {t:Tr} (bp g:Nat) (F:Nat→Q) (w:World) (hR:R.length≤400) (hM:M≤3200) (h:Sp R L M i t nx dp ks) (hT:Tl R L M i F) (h0:i=0∨∃ p,p<i∧k6s R L M p i) (hbg:bp≠g)
  (c0:w.cell? ⟨bp,0,none⟩=some (.slice (some ⟨g,0,none⟩) R.length R.length)) (hp:PwR w g R.length F) :
  Calls Tryz.prog 162 #[.pointer (some ⟨bp,0,none⟩),.int .i64 i] w fun e w'=>e = .returned (.tuple #[])∧(∃ F',PwR w' g R.length F'∧Tl R L M i F'∧∀ j,j<R.length→k6s R L M i j→(F' j).nx=(q1b R j).nx∧(F' j).dp=(q1b R j).dp)∧q0i w.heap.size g w w':=by
 have hi:=h.lt
 have ha:=h.at
 have fop:=hT.op i hi
 have fn:=hT.n i hi
 have fnx:=hT.nx i hi h0
 have fdp:=hT.dp i hi h0
 rw [ha] at fop fn fnx fdp
 have hbd:=h.bd
 cases t with
 | leaf x=>
  have fop':(F i).op=x.op:=fop
  have hne:∀ k:Int,k=6∨k=9∨k=7∨k=8→((F i).op == k)=false:=fun k hk=>beq_eq_false_iff_ne.2 (by
   rw [fop']
   rcases q4i h.wf.1 h.wf.2 with e | e | e | e | e<;>omega)
  refine (j5r bp g R.length i F w hi c0 hp (hne 6 (by omega)) (hne 9 (by omega)) (hne 7 (by omega)) (hne 8 (by omega))).mono ?_
  rintro e w2 ⟨rfl,h2,hb⟩
  refine ⟨rfl,⟨F,h2,hT,fun j hj hpt=>?_⟩,hb⟩
  rcases hpt with ⟨x',a',_,_,_,hs,_⟩ | ⟨x',a',b',_,_,_,hs,_⟩
  ·have:=hs.at;rw [ha] at this;simp [z4d] at this
  ·have:=hs.at;rw [ha] at this;simp [z4d] at this
 | one x a=>
  have fop':(F i).op=x.op:=fop
  have fn':(F i).n=x.n:=fn
  have fnx':(F i).nx=(nx:Int):=fnx
  have fdp':(F i).dp=(dp:Int):=fdp
  have hs:=h.one
  have hn8:0≤x.n∧x.n≤8:=by have:=q1r h.wf.1;omega
  have ex:IntKind.i64.wrap ((F i).dp+(F i).n)=((dp+x.n.toNat:Nat):Int):=by
   rw [fdp',fn',IntKind.wrap_i64]
   omega
  refine (v2o bp g R.length i F w hR hs.lt c0 hp (by rw [fop'];exact z0m h.wf.2.1) _ ex).mono ?_
  rintro e w2 ⟨rfl,h2,hb⟩
  have e1:(F i).nx=(q1b R (i+1)).nx:=by rw [fnx',hs.at];rfl
  have e2:((dp+x.n.toNat:Nat):Int)=(q1b R (i+1)).dp:=by rw [hs.at];rfl
  refine ⟨rfl,⟨_,h2,hT.tell e1 e2,fun j hj hpt=>?_⟩,hb⟩
  have hj1:j=i+1:=by
   rcases hpt with ⟨x',a',_,_,_,hs',e⟩ | ⟨x',a',b',_,_,_,hs',_⟩
   ·exact e
   ·have:=hs'.at;rw [ha] at this;simp [z4d] at this
  subst hj1
  rw [q0j]
  exact ⟨e1,e2⟩
 | two x a b=>
  have fop':(F i).op=x.op:=fop
  have fnx':(F i).nx=(nx:Int):=fnx
  have fdp':(F i).dp=(dp:Int):=fdp
  have hs2:=h.two2
  have hpart:∀ j,k6s R L M i j→j=i+1∨j=i+1+a.sz:=fun j hpt=>by
   rcases hpt with ⟨x',a',_,_,_,hs',_⟩ | ⟨x',a',b',_,_,_,hs',e⟩
   ·have:=hs'.at;rw [ha] at this;simp [z4d] at this
   ·have:=hs'.at
    rw [ha] at this
    simp only [z4d,Pl.mk.injEq,Tr.two.injEq] at this
    rw [this.2.2.2.2.2.1.2.1]
    exact e
  rcases q9a h.wf.2.1 with e | e
  ·have hs:=h.both1 e
   have fen:(F (i+1)).en=((i+1+a.sz:Nat):Int):=by rw [hT.en _ hs.lt,hs.at];rfl
   refine (v2p bp g R.length i (i+1+a.sz) F w hR hs.lt hs2.lt hbg c0 hp (by rw [fop',e]) fen).mono ?_
   rintro e w2 ⟨rfl,h2,hb⟩
   have e1:((i+1+a.sz:Nat):Int)=(q1b R (i+1)).nx:=by rw [hs.at];rfl
   have e2:(F i).dp=(q1b R (i+1)).dp:=by rw [fdp',hs.at];rfl
   have e3:(F i).nx=(q1b R (i+1+a.sz)).nx:=by rw [fnx',hs2.at];rfl
   have e4:(F i).dp=(q1b R (i+1+a.sz)).dp:=by rw [fdp',hs2.at];rfl
   refine ⟨rfl,⟨_,h2,(hT.tell e1 e2).tell e3 e4,fun j hj hpt=>?_⟩,hb⟩
   have hp2:=k4a a
   rcases hpart j hpt with rfl | rfl
   ·rw [q0x (by omega),q0j];exact ⟨e1,e2⟩
   ·rw [q0j];exact ⟨e3,e4⟩
  ·have hs:=h.either1 (by omega)
   have fen:(F (i+1)).en=((i+1+a.sz:Nat):Int):=by rw [hT.en _ hs.lt,hs.at];rfl
   refine (j5s bp g R.length i (i+1+a.sz) F w hR hs.lt hs2.lt hbg c0 hp (by rw [fop',e]) fen).mono ?_
   rintro e w2 ⟨rfl,h2,hb⟩
   have e1:(F i).nx=(q1b R (i+1)).nx:=by rw [fnx',hs.at];rfl
   have e2:(F i).dp=(q1b R (i+1)).dp:=by rw [fdp',hs.at];rfl
   have e3:(F i).nx=(q1b R (i+1+a.sz)).nx:=by rw [fnx',hs2.at];rfl
   have e4:(F i).dp=(q1b R (i+1+a.sz)).dp:=by rw [fdp',hs2.at];rfl
   refine ⟨rfl,⟨_,h2,(hT.tell e1 e2).tell e3 e4,fun j hj hpt=>?_⟩,hb⟩
   have hp2:=k4a a
   rcases hpart j hpt with rfl | rfl
   ·rw [q0x (by omega),q0j];exact ⟨e1,e2⟩
   ·rw [q0j];exact ⟨e3,e4⟩
set_option maxRecDepth 100000
set_option maxHeartbeats 4000000
theorem q3j (z:Value) (n:Nat):(madeCells #[z] n).size=n:=by simp [madeCells]
theorem q1t (w:World) (O0 O1 O2 O3:Obj):((((w.alloc O0).alloc O1).alloc O2).alloc O3).drew.heap[w.heap.size]? = some O0∧((((w.alloc O0).alloc O1).alloc O2).alloc O3).drew.heap[w.heap.size+1]? = some O1
  ∧((((w.alloc O0).alloc O1).alloc O2).alloc O3).drew.heap[w.heap.size+1+1]? = some O2∧((((w.alloc O0).alloc O1).alloc O2).alloc O3).drew.heap[w.heap.size+1+1+1]? = some O3:=by
 have s1:(w.alloc O0).heap.size=w.heap.size+1:=by simp
 have s2:((w.alloc O0).alloc O1).heap.size=w.heap.size+1+1:=by simp
 have s3:(((w.alloc O0).alloc O1).alloc O2).heap.size=w.heap.size+1+1+1:=by simp
 have n0:=heap_alloc_new w O0
 have n1:=heap_alloc_new (w.alloc O0) O1
 have n2:=heap_alloc_new ((w.alloc O0).alloc O1) O2
 have n3:=heap_alloc_new (((w.alloc O0).alloc O1).alloc O2) O3
 rw [s1] at n1
 rw [s2] at n2
 rw [s3] at n3
 refine ⟨?_,?_,?_,n3⟩
 ·exact (Below.heap_alloc _ _ _ (by omega)).trans ((Below.heap_alloc _ _ _ (by omega)).trans ((Below.heap_alloc _ _ _ (by omega)).trans n0))
 ·exact (Below.heap_alloc _ _ _ (by omega)).trans ((Below.heap_alloc _ _ _ (by omega)).trans n1)
 ·exact (Below.heap_alloc _ _ _ (by omega)).trans n2
theorem q9i (w:World) (O0 O1 O2 O3:Obj):Below w.heap.size w ((((w.alloc O0).alloc O1).alloc O2).alloc O3).drew:=
 Below.drew (((((Below.refl _ w).alloc (Nat.le_refl _) _).alloc (by simp) _).alloc (by simp;omega) _).alloc (by simp;omega) _)
theorem q6x {w W:World} {s bp be bf cap:Nat} {a:Option Addr} {ds:List Nd} (hs:s<w.heap.size) (hN:q0u s w a ds) (bw:Below w.heap.size w W) (rb:W.heap[w.heap.size]? = some (.cells #[.slice none 0 0,.slice none 0 0,.slice none 0 0] 280 (0,0)))
  (hp:W.heap[bp]? = some (.cells #[.slice a ds.length cap,.slice (some ⟨be,0,none⟩) ds.length ds.length,.slice (some ⟨bf,0,none⟩) ds.length ds.length] 280 (0,0))) {ce cf:Array Value} {Te Tf:TypeId} (he:W.heap[be]? = some (.cells ce Te (0,0))) (hce:ce.size=ds.length) (hf:W.heap[bf]? = some (.cells cf Tf (0,0))) (hcf:cf.size=ds.length)
  (b1:w.heap.size≤bp) (b2:w.heap.size+1≤be) (b3:w.heap.size+1≤bf) (n1:bp≠be) (n2:bp≠bf) (n3:be≠bf):z4q w s bp be bf a cap ds W where
 b1:=b1
 b2:=b2
 b3:=b3
 n1:=n1
 n2:=n2
 n3:=n3
 c0:=by simp [World.cell?,hp]
 c1:=by simp [World.cell?,hp]
 c2:=by simp [World.cell?,hp]
 re:=⟨ce,Te,he,hce⟩
 rf:=⟨cf,Tf,hf,hcf⟩
 rb:=rb
 bw:=bw
 nd:=hN.kept (bw.block s hs)
theorem k0z (ds:List Nd) (a:Option Addr) (cap s:Nat) (w:World) (h0:q2k ds=0) (hN:q0u s w a ds) (hs:s<w.heap.size) :
  Calls Tryz.prog 198 #[.slice a ds.length cap] w fun e w'=>(∃ be bf,e = .returned (.agg #[.slice a ds.length cap,.slice (some ⟨be,0,none⟩) ds.length ds.length,.slice (some ⟨bf,0,none⟩) ds.length ds.length])∧be<w'.heap.size∧bf<w'.heap.size∧q7b w' be bf ds 0)∧Below w.heap.size w w':=by
 obtain ⟨hl,hn0,he⟩:=q4q h0
 have hm1:∀ W:World,(Instr.makeSlice 63 (.int .i64 (ds.length:Int)) (.int .i64 (ds.length:Int))).run Tryz.prog W = .ok (.slice (some ⟨W.heap.size,0,none⟩) ds.length ds.length) (W.alloc (.cells (madeCells #[.int .i64 0] ds.length) 3)):=fun W=>
  run_make_row' 63 3 _ 8 Tryz.underlying63 k9w rfl .i64 .i64 ds.length (by omega) (by omega) W
 have hm2:∀ W:World,(Instr.makeSlice 278 (.int .i64 (ds.length:Int)) (.int .i64 (ds.length:Int))).run Tryz.prog W = .ok (.slice (some ⟨W.heap.size,0,none⟩) ds.length ds.length) (W.alloc (.cells (madeCells #[.bool false] ds.length) 4)):=fun W=>
  run_make_row' 278 4 _ 1 Tryz.underlying278 j5m rfl .i64 .i64 ds.length (by omega) (by omega) W
 have HN0:Hid (∀ x∈ds,q0p x=0):=hn0
 have HE0:Hid (q1k ds 0 1=some ds.length):=he
 have HN:Hid (q0u s w a ds):=hN
 clear h0 hN hn0 he
 go_enter Tryz.func198,Tryz.ntmps198
 go_upto_region 1 with fail
 go_cut [0,2,3] (fun s0 s2 s3 wx=>s0 = .slice a ds.length cap∧s2 = .pointer (some ⟨w.heap.size,0,none⟩)∧∃ bp be bf,s3 = .pointer (some ⟨bp,0,none⟩)∧z4q w s bp be bf a cap ds wx)
 case first=>
  go_region_held3 (fun _=>True) (trivial) (fail)
  all_goals (go_wp2)
  all_goals
   go_meet
   first
    | exact ⟨rfl,rfl,w.heap.size+1+1+1,w.heap.size+1,w.heap.size+1+1,rfl,q6x hs HN.out (q9i w _ _ _ _) (q1t w _ _ _ _).1 (q1t w _ _ _ _).2.2.2 (q1t w _ _ _ _).2.1 (q3j _ _) (q1t w _ _ _ _).2.2.1 (q3j _ _) (by omega) (by omega) (by omega) (by omega) (by omega) (by omega)⟩
    | exact ⟨rfl,rfl,w.heap.size+1+1,w.heap.size+1,w.heap.size+1+1+1,rfl,q6x hs HN.out (q9i w _ _ _ _) (q1t w _ _ _ _).1 (q1t w _ _ _ _).2.2.1 (q1t w _ _ _ _).2.1 (q3j _ _) (q1t w _ _ _ _).2.2.2 (q3j _ _) (by omega) (by omega) (by omega) (by omega) (by omega) (by omega)⟩
    | exact ⟨rfl,rfl,w.heap.size+1+1+1,w.heap.size+1+1,w.heap.size+1,rfl,q6x hs HN.out (q9i w _ _ _ _) (q1t w _ _ _ _).1 (q1t w _ _ _ _).2.2.2 (q1t w _ _ _ _).2.2.1 (q3j _ _) (q1t w _ _ _ _).2.1 (q3j _ _) (by omega) (by omega) (by omega) (by omega) (by omega) (by omega)⟩
    | exact ⟨rfl,rfl,w.heap.size+1,w.heap.size+1+1,w.heap.size+1+1+1,rfl,q6x hs HN.out (q9i w _ _ _ _) (q1t w _ _ _ _).1 (q1t w _ _ _ _).2.1 (q1t w _ _ _ _).2.2.1 (q3j _ _) (q1t w _ _ _ _).2.2.2 (q3j _ _) (by omega) (by omega) (by omega) (by omega) (by omega) (by omega)⟩
    | exact ⟨rfl,rfl,w.heap.size+1+1,w.heap.size+1+1+1,w.heap.size+1,rfl,q6x hs HN.out (q9i w _ _ _ _) (q1t w _ _ _ _).1 (q1t w _ _ _ _).2.2.1 (q1t w _ _ _ _).2.2.2 (q3j _ _) (q1t w _ _ _ _).2.1 (q3j _ _) (by omega) (by omega) (by omega) (by omega) (by omega) (by omega)⟩
    | exact ⟨rfl,rfl,w.heap.size+1,w.heap.size+1+1+1,w.heap.size+1+1,rfl,q6x hs HN.out (q9i w _ _ _ _) (q1t w _ _ _ _).1 (q1t w _ _ _ _).2.1 (q1t w _ _ _ _).2.2.2 (q3j _ _) (q1t w _ _ _ _).2.2.1 (q3j _ _) (by omega) (by omega) (by omega) (by omega) (by omega) (by omega)⟩
 case rest=>
  obtain ⟨rfl,rfl,bp,be,bf,rfl,hP⟩:=hcut
  have HP:Hid (z4q w s bp be bf a cap ds wc):=hP
  clear hP
  go_wp2
  go_loopw [4] (fun i wr=>z4q w s bp be bf a cap ds wr∧∃ k:Nat,k≤ds.length∧i = .int .i64 ((k:Int) - 1)∧q7b wr be bf ds k) (fun i _=>(intOf i+1).toNat)
  case atStart=>exact ⟨HP.out,ds.length,Nat.le_refl _,by go_num,q7b.end⟩
  case round=>
   obtain ⟨hp,k,hk,rfl,hK⟩:=hrel
   have HR:Hid (z4q w s bp be bf a cap ds wr):=hp
   have HK:Hid (q7b wr be bf ds k):=hK
   clear hp hK
   by_cases hk0:k=0
   ·subst hk0
    have hneg:¬ ((0:Int)≤((0:Nat):Int) - 1):=by omega
    have c0:=HR.out.c0
    have c1:=HR.out.c1
    have c2:=HR.out.c2
    have rb:=HR.out.rb
    have r0:wr.cell? ⟨w.heap.size,0,none⟩=some (.slice none 0 0):=by simp [World.cell?,rb]
    have r1:wr.cell? ⟨w.heap.size,1,none⟩=some (.slice none 0 0):=by simp [World.cell?,rb]
    have r2:wr.cell? ⟨w.heap.size,2,none⟩=some (.slice none 0 0):=by simp [World.cell?,rb]
    have f0:wr.frozen? ⟨w.heap.size,0,none⟩=false:=by simp [World.frozen?,rb]
    have f1:wr.frozen? ⟨w.heap.size,1,none⟩=false:=by simp [World.frozen?,rb]
    have f2:wr.frozen? ⟨w.heap.size,2,none⟩=false:=by simp [World.frozen?,rb]
    clear rb
    go_wp2
    refine bodyPost_ret (v:=.agg #[.slice a ds.length cap,.slice (some ⟨be,0,none⟩) ds.length ds.length,.slice (some ⟨bf,0,none⟩) ds.length ds.length]) (by simp [results,Tryz.results198,go_sem,r0,r1,r2]) rfl ?_
    have hb:∀ v0 v1 v2,Below w.heap.size wr (((wr.setCell ⟨w.heap.size,0,none⟩ v0).setCell ⟨w.heap.size,1,none⟩ v1).setCell ⟨w.heap.size,2,none⟩ v2):=fun v0 v1 v2=>
     (((Below.refl _ wr).setCell (p:=⟨w.heap.size,0,none⟩) (Nat.le_refl _) _).setCell (p:=⟨w.heap.size,1,none⟩) (Nat.le_refl _) _).setCell (p:=⟨w.heap.size,2,none⟩) (Nat.le_refl _) _
    have hne:=HR.out.b2
    have hnf:=HR.out.b3
    have le:=HR.out.re.lt
    have lf:=HR.out.rf.lt
    have hk:∀ v0 v1 v2 k,k≠w.heap.size→(((wr.setCell ⟨w.heap.size,0,none⟩ v0).setCell ⟨w.heap.size,1,none⟩ v1).setCell ⟨w.heap.size,2,none⟩ v2).heap[k]? = wr.heap[k]?:=fun v0 v1 v2 k hk=>
     (Below.heap_setCell _ _ _ _ hk).trans ((Below.heap_setCell _ _ _ _ hk).trans (Below.heap_setCell _ _ _ _ hk))
    exact ⟨⟨be,bf,rfl,Nat.lt_of_lt_of_le le (hb _ _ _).size,Nat.lt_of_lt_of_le lf (hb _ _ _).size,HK.out.kept (hk _ _ _ _ (by omega)) (hk _ _ _ _ (by omega))⟩,HR.out.bw.trans (hb _ _ _)⟩
   ·obtain ⟨i,rfl⟩:∃ i,k=i+1:=⟨k - 1,by omega⟩
    have hki:(((i+1:Nat):Int) - 1)=(i:Int):=by omega
    rw [hki]
    obtain ⟨j,hj,hj1,hj2⟩:=k8y HE0.out (show i<ds.length by omega)
    obtain ⟨t,ht,hd,_⟩:=j3m HN0.out hj
    have HD:Hid (ds.drop i=t.nodes++ds.drop j):=hd
    clear hd hj hki
    go_wp2_with fail
    refine (j0j bp be bf s cap i ds a t (ds.drop j) _ ht HD.out hl HR.out.nd HR.out.n1 HR.out.n2 HR.out.n3 (by have:=HR.out.b2;omega) (by have:=HR.out.b3;omega) HR.out.c0 HR.out.c1 HR.out.c2 HR.out.re HR.out.rf HK.out).mono ?_
    rintro e w2 ⟨rfl,hp2⟩
    obtain ⟨y1,e5⟩:=HR.out.re.cell (show i<ds.length by omega)
    obtain ⟨y2,e6⟩:=HR.out.rf.cell (show i<ds.length by omega)
    have HR2:Hid (z4q w s bp be bf a cap ds w2):=HR.out.put hs hp2
    have HK2:Hid (q7b w2 be bf ds i):=HK.out.step ht HD.out HR.out.n3 e5 e6 hp2
    clear hp2 e5 e6
    go_wp2
    go_roundw
    case rel=>exact ⟨HR2.out,i,by omega,by go_num,HK2.out⟩
    case measure=>simp [intOf]
end Go.Proofs.YtchdplceopegoaaGreatDoor
