/- Texts as one: PlanN, BldO, WLay. -/
import Derived.Test.YtchdplceopegoaaGreatDoorPs24
import Derived.Test.YtchdplceopegoaaGreatDoorRep
namespace Go.Proofs.YtchdplceopegoaaGreatDoor
open Go Go.RowKit
set_option maxRecDepth 100000
set_option maxHeartbeats 4000000
theorem q3q (z:Value) (n:Nat):(madeCells #[z] n).size=n:=by simp [madeCells]
theorem q1t (w:World) (O0 O1 O2 O3:Obj):((((w.alloc O0).alloc O1).alloc O2).alloc O3).drew.heap[w.heap.size]? = some O0∧((((w.alloc O0).alloc O1).alloc O2).alloc O3).drew.heap[w.heap.size+1]? = some O1
  ∧((((w.alloc O0).alloc O1).alloc O2).alloc O3).drew.heap[w.heap.size+1+1]? = some O2∧((((w.alloc O0).alloc O1).alloc O2).alloc O3).drew.heap[w.heap.size+1+1+1]? = some O3:=by
 have s1:(w.alloc O0).heap.size=w.heap.size+1:=by simp
 have s2:((w.alloc O0).alloc O1).heap.size=w.heap.size+1+1:=by simp
 have s3:(((w.alloc O0).alloc O1).alloc O2).heap.size=w.heap.size+1+1+1:=by simp
 have n0:=heap_alloc_new w O0
 have n1:=heap_alloc_new (w.alloc O0) O1
 have n2:=heap_alloc_new ((w.alloc O0).alloc O1) O2
 have n3:=heap_alloc_new (((w.alloc O0).alloc O1).alloc O2) O3
 rw [s1] at n1
 rw [s2] at n2
 rw [s3] at n3
 refine ⟨?_,?_,?_,n3⟩
 ·exact (Below.heap_alloc _ _ _ (by omega)).trans ((Below.heap_alloc _ _ _ (by omega)).trans ((Below.heap_alloc _ _ _ (by omega)).trans n0))
 ·exact (Below.heap_alloc _ _ _ (by omega)).trans ((Below.heap_alloc _ _ _ (by omega)).trans n1)
 ·exact (Below.heap_alloc _ _ _ (by omega)).trans n2
theorem z0j (w:World) (O0 O1 O2 O3:Obj):Below w.heap.size w ((((w.alloc O0).alloc O1).alloc O2).alloc O3).drew:=
 Below.drew (((((Below.refl _ w).alloc (Nat.le_refl _) _).alloc (by simp) _).alloc (by simp;omega) _).alloc (by simp;omega) _)
theorem q7p {w W:World} {s bp be bf cap:Nat} {a:Option Addr} {ds:List Nd} (hs:s<w.heap.size) (hN:q0v s w a ds) (bw:Below w.heap.size w W) (rb:W.heap[w.heap.size]? = some (.cells #[.slice none 0 0,.slice none 0 0,.slice none 0 0] 280 (0,0)))
  (hp:W.heap[bp]? = some (.cells #[.slice a ds.length cap,.slice (some ⟨be,0,none⟩) ds.length ds.length,.slice (some ⟨bf,0,none⟩) ds.length ds.length] 280 (0,0))) {ce cf:Array Value} {Te Tf:TypeId} (he:W.heap[be]? = some (.cells ce Te (0,0))) (hce:ce.size=ds.length) (hf:W.heap[bf]? = some (.cells cf Tf (0,0))) (hcf:cf.size=ds.length)
  (b1:w.heap.size≤bp) (b2:w.heap.size+1≤be) (b3:w.heap.size+1≤bf) (n1:bp≠be) (n2:bp≠bf) (n3:be≠bf):z5r w s bp be bf a cap ds W where
 b1:=b1
 b2:=b2
 b3:=b3
 n1:=n1
 n2:=n2
 n3:=n3
 c0:=by simp [World.cell?,hp]
 c1:=by simp [World.cell?,hp]
 c2:=by simp [World.cell?,hp]
 re:=⟨ce,Te,he,hce⟩
 rf:=⟨cf,Tf,hf,hcf⟩
 rb:=rb
 bw:=bw
 nd:=hN.kept (bw.block s hs)
theorem k2c (ds:List Nd) (a:Option Addr) (cap s:Nat) (w:World) (h0:q2n ds=0) (hN:q0v s w a ds) (hs:s<w.heap.size) :
  Calls Tryz.prog 198 #[.slice a ds.length cap] w fun e w'=>(∃ be bf,e = .returned (.agg #[.slice a ds.length cap,.slice (some ⟨be,0,none⟩) ds.length ds.length,.slice (some ⟨bf,0,none⟩) ds.length ds.length])∧be<w'.heap.size∧bf<w'.heap.size∧q7v w' be bf ds 0)∧Below w.heap.size w w':=by
 obtain ⟨hl,hn0,he⟩:=q4y h0
 have hm1:∀ W:World,(Instr.makeSlice 63 (.int .i64 (ds.length:Int)) (.int .i64 (ds.length:Int))).run Tryz.prog W = .ok (.slice (some ⟨W.heap.size,0,none⟩) ds.length ds.length) (W.alloc (.cells (madeCells #[.int .i64 0] ds.length) 3)):=fun W=>
  run_make_row' 63 3 _ 8 Tryz.underlying63 j1j rfl .i64 .i64 ds.length (by omega) (by omega) W
 have hm2:∀ W:World,(Instr.makeSlice 278 (.int .i64 (ds.length:Int)) (.int .i64 (ds.length:Int))).run Tryz.prog W = .ok (.slice (some ⟨W.heap.size,0,none⟩) ds.length ds.length) (W.alloc (.cells (madeCells #[.bool false] ds.length) 4)):=fun W=>
  run_make_row' 278 4 _ 1 Tryz.underlying278 j7n rfl .i64 .i64 ds.length (by omega) (by omega) W
 have HN0:Hid (∀ x∈ds,q0r x=0):=hn0
 have HE0:Hid (q1k ds 0 1=some ds.length):=he
 have HN:Hid (q0v s w a ds):=hN
 clear h0 hN hn0 he
 go_enter Tryz.func198,Tryz.ntmps198
 go_upto_region 1 with fail
 go_cut [0,2,3] (fun s0 s2 s3 wx=>s0 = .slice a ds.length cap∧s2 = .pointer (some ⟨w.heap.size,0,none⟩)∧∃ bp be bf,s3 = .pointer (some ⟨bp,0,none⟩)∧z5r w s bp be bf a cap ds wx)
 case first=>
  go_region_held3 (fun _=>True) (trivial) (fail)
  all_goals (go_wp2)
  all_goals
   go_meet
   first
    | exact ⟨rfl,rfl,w.heap.size+1+1+1,w.heap.size+1,w.heap.size+1+1,rfl,q7p hs HN.out (z0j w _ _ _ _) (q1t w _ _ _ _).1 (q1t w _ _ _ _).2.2.2 (q1t w _ _ _ _).2.1 (q3q _ _) (q1t w _ _ _ _).2.2.1 (q3q _ _) (by omega) (by omega) (by omega) (by omega) (by omega) (by omega)⟩
    | exact ⟨rfl,rfl,w.heap.size+1+1,w.heap.size+1,w.heap.size+1+1+1,rfl,q7p hs HN.out (z0j w _ _ _ _) (q1t w _ _ _ _).1 (q1t w _ _ _ _).2.2.1 (q1t w _ _ _ _).2.1 (q3q _ _) (q1t w _ _ _ _).2.2.2 (q3q _ _) (by omega) (by omega) (by omega) (by omega) (by omega) (by omega)⟩
    | exact ⟨rfl,rfl,w.heap.size+1+1+1,w.heap.size+1+1,w.heap.size+1,rfl,q7p hs HN.out (z0j w _ _ _ _) (q1t w _ _ _ _).1 (q1t w _ _ _ _).2.2.2 (q1t w _ _ _ _).2.2.1 (q3q _ _) (q1t w _ _ _ _).2.1 (q3q _ _) (by omega) (by omega) (by omega) (by omega) (by omega) (by omega)⟩
    | exact ⟨rfl,rfl,w.heap.size+1,w.heap.size+1+1,w.heap.size+1+1+1,rfl,q7p hs HN.out (z0j w _ _ _ _) (q1t w _ _ _ _).1 (q1t w _ _ _ _).2.1 (q1t w _ _ _ _).2.2.1 (q3q _ _) (q1t w _ _ _ _).2.2.2 (q3q _ _) (by omega) (by omega) (by omega) (by omega) (by omega) (by omega)⟩
    | exact ⟨rfl,rfl,w.heap.size+1+1,w.heap.size+1+1+1,w.heap.size+1,rfl,q7p hs HN.out (z0j w _ _ _ _) (q1t w _ _ _ _).1 (q1t w _ _ _ _).2.2.1 (q1t w _ _ _ _).2.2.2 (q3q _ _) (q1t w _ _ _ _).2.1 (q3q _ _) (by omega) (by omega) (by omega) (by omega) (by omega) (by omega)⟩
    | exact ⟨rfl,rfl,w.heap.size+1,w.heap.size+1+1+1,w.heap.size+1+1,rfl,q7p hs HN.out (z0j w _ _ _ _) (q1t w _ _ _ _).1 (q1t w _ _ _ _).2.1 (q1t w _ _ _ _).2.2.2 (q3q _ _) (q1t w _ _ _ _).2.2.1 (q3q _ _) (by omega) (by omega) (by omega) (by omega) (by omega) (by omega)⟩
 case rest=>
  obtain ⟨rfl,rfl,bp,be,bf,rfl,hP⟩:=hcut
  have HP:Hid (z5r w s bp be bf a cap ds wc):=hP
  clear hP
  go_wp2
  go_loopw [4] (fun i wr=>z5r w s bp be bf a cap ds wr∧∃ k:Nat,k≤ds.length∧i = .int .i64 ((k:Int) - 1)∧q7v wr be bf ds k) (fun i _=>(intOf i+1).toNat)
  case atStart=>exact ⟨HP.out,ds.length,Nat.le_refl _,by go_num,q7v.end⟩
  case round=>
   obtain ⟨hp,k,hk,rfl,hK⟩:=hrel
   have HR:Hid (z5r w s bp be bf a cap ds wr):=hp
   have HK:Hid (q7v wr be bf ds k):=hK
   clear hp hK
   by_cases hk0:k=0
   ·subst hk0
    have hneg:¬ ((0:Int)≤((0:Nat):Int) - 1):=by omega
    have c0:=HR.out.c0
    have c1:=HR.out.c1
    have c2:=HR.out.c2
    have rb:=HR.out.rb
    have r0:wr.cell? ⟨w.heap.size,0,none⟩=some (.slice none 0 0):=by simp [World.cell?,rb]
    have r1:wr.cell? ⟨w.heap.size,1,none⟩=some (.slice none 0 0):=by simp [World.cell?,rb]
    have r2:wr.cell? ⟨w.heap.size,2,none⟩=some (.slice none 0 0):=by simp [World.cell?,rb]
    have f0:wr.frozen? ⟨w.heap.size,0,none⟩=false:=by simp [World.frozen?,rb]
    have f1:wr.frozen? ⟨w.heap.size,1,none⟩=false:=by simp [World.frozen?,rb]
    have f2:wr.frozen? ⟨w.heap.size,2,none⟩=false:=by simp [World.frozen?,rb]
    clear rb
    go_wp2
    refine bodyPost_ret (v:=.agg #[.slice a ds.length cap,.slice (some ⟨be,0,none⟩) ds.length ds.length,.slice (some ⟨bf,0,none⟩) ds.length ds.length]) (by simp [results,Tryz.results198,go_sem,r0,r1,r2]) rfl ?_
    have hb:∀ v0 v1 v2,Below w.heap.size wr (((wr.setCell ⟨w.heap.size,0,none⟩ v0).setCell ⟨w.heap.size,1,none⟩ v1).setCell ⟨w.heap.size,2,none⟩ v2):=fun v0 v1 v2=>
     (((Below.refl _ wr).setCell (p:=⟨w.heap.size,0,none⟩) (Nat.le_refl _) _).setCell (p:=⟨w.heap.size,1,none⟩) (Nat.le_refl _) _).setCell (p:=⟨w.heap.size,2,none⟩) (Nat.le_refl _) _
    have hne:=HR.out.b2
    have hnf:=HR.out.b3
    have le:=HR.out.re.lt
    have lf:=HR.out.rf.lt
    have hk:∀ v0 v1 v2 k,k≠w.heap.size→(((wr.setCell ⟨w.heap.size,0,none⟩ v0).setCell ⟨w.heap.size,1,none⟩ v1).setCell ⟨w.heap.size,2,none⟩ v2).heap[k]? = wr.heap[k]?:=fun v0 v1 v2 k hk=>
     (Below.heap_setCell _ _ _ _ hk).trans ((Below.heap_setCell _ _ _ _ hk).trans (Below.heap_setCell _ _ _ _ hk))
    exact ⟨⟨be,bf,rfl,Nat.lt_of_lt_of_le le (hb _ _ _).size,Nat.lt_of_lt_of_le lf (hb _ _ _).size,HK.out.kept (hk _ _ _ _ (by omega)) (hk _ _ _ _ (by omega))⟩,HR.out.bw.trans (hb _ _ _)⟩
   ·obtain ⟨i,rfl⟩:∃ i,k=i+1:=⟨k - 1,by omega⟩
    have hki:(((i+1:Nat):Int) - 1)=(i:Int):=by omega
    rw [hki]
    obtain ⟨j,hj,hj1,hj2⟩:=j0k HE0.out (show i<ds.length by omega)
    obtain ⟨t,ht,hd,_⟩:=j5j HN0.out hj
    have HD:Hid (ds.drop i=t.nodes++ds.drop j):=hd
    clear hd hj hki
    go_wp2_with fail
    refine (j1y bp be bf s cap i ds a t (ds.drop j) _ ht HD.out hl HR.out.nd HR.out.n1 HR.out.n2 HR.out.n3 (by have:=HR.out.b2;omega) (by have:=HR.out.b3;omega) HR.out.c0 HR.out.c1 HR.out.c2 HR.out.re HR.out.rf HK.out).mono ?_
    rintro e w2 ⟨rfl,hp2⟩
    obtain ⟨y1,e5⟩:=HR.out.re.cell (show i<ds.length by omega)
    obtain ⟨y2,e6⟩:=HR.out.rf.cell (show i<ds.length by omega)
    have HR2:Hid (z5r w s bp be bf a cap ds w2):=HR.out.put hs hp2
    have HK2:Hid (q7v w2 be bf ds i):=HK.out.step ht HD.out HR.out.n3 e5 e6 hp2
    clear hp2 e5 e6
    go_wp2
    go_roundw
    case rel=>exact ⟨HR2.out,i,by omega,by go_num,HK2.out⟩
    case measure=>simp [intOf]
end Go.Proofs.YtchdplceopegoaaGreatDoor
namespace Go.Proofs.YtchdplceopegoaaGreatDoor
open Go Go.RowKit
set_option maxRecDepth 100000
set_option maxHeartbeats 2000000
def OAt (T:TypeId) (B b:Nat) (pre:List Value) (p:Value) (bs R:List Value) (w:World):Prop:=
 ∃ v,w.heap[b]? = some (.cells (pre++p::v::R).toArray T (0,0))∧w.ownsRowF B 5 1 v bs.length bs∧v.ownBlock≠some b∧(bs=[]→v = .slice none 0 0)
def IsO (T:TypeId) (B b:Nat) (pre bs R:List Value) (w:World):Prop:=
 OAt T B b pre (.pointer none) bs R w∨OAt T B b pre (.pointer (some ⟨b,pre.length,none⟩)) bs R w
section
variable {T:TypeId} {B b:Nat} {p v:Value} {pre bs R:List Value} {w:World}
theorem v0b (hb:w.heap[b]? = some (.cells (pre++p::v::R).toArray T (0,0))) (i:Nat):w.cell? ⟨b,i,none⟩=(pre++p::v::R)[i]?:=by
 simp [World.cell?,hb]
theorem j3l (hb:w.heap[b]? = some (.cells (pre++p::v::R).toArray T (0,0))):w.cell? ⟨b,pre.length,none⟩=some p:=by
 rw [v0b hb,List.getElem?_append_right (Nat.le_refl _),Nat.sub_self];rfl
theorem k4n (hb:w.heap[b]? = some (.cells (pre++p::v::R).toArray T (0,0))):w.cell? ⟨b,pre.length+1,none⟩=some v:=by
 rw [v0b hb,List.getElem?_append_right (Nat.le_add_right _ _),Nat.add_sub_cancel_left];rfl
theorem olt (hb:w.heap[b]? = some (.cells (pre++p::v::R).toArray T (0,0))):b<w.heap.size:=by
 rcases Nat.lt_or_ge b w.heap.size with h' | h'
 ·exact h'
 ·simp [Array.getElem?_eq_none h'] at hb
theorem OAt.cell0 (h:OAt T B b pre p bs R w):w.cell? ⟨b,pre.length,none⟩=some p:=by
 obtain ⟨v,hb,_⟩:=h
 exact j3l hb
theorem OAt.cellP (h:OAt T B b pre p bs R w) (i:Nat) (hi:i<pre.length):w.cell? ⟨b,i,none⟩=pre[i]?:=by
 obtain ⟨v,hb,_⟩:=h
 rw [v0b hb,List.getElem?_append_left hi]
theorem OAt.cellR (h:OAt T B b pre p bs R w) (i:Nat):w.cell? ⟨b,pre.length+(i+2),none⟩=R[i]?:=by
 obtain ⟨v,hb,_⟩:=h
 rw [v0b hb,List.getElem?_append_right (Nat.le_add_right _ _),Nat.add_sub_cancel_left];rfl
theorem OAt.shape (h:OAt T B b pre p bs R w):w.shape? b=some (T,pre.length+(R.length+2)):=by
 obtain ⟨v,hb,_⟩:=h
 simp [World.shape?,hb]
theorem OAt.lt (h:OAt T B b pre p bs R w):b<w.heap.size:=by
 obtain ⟨v,hb,_⟩:=h
 exact olt hb
theorem y5p (hb:w.heap[b]? = some (.cells (pre++p::v::R).toArray T (0,0))) (i:Nat) (q:Value):(w.setCell ⟨b,i,none⟩ q).heap[b]? = some (.cells ((pre++p::v::R).set i q).toArray T (0,0)):=by
 simp [World.setCell,Array.getElem?_modify,hb]
theorem OAt.used (h:OAt T B b pre p bs R w) (q:Value):OAt T B b pre q bs R (w.setCell ⟨b,pre.length,none⟩ q):=by
 obtain ⟨v,hb,hown,hne,h0⟩:=h
 refine ⟨v,?_,?_,hne,h0⟩
 ·rw [y5p hb,List.set_append_right _ _ (Nat.le_refl _),Nat.sub_self];rfl
 ·exact hown.kept (row:=some b) ⟨rfl,rfl,rfl,by simp [World.setCell],fun k _ hk=>Below.heap_setCell _ _ _ _ (fun e=>hk (by simp [e]))⟩ (Or.inr hne)
theorem OAt.stored (h:OAt T B b pre p bs R w) (i:Nat) (q:Value):OAt T B b pre p bs (R.set i q) (w.setCell ⟨b,pre.length+(i+2),none⟩ q):=by
 obtain ⟨v,hb,hown,hne,h0⟩:=h
 refine ⟨v,?_,?_,hne,h0⟩
 ·rw [y5p hb,List.set_append_right _ _ (Nat.le_add_right _ _),Nat.add_sub_cancel_left];rfl
 ·exact hown.kept (row:=some b) ⟨rfl,rfl,rfl,by simp [World.setCell],fun k _ hk=>Below.heap_setCell _ _ _ _ (fun e=>hk (by simp [e]))⟩ (Or.inr hne)
theorem OAt.frozen (h:OAt T B b pre p bs R w) (i:Nat):w.frozen? ⟨b,i,none⟩=false:=by
 obtain ⟨v,hb,_⟩:=h
 simp [World.frozen?,hb]
theorem OAt.put {v':Value} {bs':List Value} (hb:w.heap[b]? = some (.cells (pre++p::v::R).toArray T (0,0))) (hown:w.ownsRowF B 5 1 v' bs'.length bs') (hTe:T≠5) (h0:bs'=[]→v' = .slice none 0 0) :
  OAt T B b pre p bs' R (w.setCell ⟨b,pre.length+1,none⟩ v'):=by
 have hne:=Lib.ownBlock_neF hown hb hTe
 refine ⟨v',?_,?_,hne,h0⟩
 ·rw [y5p hb,List.set_append_right _ _ (Nat.le_add_right _ _),Nat.add_sub_cancel_left];rfl
 ·exact hown.kept (row:=some b) ⟨rfl,rfl,rfl,by simp [World.setCell],fun k _ hk=>Below.heap_setCell _ _ _ _ (fun e=>hk (by simp [e]))⟩ (Or.inr hne)
theorem OAt.alloc (h:OAt T B b pre p bs R w) (o:Obj):OAt T B b pre p bs R (w.alloc o):=by
 have hlt:=h.lt
 obtain ⟨v,hb,hown,hne,h0⟩:=h
 exact ⟨v,(Lib.alloc_old w o b hlt).trans hb,hown.kept (World.grownBy_alloc w o none) (by cases hv:v.ownBlock<;>simp),hne,h0⟩
theorem OAt.below {w':World} (h:OAt T B b pre p bs R w) (hx:Below w.heap.size w w'):OAt T B b pre p bs R w':=by
 have hlt:=h.lt
 obtain ⟨v,hb,hown,hne,h0⟩:=h
 exact ⟨v,(hx.block b hlt).trans hb,hown.kept (row:=none) ⟨hx.os,hx.tape,hx.output,hx.size,fun k hk _=>hx.block k hk⟩ (by cases hv:v.ownBlock<;>simp),hne,h0⟩
theorem IsO.at (h:IsO T B b pre bs R w):∃ p,OAt T B b pre p bs R w:=by
 rcases h with h | h
 ·exact ⟨_,h⟩
 ·exact ⟨_,h⟩
theorem IsO.lt (h:IsO T B b pre bs R w):b<w.heap.size:=h.at.elim fun _ h=>h.lt
theorem IsO.cellP (h:IsO T B b pre bs R w) (i:Nat) (hi:i<pre.length):w.cell? ⟨b,i,none⟩=pre[i]?:=h.at.elim fun _ h=>h.cellP i hi
theorem IsO.cellR (h:IsO T B b pre bs R w) (i:Nat):w.cell? ⟨b,pre.length+(i+2),none⟩=R[i]?:=h.at.elim fun _ h=>h.cellR i
theorem IsO.frozen (h:IsO T B b pre bs R w) (i:Nat):w.frozen? ⟨b,i,none⟩=false:=h.at.elim fun _ h=>h.frozen i
theorem IsO.alloc (h:IsO T B b pre bs R w) (o:Obj):IsO T B b pre bs R (w.alloc o):=h.imp (·.alloc o) (·.alloc o)
theorem IsO.below {w':World} (h:IsO T B b pre bs R w) (hx:Below w.heap.size w w'):IsO T B b pre bs R w':=h.imp (·.below hx) (·.below hx)
theorem IsO.stored (h:IsO T B b pre bs R w) (i:Nat) (q:Value):IsO T B b pre bs (R.set i q) (w.setCell ⟨b,pre.length+(i+2),none⟩ q):=h.imp (·.stored i q) (·.stored i q)
theorem IsO.unused (T:TypeId) (B b:Nat) (w:World) (pre R:List Value) (h:w.heap[b]? = some (.cells (pre++.pointer none::.slice none 0 0::R).toArray T (0,0))):IsO T B b pre [] R w:=
 Or.inl ⟨.slice none 0 0,h,World.ownsRowF_nil _ _ _ _,by simp [Value.ownBlock],fun _=>rfl⟩
end
theorem k2e (b o:Nat) (w:World) (h0:w.cell? ⟨b,o,none⟩=some (.pointer (some ⟨b,o,none⟩))) :
  Calls Tryz.prog 54 #[.pointer (some ⟨b,o,none⟩)] w fun e w'=>e = .returned (.tuple #[])∧w'=w:=by
 obtain ⟨j,hj,_⟩:=Option.map_eq_some_iff.1 v2a
 go_enter Tryz.func54,Tryz.ntmps54
 go_wp2
 rw [Lib.run_neq_ptr_same w _ Tryz.underlying80 hj]
 go_wp2
 go_end0
 exact ⟨rfl,rfl⟩
theorem z9p (T n b o:Nat) (w:World) (hl:liesAt Tryz.prog Tryz.prog.depth T (n / Tryz.prog.cellsOf T) o 83 1=true) (h0:w.cell? ⟨b,o,none⟩=some (.pointer none)) (hsh:w.shape? b=some (T,n)) (hn:o<n) (hfz:w.frozen? ⟨b,o,none⟩=false) :
  Calls Tryz.prog 54 #[.pointer (some ⟨b,o,none⟩)] w fun e w'=>e = .returned (.tuple #[])∧w'=w.setCell ⟨b,o,none⟩ (.pointer (some ⟨b,o,none⟩)):=by
 obtain ⟨j,hj,hjs⟩:=Option.map_eq_some_iff.1 v2a
 have HL:Hid (liesAt Tryz.prog Tryz.prog.depth T (n / Tryz.prog.cellsOf T) o 83 1=true):=hl
 have HS:Hid (w.shape? b=some (T,n)):=hsh
 have HJ:Hid (j.size≠0):=(show j.size≠0 by rw [hjs];decide)
 clear hl hsh hjs
 go_enter Tryz.func54,Tryz.ntmps54
 go_wp2
 rw [Lib.run_to_unsafe w ⟨b,o,none⟩ Tryz.underlying80 Tryz.underlying116 hj HJ.out HS.out hn]
 simp only [Result.andThen]
 rw [Oper.upon_value]
 go_wp2
 rw [run_callFunc_extern Tryz.func89 (by kernel_rfl) (by kernel_rfl) (by kernel_rfl) (e:=Extern.AbiNoEscape.same) (by kernel_rfl)]
 rw [Lib.run_noEscape]
 simp only [Result.andThen]
 rw [Oper.upon_value]
 go_wp2
 rw [Lib.run_from_unsafe w ⟨b,o,none⟩ Tryz.underlying116 Tryz.underlying80 hj HS.out HL.out]
 simp only [Result.andThen]
 rw [Oper.upon_value]
 go_wp2
 go_end0
 exact ⟨rfl,rfl⟩
def k8f (T n o:Nat):Prop:=liesAt Tryz.prog Tryz.prog.depth T (n / Tryz.prog.cellsOf T) o 83 1=true
theorem k6v (T B b o:Nat) (pre bs R:List Value) (w:World) (ho:pre.length=o) (hl:k8f T (o+(R.length+2)) o) (h:IsO T B b pre bs R w) :
  Calls Tryz.prog 54 #[.pointer (some ⟨b,o,none⟩)] w fun e w'=>e = .returned (.tuple #[])∧(OAt T B b pre (.pointer (some ⟨b,pre.length,none⟩)) bs R w'∧q0i B b w w'∧Lib.OthersKept 5 (some b) w w'):=by
 subst ho
 rcases h with h | h
 ·refine (z9p T (pre.length+(R.length+2)) b pre.length w hl h.cell0 h.shape (by omega) (h.frozen _)).mono ?_
  rintro e w' ⟨rfl,rfl⟩
  exact ⟨rfl,h.used _,(q0i.refl B b w).setCell (p:=⟨b,pre.length,none⟩) (.inl rfl) _,(Lib.OthersKept.refl _ _ w).setCell ⟨b,pre.length,none⟩ rfl _⟩
 ·refine (k2e b pre.length w h.cell0).mono ?_
  rintro e w' ⟨rfl,rfl⟩
  exact ⟨rfl,h,q0i.refl B b _,Lib.OthersKept.refl _ _ _⟩
theorem k2k (T B b o:Nat) (pre bs R:List Value) (s:ByteArray) (w:World) (ho:pre.length=o) (hl:k8f T (o+(R.length+2)) o) (hT:T≠5) (h:IsO T B b pre bs R w) (hlen:bs.length+s.size≤140737488355328) (hBw:B≤w.heap.size) :
  Calls Tryz.prog 33 #[.pointer (some ⟨b,o,none⟩),.string s] w fun e w'=>e = .returned (.tuple #[.int .i64 s.size,.nilIface])∧(IsO T B b pre (bs++Lib.strCells s) R w'∧q0i B b w w'∧Lib.OthersKept 5 (some b) w w'):=by
 obtain ⟨i0,hi,hz0,hz1,hz2⟩:=info_parts v1w
 have HL:Hid (k8f T (o+(R.length+2)) o):=hl
 have HT:Hid (T≠5):=hT
 have HO:Hid (pre.length=o):=ho
 have H:Hid (IsO T B b pre bs R w):=h
 clear hl hT h ho
 go_enter Tryz.func33,Tryz.ntmps33
 go_wp2_with (go_at_call 54;refine (k6v T B b o pre bs R _ HO.out HL.out H.out).mono ?_)
 rintro e w1 ⟨rfl,h1,hb1,hk1⟩
 obtain ⟨v,hbk,hown,hne,h0⟩:=h1
 have H0:Hid (bs=[]→v = .slice none 0 0):=h0
 have HBK:Hid (w1.heap[b]? = some (.cells (pre++.pointer (some ⟨b,pre.length,none⟩)::v::R).toArray T (0,0))):=hbk
 clear h0
 have c0:w1.cell? ⟨b,o,none⟩=some (.pointer (some ⟨b,o,none⟩)):=by have:=j3l hbk;rw [HO.out] at this;exact this
 have c1:w1.cell? ⟨b,o+1,none⟩=some v:=by have:=k4n hbk;rw [HO.out] at this;exact this
 clear hbk
 go_wp2_with (at_builtin;refine Lib.wpList_append_own_stringF _ rfl _ _ 81 9 rfl B 5 i0 Tryz.underlying81 Tryz.underlying9 hi hz0 hz1 hz2 _ _ _ rfl hown s rfl ?c3 ?c4 ?c5 ?_)
 case c3=>unfold maxLen;omega
 case c4=>omega
 case c5=>have:=hb1.size;omega
 intro v' w2 hown' hgrow hnil
 have HZ:Hid (v' = .slice none 0 0↔v = .slice none 0 0∧s.size=0):=(show _↔_ by simpa using hnil)
 clear hnil
 have hlt:b<w1.heap.size:=olt HBK.out
 have hb2:w2.heap[b]? = some (.cells (pre++.pointer (some ⟨b,pre.length,none⟩)::v::R).toArray T (0,0)):=by
  rw [hgrow.block b hlt (fun e=>hne e.symm)]
  exact HBK.out
 have HB2:Hid (w2.heap[b]? = some (.cells (pre++.pointer (some ⟨b,pre.length,none⟩)::v::R).toArray T (0,0))):=hb2
 have d0:w2.cell? ⟨b,o,none⟩=some (.pointer (some ⟨b,o,none⟩)):=by have:=j3l hb2;rw [HO.out] at this;exact this
 have d1:w2.cell? ⟨b,o+1,none⟩=some v:=by have:=k4n hb2;rw [HO.out] at this;exact this
 have f1:w2.frozen? ⟨b,o+1,none⟩=false:=Lib.frozen_of_heap hb2 (o+1)
 clear hb2
 obtain ⟨ao,n',cap,rfl⟩:∃ ao n' cap,v' = .slice ao n' cap:=by
  rcases hown'.2 with ⟨hv,_⟩ | ⟨g,cap,cur,fz,hv,_⟩
  ·exact ⟨_,_,_,hv⟩
  ·exact ⟨_,_,_,hv⟩
 go_wp2
 go_ret2
 refine ⟨rfl,.inr ?_,?_,(hk1.grown hgrow (Lib.ownsRowF_kind hown)).setCell ⟨b,o+1,none⟩ rfl _⟩
 ·rw [←HO.out]
  refine OAt.put HB2.out (bs':=bs++Lib.strCells s) (by simpa [Lib.strCells_length] using hown') HT.out (fun h=>?_)
  obtain ⟨h1,h2⟩:=List.append_eq_nil_iff.1 h
  refine HZ.out.2 ⟨H0.out h1,?_⟩
  rw [←Lib.strCells_length,h2];rfl
 ·exact (hb1.grown hgrow (by have:=hb1.size;omega) (fun k hk=>(hown.lt k hk).1)).setCell (p:=⟨b,o+1,none⟩) (.inl rfl) _
theorem j3o (T B b o:Nat) (pre:List Value) (l:List UInt8) (R:List Value) (w:World) (ho:pre.length=o) (h:IsO T B b pre (Lib.byteCells l) R w) (h0:l≠[]) :
  Calls Tryz.prog 34 #[.pointer (some ⟨b,o,none⟩)] w fun e w'=>e = .returned (.string ⟨l.toArray⟩)∧Below B w w':=by
 obtain ⟨p,hAt⟩:=h.at
 obtain ⟨v,hbk,hown,hne,_⟩:=hAt
 have hl0:l.length≠0:=by simpa using h0
 rw [Lib.byteCells_length] at hown
 obtain ⟨g,cap,cur,fz,rfl,hbg,hg,hfz,hnc,hcm,hcs,htake⟩:∃ g cap cur fz,v = .slice (some ⟨g,0,none⟩) l.length cap∧B≤g∧w.heap[g]? = some (.cells cur 5 fz)∧fz.2≤l.length*1∧l.length≤cap∧cap≤maxLen∧cur.size=cap*1∧cur.toList.take (l.length*1)=Lib.byteCells l:=by
  rcases hown.2 with ⟨_,hz⟩ | ⟨g,cap,cur,fz,hv,r⟩
  ·exact absurd hz hl0
  ·exact ⟨g,cap,cur,fz,hv,r⟩
 have c1:w.drew.cell? ⟨b,o+1,none⟩=some (.slice (some ⟨g,0,none⟩) l.length cap):=by
  have:w.drew.heap[b]? = some (.cells (pre++p::.slice (some ⟨g,0,none⟩) l.length cap::R).toArray T (0,0)):=hbk
  have:=k4n this
  rw [ho] at this
  exact this
 have hSD:(Builtin.unsafeSliceData_ #[81] 115 #[.slice (some ⟨g,0,none⟩) l.length cap]).run Tryz.prog w.drew = .ok (.pointer (some ⟨g,0,none⟩)) w.drew:=
  Lib.run_unsafeSliceData_row _ _ _ _ _ _ (by omega)
 have hUS:(Builtin.unsafeString_ #[115,3] 9 #[.pointer (some ⟨g,0,none⟩),.int .i64 l.length]).run Tryz.prog w.drew = .ok (.string ⟨l.toArray⟩) (w.drew.freeze ⟨g,0,none⟩ l.length):=by
  refine Lib.run_unsafeString_row w.drew 115 3 9 5 Tryz.underlying115 v4h g cur.size (by have hg':w.drew.heap[g]? = some (.cells cur 5 fz):=hg;simp [World.shape?,hg']) l h0 (by omega) (by unfold maxLen at hcm;omega) ?_
  intro j x hx
  have:=hown.cells (g:=g) rfl j (.int .u8 x.toNat) (by simp [Lib.byteCells,hx])
  exact this
 clear hbk
 go_enter Tryz.func34,Tryz.ntmps34
 go_wp2
 go_region
 all_goals (go_wp2;go_ret;exact ⟨rfl,Lib.below_freeze (Below.drew (Below.refl B w)) (p:=⟨g,0,none⟩) hbg _⟩)
theorem j3n (T B b o:Nat) (pre R:List Value) (w:World) (ho:pre.length=o) (h:IsO T B b pre [] R w) :
  Calls Tryz.prog 34 #[.pointer (some ⟨b,o,none⟩)] w fun e w'=>e = .returned (.string ⟨#[]⟩)∧Below B w w':=by
 obtain ⟨p,hAt⟩:=h.at
 obtain ⟨v,hbk,hown,hne,hv⟩:=hAt
 obtain rfl:=hv rfl
 clear hown hne hv
 have hUS:∀ (W:World) (q:Option Addr),(Builtin.unsafeString_ #[115,3] 9 #[.pointer q,.int .i64 0]).run Tryz.prog W = .ok (.string .empty) W:=fun W q=>Lib.run_unsafeString_none W _ _ _ q
 have c1:w.drew.cell? ⟨b,o+1,none⟩=some (.slice none 0 0):=by
  have:w.drew.heap[b]? = some (.cells (pre++p::.slice none 0 0::R).toArray T (0,0)):=hbk
  have:=k4n this
  rw [ho] at this
  exact this
 have hSD:(Builtin.unsafeSliceData_ #[81] 115 #[.slice none 0 0]).run Tryz.prog w.drew = .ok (.pointer none) w.drew:=rfl
 clear hbk
 go_enter Tryz.func34,Tryz.ntmps34
 go_wp2
 go_region
 all_goals (go_wp2;go_ret;exact ⟨rfl,Below.drew (Below.refl B w)⟩)
theorem v0g (T B b o:Nat) (pre:List Value) (l:List UInt8) (R:List Value) (w:World) (ho:pre.length=o) (h:IsO T B b pre (Lib.byteCells l) R w) :
  Calls Tryz.prog 34 #[.pointer (some ⟨b,o,none⟩)] w fun e w'=>e = .returned (.string ⟨l.toArray⟩)∧Below B w w':=by
 by_cases h0:l=[]
 ·subst h0
  exact j3n T B b o pre R w ho h
 ·exact j3o T B b o pre l R w ho h h0
end Go.Proofs.YtchdplceopegoaaGreatDoor
namespace Go.Proofs.YtchdplceopegoaaGreatDoor
open Go Go.RowKit
def WS (B b:Nat) (pl:List Value) (l:List UInt8) (cv:Value) (w:World):Prop:=IsO 283 B b pl (Lib.byteCells l) [cv] w
abbrev q5r (be bf:Nat) (n cap:Nat) (a:Option Addr):List Value:=[.slice a n cap,.slice (some ⟨be,0,none⟩) n n,.slice (some ⟨bf,0,none⟩) n n]
theorem y5z:k8f 283 6 3:=by unfold k8f;kernel_rfl
section
variable {B b be bf n cap:Nat} {a:Option Addr} {l:List UInt8} {cv:Value} {w w':World}
theorem WS.c0 (h:WS B b (q5r be bf n cap a) l cv w):w.cell? ⟨b,0,none⟩=some (.slice a n cap):=IsO.cellP h 0 (by show 0<3;decide)
theorem WS.c1 (h:WS B b (q5r be bf n cap a) l cv w):w.cell? ⟨b,1,none⟩=some (.slice (some ⟨be,0,none⟩) n n):=IsO.cellP h 1 (by show 1<3;decide)
theorem WS.c2 (h:WS B b (q5r be bf n cap a) l cv w):w.cell? ⟨b,2,none⟩=some (.slice (some ⟨bf,0,none⟩) n n):=IsO.cellP h 2 (by show 2<3;decide)
theorem WS.c5 (h:WS B b (q5r be bf n cap a) l cv w):w.cell? ⟨b,5,none⟩=some cv:=IsO.cellR h 0
theorem WS.f5 (h:WS B b (q5r be bf n cap a) l cv w):w.frozen? ⟨b,5,none⟩=false:=IsO.frozen h 5
theorem WS.lt {pl:List Value} (h:WS B b pl l cv w):b<w.heap.size:=IsO.lt h
theorem WS.alloc {pl:List Value} (h:WS B b pl l cv w) (o:Obj):WS B b pl l cv (w.alloc o):=IsO.alloc h o
theorem WS.drew {pl:List Value} (h:WS B b pl l cv w):WS B b pl l cv w.drew:=h
theorem WS.below {pl:List Value} (h:WS B b pl l cv w) (hb:Below w.heap.size w w'):WS B b pl l cv w':=IsO.below h hb
theorem WS.stored (h:WS B b (q5r be bf n cap a) l cv w) (v:Value):WS B b (q5r be bf n cap a) l v (w.setCell ⟨b,5,none⟩ v):=IsO.stored h 0 v
end
theorem y3w {B b be bf n cap:Nat} {a:Option Addr} {l:List UInt8} {cv:Value} {w:World} (h:WS B b (q5r be bf n cap a) l cv w) (hB:B≤b) (s:ByteArray) (hl:l.length+s.size≤2000000000) :
  Calls Tryz.prog 33 #[.pointer (some ⟨b,3,none⟩),.string s] w fun e w'=>(∃ z,e = .returned (.tuple #[.int .i64 z,.nilIface]))∧WS B b (q5r be bf n cap a) (l++s.data.toList) cv w'∧Below B w w':=by
 have hlt:=h.lt
 refine (k2k 283 B b 3 (q5r be bf n cap a) _ [cv] s w rfl y5z (by decide) h (by rw [Lib.byteCells_length];omega) (by omega)).mono ?_
 rintro e w' ⟨rfl,h1,h2,_⟩
 refine ⟨⟨_,rfl⟩,?_,h2.below hB⟩
 rw [WS,Lib.byteCells_append]
 exact h1
structure LC (B s be bf:Nat) (a:Option Addr) (ds:List Nd) (w:World):Prop where
 nd:q0v s w a ds
 kn:q7v w be bf ds 0
theorem LC.below {B s be bf:Nat} {a:Option Addr} {ds:List Nd} {w w':World} (h:LC B s be bf a ds w) (hB:s<B∧be<B∧bf<B) (hb:Below B w w'):LC B s be bf a ds w':=
 ⟨h.nd.kept (hb.block s hB.1),h.kn.kept (hb.block be hB.2.1) (hb.block bf hB.2.2)⟩
def z7z (B b:Nat) (pl:List Value) (res:Except Int (List UInt8 × List Int)) (l:List UInt8) (e:Ending) (w':World):Prop:=
 match res with
 | .ok (u,ws')=>e = .returned .nilIface∧∃ wa' wc',WS B b pl (l++u) (.slice wa' ws'.length wc') w'∧q2h B w' wa' ws'∧ws'.length≤wc'
 | .error er=>er≠0∧e = .returned (q1f er)
def k0v (fn B b s be bf:Nat) (ds:List Nd) (a:Option Addr) (cap:Nat) (A:List Nd) (f:Nat→List Int→Except Int (List UInt8 × List Int)):Prop:=
 ∀ (i:Nat) (r:List Nd) (deep:Nat) (ws:List Int) (wa:Option Addr) (wc:Nat) (l:List UInt8) (w:World),ds.drop i=A++r→LC B s be bf a ds w→q2h B w wa ws→q1z ws→ws.length≤wc→WS B b (q5r be bf ds.length cap a) l (.slice wa ws.length wc) w→
  deep+8*A.length≤3300→l.length+4000*A.length≤1000000000→
  Calls Tryz.prog fn #[.pointer (some ⟨b,0,none⟩),.int .i64 i,.int .i64 deep] w fun e w'=>z7z B b (q5r be bf ds.length cap a) (f deep ws) l e w'∧Below B w w'
abbrev q2q:=k0v 199
theorem z3l (n:Nat) (hn:n≤4000) (w:World):Calls Tryz.prog 227 #[.string ⟨#[32]⟩,.int .i64 n] w fun e w'=>e = .returned (.string ⟨(List.replicate n 32).toArray⟩)∧Below w.heap.size w w':=by
 refine (repeat_any ⟨#[32]⟩ n w (by omega) (by show 1*n≤_;omega)).mono ?_
 rintro e w' ⟨rfl,hb⟩
 refine ⟨?_,hb⟩
 have:=Lib.repeatL_replicate 32 1 n
 have e1:Lib.repeatL (ByteArray.mk #[32]).data.toList n=List.replicate n 32:=by simpa using this
 rw [e1]
end Go.Proofs.YtchdplceopegoaaGreatDoor
