/- Texts as one: Pm6b, Pm6c, Pm7, Mp0, Sk0. -/
import Derived.Test.YthjapabokcajhaaGreatDoorPb14
import Derived.Test.YthjapabokcajhaaGreatDoorPb12
import Derived.Test.YthjapabokcajhaaGreatDoorPb06
import Derived.Maps.OwnSet
import Derived.DeepKeys4
namespace Go.Proofs.YthjapabokcajhaaGreatDoor
open Go Go.RowKit
set_option maxRecDepth 100000
set_option maxHeartbeats 4000000
theorem k0t (bp g n wd i c:Nat) (tx:ByteArray) (nn en:Int) (nx dp:Nat) (lg:Int) (ch:Nat) (w:World) (hi:(i:Int)<n) (hw:wd≤100) (hk:dp≤20000)
  (c0:w.cell? ⟨bp,0,none⟩=some (.slice (some ⟨g,0,none⟩) n n)) (c1:w.cell? ⟨bp,1,none⟩=some (.int .i64 wd))
  (d0:w.cell? ⟨g,i*7,none⟩=some (.int .i64 3)) (d1:w.cell? ⟨g,i*7+1,none⟩=some (.string tx)) (d2:w.cell? ⟨g,i*7+2,none⟩=some (.int .i64 nn)) (d3:w.cell? ⟨g,i*7+3,none⟩=some (.int .i64 en)) (d4:w.cell? ⟨g,i*7+4,none⟩=some (.int .i64 nx)) (d5:w.cell? ⟨g,i*7+5,none⟩=some (.int .i64 dp)) (d6:w.cell? ⟨g,i*7+6,none⟩=some (.int .i64 lg)) :
  Calls Tryz.prog 217 #[.pointer (some ⟨bp,0,none⟩),.agg #[.int .i64 i,.int .i64 c],.int .i64 ch] w fun e w'=>e = .returned (.tuple #[.agg #[.int .i64 nx,.int .i64 ((min dp wd:Nat):Int)],.agg #[.int .i64 ((dp - wd:Nat):Int),.int .i64 1]])∧Below w.heap.size w w':=by
 have hp0:(0:Int)≤(i:Int):=by omega
 have hlt:=World.block_lt_of_cell? w ⟨bp,0,none⟩ c0
 have hltg:=World.block_lt_of_cell? w ⟨g,i*7,none⟩ d0
 have hx0:∀ O2 O3,(((w.alloc (.cells #[.int .i64 i,.int .i64 c] 172)).alloc O2).alloc O3).cell? ⟨w.heap.size,0,none⟩=some (.int .i64 i):=fun O2 O3=>by simp [go_sem]
 have hx4:∀ O2 O3 O4,((((w.alloc (.cells #[.int .i64 i,.int .i64 c] 172)).alloc O2).alloc O3).alloc O4).cell? ⟨w.heap.size,0,none⟩=some (.int .i64 i):=fun O2 O3 O4=>ka (hx0 O2 O3) O4
 go_enter Tryz.func217,Tryz.ntmps217
 go_wp2_with fail
 go_region_held3 (fun w'=>w'.cell? ⟨bp,0,none⟩=some (.slice (some ⟨g,0,none⟩) n n)∧w'.cell? ⟨w.heap.size,0,none⟩=some (.int .i64 i)∧w'.cell? ⟨g,i*7,none⟩=some (.int .i64 3)∧w'.cell? ⟨g,i*7+1,none⟩=some (.string tx)∧w'.cell? ⟨g,i*7+2,none⟩=some (.int .i64 nn)∧w'.cell? ⟨g,i*7+3,none⟩=some (.int .i64 en)∧w'.cell? ⟨g,i*7+4,none⟩=some (.int .i64 nx)∧w'.cell? ⟨g,i*7+5,none⟩=some (.int .i64 dp)∧w'.cell? ⟨g,i*7+6,none⟩=some (.int .i64 lg))
  (first | exact ⟨k3 c0 _ _ _,hx0 _ _,k3 d0 _ _ _,k3 d1 _ _ _,k3 d2 _ _ _,k3 d3 _ _ _,k3 d4 _ _ _,k3 d5 _ _ _,k3 d6 _ _ _⟩ | exact ⟨k4 c0 _ _ _ _,hx4 _ _ _,k4 d0 _ _ _ _,k4 d1 _ _ _ _,k4 d2 _ _ _ _,k4 d3 _ _ _ _,k4 d4 _ _ _ _,k4 d5 _ _ _ _,k4 d6 _ _ _ _⟩) (fail)
 all_goals
  go_wp2_with fail
  refine (q7y bp wd nx dp _ hw hk (k4d c1 _ _ _ _)).mono ?_
  rintro e w2 ⟨rfl,hb2⟩
  obtain ⟨hcl,hfr⟩:=q1r hb2
  have hs2:w.heap.size+1+1+1+1≤w2.heap.size:=by have:=hb2.size;simpa using this
  have a0:w2.cell? ⟨w.heap.size+1,0,none⟩=some (.int .i64 0):=(hcl _ _ (by simp)).trans (by simp [go_sem])
  have a1:w2.cell? ⟨w.heap.size+1,1,none⟩=some (.int .i64 0):=(hcl _ _ (by simp)).trans (by simp [go_sem])
  have b0:w2.cell? ⟨w.heap.size+1+1,0,none⟩=some (.int .i64 0):=(hcl _ _ (by simp)).trans (by simp [go_sem])
  have b1:w2.cell? ⟨w.heap.size+1+1,1,none⟩=some (.int .i64 0):=(hcl _ _ (by simp)).trans (by simp [go_sem])
  have f0:w2.frozen? ⟨w.heap.size+1,0,none⟩=false:=(hfr _ _ (by simp)).trans (by simp [go_sem])
  have f1:w2.frozen? ⟨w.heap.size+1,1,none⟩=false:=(hfr _ _ (by simp)).trans (by simp [go_sem])
  have f2:w2.frozen? ⟨w.heap.size+1+1,0,none⟩=false:=(hfr _ _ (by simp)).trans (by simp [go_sem])
  have f3:w2.frozen? ⟨w.heap.size+1+1,1,none⟩=false:=(hfr _ _ (by simp)).trans (by simp [go_sem])
  have hB:Below w.heap.size w w2:=(k8m w _ _ _ _).drew.trans (hb2.mono (by simp;omega))
  clear hcl hfr hb2
  have q0:=fun O1 O2=>ka (ka a0 O1) O2
  have q1:=fun O1 O2=>ka (ka a1 O1) O2
  have q2:=fun O1 O2=>ka (ka b0 O1) O2
  have q3:=fun O1 O2=>ka (ka b1 O1) O2
  have g0:∀ O1 O2,((w2.alloc O1).alloc O2).frozen? ⟨w.heap.size+1,0,none⟩=false:=fun O1 O2=>kaf (by simp;omega) (kaf (by omega) f0 O1) O2
  have g1:∀ O1 O2,((w2.alloc O1).alloc O2).frozen? ⟨w.heap.size+1,1,none⟩=false:=fun O1 O2=>kaf (by simp;omega) (kaf (by omega) f1 O1) O2
  have g2:∀ O1 O2,((w2.alloc O1).alloc O2).frozen? ⟨w.heap.size+1+1,0,none⟩=false:=fun O1 O2=>kaf (by simp;omega) (kaf (by omega) f2 O1) O2
  have g3:∀ O1 O2,((w2.alloc O1).alloc O2).frozen? ⟨w.heap.size+1+1,1,none⟩=false:=fun O1 O2=>kaf (by simp;omega) (kaf (by omega) f3 O1) O2
  have hbb:∀ O1 O2,Below w.heap.size w ((w2.alloc O1).alloc O2):=fun O1 O2=>(hB.alloc (by omega) O1).alloc (by simp;omega) O2
  generalize hm1:((min dp wd:Nat):Int)=m1 at *
  generalize hm2:((dp - wd:Nat):Int)=m2 at *
  have HM:Hid (((min dp wd:Nat):Int)=m1∧((dp - wd:Nat):Int)=m2):=⟨hm1,hm2⟩
  clear hm1 hm2
  have s0:((w2.alloc (.cells #[.int .i64 nx,.int .i64 m1] 172)).alloc (.cells #[.int .i64 m2,.int .i64 1] 54)).cell? ⟨w2.heap.size,0,none⟩=some (.int .i64 nx):=by simp [go_sem]
  have s1:((w2.alloc (.cells #[.int .i64 nx,.int .i64 m1] 172)).alloc (.cells #[.int .i64 m2,.int .i64 1] 54)).cell? ⟨w2.heap.size,1,none⟩=some (.int .i64 m1):=by simp [go_sem]
  have s2:((w2.alloc (.cells #[.int .i64 nx,.int .i64 m1] 172)).alloc (.cells #[.int .i64 m2,.int .i64 1] 54)).cell? ⟨w2.heap.size+1,0,none⟩=some (.int .i64 m2):=by simp [go_sem]
  have s3:((w2.alloc (.cells #[.int .i64 nx,.int .i64 m1] 172)).alloc (.cells #[.int .i64 m2,.int .i64 1] 54)).cell? ⟨w2.heap.size+1,1,none⟩=some (.int .i64 1):=by simp [go_sem]
  have q0':=q0 (.cells #[.int .i64 nx,.int .i64 m1] 172) (.cells #[.int .i64 m2,.int .i64 1] 54)
  have q1':=q1 (.cells #[.int .i64 nx,.int .i64 m1] 172) (.cells #[.int .i64 m2,.int .i64 1] 54)
  have q2':=q2 (.cells #[.int .i64 nx,.int .i64 m1] 172) (.cells #[.int .i64 m2,.int .i64 1] 54)
  have q3':=q3 (.cells #[.int .i64 nx,.int .i64 m1] 172) (.cells #[.int .i64 m2,.int .i64 1] 54)
  have g0':=g0 (.cells #[.int .i64 nx,.int .i64 m1] 172) (.cells #[.int .i64 m2,.int .i64 1] 54)
  have g1':=g1 (.cells #[.int .i64 nx,.int .i64 m1] 172) (.cells #[.int .i64 m2,.int .i64 1] 54)
  have g2':=g2 (.cells #[.int .i64 nx,.int .i64 m1] 172) (.cells #[.int .i64 m2,.int .i64 1] 54)
  have g3':=g3 (.cells #[.int .i64 nx,.int .i64 m1] 172) (.cells #[.int .i64 m2,.int .i64 1] 54)
  have hB3:=hbb (.cells #[.int .i64 nx,.int .i64 m1] 172) (.cells #[.int .i64 m2,.int .i64 1] 54)
  clear hbb q0 q1 q2 q3 g0 g1 g2 g3 a0 a1 b0 b1 f0 f1 f2 f3
  go_wp2_with fail
  generalize (w2.alloc (.cells #[.int .i64 nx,.int .i64 m1] 172)).alloc (.cells #[.int .i64 m2,.int .i64 1] 54)=w3 at *
  go_region_held3 (fun w'=>w'.cell? ⟨w2.heap.size,0,none⟩=some (.int .i64 nx)∧w'.cell? ⟨w2.heap.size,1,none⟩=some (.int .i64 m1)∧w'.cell? ⟨w2.heap.size+1,0,none⟩=some (.int .i64 m2)∧w'.cell? ⟨w2.heap.size+1,1,none⟩=some (.int .i64 1))
   (first | exact ⟨s0,s1,s2,s3⟩ | exact ⟨(cso (by omega)).trans ((cso (by omega)).trans s0),(cso (by omega)).trans ((cso (by omega)).trans s1),(cso (by omega)).trans ((cso (by omega)).trans s2),(cso (by omega)).trans ((cso (by omega)).trans s3)⟩ | exact ⟨(cso (by omega)).trans ((cso (by omega)).trans ((cso (by omega)).trans ((cso (by omega)).trans s0))),(cso (by omega)).trans ((cso (by omega)).trans ((cso (by omega)).trans ((cso (by omega)).trans s1))),(cso (by omega)).trans ((cso (by omega)).trans ((cso (by omega)).trans ((cso (by omega)).trans s2))),(cso (by omega)).trans ((cso (by omega)).trans ((cso (by omega)).trans ((cso (by omega)).trans s3)))⟩) (fail)
  all_goals
   go_wp2
   exact bodyPost_ret (v:=.tuple #[.agg #[.int .i64 nx,.int .i64 m1],.agg #[.int .i64 m2,.int .i64 1]]) (by simp [results,Tryz.results217,go_sem,q0',q1',q2',q3']) rfl ⟨by rw [HM.out.1,HM.out.2],((((hB3.setCell (p:=⟨w.heap.size+1,0,none⟩) (by simp) _).setCell (p:=⟨w.heap.size+1,1,none⟩) (by simp) _).setCell (p:=⟨w.heap.size+1+1,0,none⟩) (by simp;omega) _).setCell (p:=⟨w.heap.size+1+1,1,none⟩) (by simp;omega) _).drew⟩
end Go.Proofs.YthjapabokcajhaaGreatDoor
namespace Go.Proofs.YthjapabokcajhaaGreatDoor
open Go Go.RowKit
set_option maxRecDepth 100000
set_option maxHeartbeats 4000000
theorem k5g (bp g n wd i c:Nat) (tx:ByteArray) (nn en:Int) (nx dp:Nat) (lg:Int) (ch:Nat) (w:World) (hi:(i:Int)<n) (hw:wd≤100) (hk:dp≤20000)
  (c0:w.cell? ⟨bp,0,none⟩=some (.slice (some ⟨g,0,none⟩) n n)) (c1:w.cell? ⟨bp,1,none⟩=some (.int .i64 wd))
  (d0:w.cell? ⟨g,i*7,none⟩=some (.int .i64 4)) (d1:w.cell? ⟨g,i*7+1,none⟩=some (.string tx)) (d2:w.cell? ⟨g,i*7+2,none⟩=some (.int .i64 nn)) (d3:w.cell? ⟨g,i*7+3,none⟩=some (.int .i64 en)) (d4:w.cell? ⟨g,i*7+4,none⟩=some (.int .i64 nx)) (d5:w.cell? ⟨g,i*7+5,none⟩=some (.int .i64 dp)) (d6:w.cell? ⟨g,i*7+6,none⟩=some (.int .i64 lg)) :
  Calls Tryz.prog 217 #[.pointer (some ⟨bp,0,none⟩),.agg #[.int .i64 i,.int .i64 c],.int .i64 ch] w fun e w'=>e = .returned (.tuple #[.agg #[.int .i64 nx,.int .i64 ((min dp wd:Nat):Int)],.agg #[.int .i64 ((dp - wd:Nat):Int),.int .i64 1]])∧Below w.heap.size w w':=by
 have hp0:(0:Int)≤(i:Int):=by omega
 have hlt:=World.block_lt_of_cell? w ⟨bp,0,none⟩ c0
 have hltg:=World.block_lt_of_cell? w ⟨g,i*7,none⟩ d0
 have hx0:∀ O2 O3,(((w.alloc (.cells #[.int .i64 i,.int .i64 c] 172)).alloc O2).alloc O3).cell? ⟨w.heap.size,0,none⟩=some (.int .i64 i):=fun O2 O3=>by simp [go_sem]
 have hx4:∀ O2 O3 O4,((((w.alloc (.cells #[.int .i64 i,.int .i64 c] 172)).alloc O2).alloc O3).alloc O4).cell? ⟨w.heap.size,0,none⟩=some (.int .i64 i):=fun O2 O3 O4=>ka (hx0 O2 O3) O4
 go_enter Tryz.func217,Tryz.ntmps217
 go_wp2_with fail
 go_region_held3 (fun w'=>w'.cell? ⟨bp,0,none⟩=some (.slice (some ⟨g,0,none⟩) n n)∧w'.cell? ⟨w.heap.size,0,none⟩=some (.int .i64 i)∧w'.cell? ⟨g,i*7,none⟩=some (.int .i64 4)∧w'.cell? ⟨g,i*7+1,none⟩=some (.string tx)∧w'.cell? ⟨g,i*7+2,none⟩=some (.int .i64 nn)∧w'.cell? ⟨g,i*7+3,none⟩=some (.int .i64 en)∧w'.cell? ⟨g,i*7+4,none⟩=some (.int .i64 nx)∧w'.cell? ⟨g,i*7+5,none⟩=some (.int .i64 dp)∧w'.cell? ⟨g,i*7+6,none⟩=some (.int .i64 lg))
  (first | exact ⟨k3 c0 _ _ _,hx0 _ _,k3 d0 _ _ _,k3 d1 _ _ _,k3 d2 _ _ _,k3 d3 _ _ _,k3 d4 _ _ _,k3 d5 _ _ _,k3 d6 _ _ _⟩ | exact ⟨k4 c0 _ _ _ _,hx4 _ _ _,k4 d0 _ _ _ _,k4 d1 _ _ _ _,k4 d2 _ _ _ _,k4 d3 _ _ _ _,k4 d4 _ _ _ _,k4 d5 _ _ _ _,k4 d6 _ _ _ _⟩) (fail)
 all_goals
  go_wp2_with fail
  refine (q7y bp wd nx dp _ hw hk (k4d c1 _ _ _ _)).mono ?_
  rintro e w2 ⟨rfl,hb2⟩
  obtain ⟨hcl,hfr⟩:=q1r hb2
  have hs2:w.heap.size+1+1+1+1≤w2.heap.size:=by have:=hb2.size;simpa using this
  have a0:w2.cell? ⟨w.heap.size+1,0,none⟩=some (.int .i64 0):=(hcl _ _ (by simp)).trans (by simp [go_sem])
  have a1:w2.cell? ⟨w.heap.size+1,1,none⟩=some (.int .i64 0):=(hcl _ _ (by simp)).trans (by simp [go_sem])
  have b0:w2.cell? ⟨w.heap.size+1+1,0,none⟩=some (.int .i64 0):=(hcl _ _ (by simp)).trans (by simp [go_sem])
  have b1:w2.cell? ⟨w.heap.size+1+1,1,none⟩=some (.int .i64 0):=(hcl _ _ (by simp)).trans (by simp [go_sem])
  have f0:w2.frozen? ⟨w.heap.size+1,0,none⟩=false:=(hfr _ _ (by simp)).trans (by simp [go_sem])
  have f1:w2.frozen? ⟨w.heap.size+1,1,none⟩=false:=(hfr _ _ (by simp)).trans (by simp [go_sem])
  have f2:w2.frozen? ⟨w.heap.size+1+1,0,none⟩=false:=(hfr _ _ (by simp)).trans (by simp [go_sem])
  have f3:w2.frozen? ⟨w.heap.size+1+1,1,none⟩=false:=(hfr _ _ (by simp)).trans (by simp [go_sem])
  have hB:Below w.heap.size w w2:=(k8m w _ _ _ _).drew.trans (hb2.mono (by simp;omega))
  clear hcl hfr hb2
  have q0:=fun O1 O2=>ka (ka a0 O1) O2
  have q1:=fun O1 O2=>ka (ka a1 O1) O2
  have q2:=fun O1 O2=>ka (ka b0 O1) O2
  have q3:=fun O1 O2=>ka (ka b1 O1) O2
  have g0:∀ O1 O2,((w2.alloc O1).alloc O2).frozen? ⟨w.heap.size+1,0,none⟩=false:=fun O1 O2=>kaf (by simp;omega) (kaf (by omega) f0 O1) O2
  have g1:∀ O1 O2,((w2.alloc O1).alloc O2).frozen? ⟨w.heap.size+1,1,none⟩=false:=fun O1 O2=>kaf (by simp;omega) (kaf (by omega) f1 O1) O2
  have g2:∀ O1 O2,((w2.alloc O1).alloc O2).frozen? ⟨w.heap.size+1+1,0,none⟩=false:=fun O1 O2=>kaf (by simp;omega) (kaf (by omega) f2 O1) O2
  have g3:∀ O1 O2,((w2.alloc O1).alloc O2).frozen? ⟨w.heap.size+1+1,1,none⟩=false:=fun O1 O2=>kaf (by simp;omega) (kaf (by omega) f3 O1) O2
  have hbb:∀ O1 O2,Below w.heap.size w ((w2.alloc O1).alloc O2):=fun O1 O2=>(hB.alloc (by omega) O1).alloc (by simp;omega) O2
  generalize hm1:((min dp wd:Nat):Int)=m1 at *
  generalize hm2:((dp - wd:Nat):Int)=m2 at *
  have HM:Hid (((min dp wd:Nat):Int)=m1∧((dp - wd:Nat):Int)=m2):=⟨hm1,hm2⟩
  clear hm1 hm2
  have s0:((w2.alloc (.cells #[.int .i64 nx,.int .i64 m1] 172)).alloc (.cells #[.int .i64 m2,.int .i64 1] 54)).cell? ⟨w2.heap.size,0,none⟩=some (.int .i64 nx):=by simp [go_sem]
  have s1:((w2.alloc (.cells #[.int .i64 nx,.int .i64 m1] 172)).alloc (.cells #[.int .i64 m2,.int .i64 1] 54)).cell? ⟨w2.heap.size,1,none⟩=some (.int .i64 m1):=by simp [go_sem]
  have s2:((w2.alloc (.cells #[.int .i64 nx,.int .i64 m1] 172)).alloc (.cells #[.int .i64 m2,.int .i64 1] 54)).cell? ⟨w2.heap.size+1,0,none⟩=some (.int .i64 m2):=by simp [go_sem]
  have s3:((w2.alloc (.cells #[.int .i64 nx,.int .i64 m1] 172)).alloc (.cells #[.int .i64 m2,.int .i64 1] 54)).cell? ⟨w2.heap.size+1,1,none⟩=some (.int .i64 1):=by simp [go_sem]
  have q0':=q0 (.cells #[.int .i64 nx,.int .i64 m1] 172) (.cells #[.int .i64 m2,.int .i64 1] 54)
  have q1':=q1 (.cells #[.int .i64 nx,.int .i64 m1] 172) (.cells #[.int .i64 m2,.int .i64 1] 54)
  have q2':=q2 (.cells #[.int .i64 nx,.int .i64 m1] 172) (.cells #[.int .i64 m2,.int .i64 1] 54)
  have q3':=q3 (.cells #[.int .i64 nx,.int .i64 m1] 172) (.cells #[.int .i64 m2,.int .i64 1] 54)
  have g0':=g0 (.cells #[.int .i64 nx,.int .i64 m1] 172) (.cells #[.int .i64 m2,.int .i64 1] 54)
  have g1':=g1 (.cells #[.int .i64 nx,.int .i64 m1] 172) (.cells #[.int .i64 m2,.int .i64 1] 54)
  have g2':=g2 (.cells #[.int .i64 nx,.int .i64 m1] 172) (.cells #[.int .i64 m2,.int .i64 1] 54)
  have g3':=g3 (.cells #[.int .i64 nx,.int .i64 m1] 172) (.cells #[.int .i64 m2,.int .i64 1] 54)
  have hB3:=hbb (.cells #[.int .i64 nx,.int .i64 m1] 172) (.cells #[.int .i64 m2,.int .i64 1] 54)
  clear hbb q0 q1 q2 q3 g0 g1 g2 g3 a0 a1 b0 b1 f0 f1 f2 f3
  go_wp2_with fail
  generalize (w2.alloc (.cells #[.int .i64 nx,.int .i64 m1] 172)).alloc (.cells #[.int .i64 m2,.int .i64 1] 54)=w3 at *
  go_region_held3 (fun w'=>w'.cell? ⟨w2.heap.size,0,none⟩=some (.int .i64 nx)∧w'.cell? ⟨w2.heap.size,1,none⟩=some (.int .i64 m1)∧w'.cell? ⟨w2.heap.size+1,0,none⟩=some (.int .i64 m2)∧w'.cell? ⟨w2.heap.size+1,1,none⟩=some (.int .i64 1))
   (first | exact ⟨s0,s1,s2,s3⟩ | exact ⟨(cso (by omega)).trans ((cso (by omega)).trans s0),(cso (by omega)).trans ((cso (by omega)).trans s1),(cso (by omega)).trans ((cso (by omega)).trans s2),(cso (by omega)).trans ((cso (by omega)).trans s3)⟩ | exact ⟨(cso (by omega)).trans ((cso (by omega)).trans ((cso (by omega)).trans ((cso (by omega)).trans s0))),(cso (by omega)).trans ((cso (by omega)).trans ((cso (by omega)).trans ((cso (by omega)).trans s1))),(cso (by omega)).trans ((cso (by omega)).trans ((cso (by omega)).trans ((cso (by omega)).trans s2))),(cso (by omega)).trans ((cso (by omega)).trans ((cso (by omega)).trans ((cso (by omega)).trans s3)))⟩) (fail)
  all_goals
   go_wp2
   exact bodyPost_ret (v:=.tuple #[.agg #[.int .i64 nx,.int .i64 m1],.agg #[.int .i64 m2,.int .i64 1]]) (by simp [results,Tryz.results217,go_sem,q0',q1',q2',q3']) rfl ⟨by rw [HM.out.1,HM.out.2],((((hB3.setCell (p:=⟨w.heap.size+1,0,none⟩) (by simp) _).setCell (p:=⟨w.heap.size+1,1,none⟩) (by simp) _).setCell (p:=⟨w.heap.size+1+1,0,none⟩) (by simp;omega) _).setCell (p:=⟨w.heap.size+1+1,1,none⟩) (by simp;omega) _).drew⟩
end Go.Proofs.YthjapabokcajhaaGreatDoor
namespace Go.Proofs.YthjapabokcajhaaGreatDoor
open Go Go.RowKit
structure q4j (w:World) (bp g wd:Nat) (R:List Pl):Prop where
 c0:w.cell? ⟨bp,0,none⟩=some (.slice (some ⟨g,0,none⟩) R.length R.length)
 c1:w.cell? ⟨bp,1,none⟩=some (.int .i64 wd)
 pr:PwR w g R.length (fun j=>q2 (q1a R j))
theorem q4j.kept {w w':World} {bp g wd:Nat} {R:List Pl} (h:q4j w bp g wd R) (h1:w'.heap[bp]? = w.heap[bp]?) (h2:w'.heap[g]? = w.heap[g]?):q4j w' bp g wd R:=
 ⟨(World.cell?_of_block (w:=w) (a:=⟨bp,0,none⟩) h1).trans h.c0,(World.cell?_of_block (w:=w) (a:=⟨bp,1,none⟩) h1).trans h.c1,h.pr.kept h2⟩
theorem q4j.ltB {w:World} {bp g wd:Nat} {R:List Pl} (h:q4j w bp g wd R):bp<w.heap.size:=World.block_lt_of_cell? w ⟨bp,0,none⟩ h.c0
theorem q4j.ltG {w:World} {bp g wd:Nat} {R:List Pl} (h:q4j w bp g wd R):g<w.heap.size:=h.pr.row.lt
theorem q4j.alloc {w:World} {bp g wd:Nat} {R:List Pl} (h:q4j w bp g wd R) (O:Obj):q4j (w.alloc O) bp g wd R:=h.kept (Below.heap_alloc _ _ _ h.ltB) (Below.heap_alloc _ _ _ h.ltG)
theorem k8o {R:List Pl} {L M i nx dp wd c ch:Nat} {ks:List (Nat × Tr)} {t:Tr} (bp g:Nat) (w:World) (hR:R.length≤400) (h:Sp R L M i t nx dp ks) (hc:c≤wd) (hw:wd≤100) (hL:L≤400) (hM:M≤3200) (hch:ch=0∨ch=1) (hh:t.lg = -1→ch=1) (hP:q4j w bp g wd R) :
  Calls Tryz.prog 217 #[.pointer (some ⟨bp,0,none⟩),.agg #[.int .i64 i,.int .i64 c],.int .i64 ch] w fun e w'=>e = .returned (.tuple #[.agg #[.int .i64 (q2o R wd i c ch).np,.int .i64 (q2o R wd i c ch).nc],.agg #[.int .i64 (q2o R wd i c ch).o,.int .i64 (q2o R wd i c ch).l]])∧Below w.heap.size w w':=by
 have hi:(i:Int)<(R.length:Nat):=by have:=h.lt;omega
 have d:=hP.pr.get i h.lt
 have hbd:=h.bd
 have hbl:=h.bl
 rw [h.at] at d
 have hc':c≤100:=by omega
 cases t with
 | leaf x=>
  have hn:=q1w h.wf.1
  have d0:w.cell? ⟨g,i*7,none⟩=some (.int .i64 x.op):=d.c0
  rcases q4u h.wf.1 h.wf.2 with e | e | e | e | e
  ·rw [q4h h,z6y e]
   rw [e] at d0
   refine (k5i bp g R.length wd i c x.tx _ _ nx dp 0 ch w hi hw hc' (by have:=q3y (hn.2.2.2.2.1 e);omega) hP.c0 hP.c1 d0 d.c1 d.c2 d.c3 d.c4 d.c5 d.c6).mono ?_
   rintro e w2 ⟨rfl,hb⟩
   exact ⟨rfl,hb⟩
  ·rw [q4h h,q9e (.inl e)]
   rw [e] at d0
   refine (k8q bp g R.length wd i c x.tx _ _ nx dp 0 ch w hi hw (by omega) hP.c0 hP.c1 d0 d.c1 d.c2 d.c3 d.c4 d.c5 d.c6).mono ?_
   rintro e w2 ⟨rfl,hb⟩
   exact ⟨rfl,hb⟩
  ·rw [q4h h,q9e (.inr (.inl e))]
   rw [e] at d0
   refine (k0t bp g R.length wd i c x.tx _ _ nx dp 0 ch w hi hw (by omega) hP.c0 hP.c1 d0 d.c1 d.c2 d.c3 d.c4 d.c5 d.c6).mono ?_
   rintro e w2 ⟨rfl,hb⟩
   exact ⟨rfl,hb⟩
  ·rw [q4h h,q9e (.inr (.inr e))]
   rw [e] at d0
   refine (k5g bp g R.length wd i c x.tx _ _ nx dp 0 ch w hi hw (by omega) hP.c0 hP.c1 d0 d.c1 d.c2 d.c3 d.c4 d.c5 d.c6).mono ?_
   rintro e w2 ⟨rfl,hb⟩
   exact ⟨rfl,hb⟩
  ·rw [q4h h,z6z e]
   rw [e] at d0
   refine (k5j bp g R.length i c x.tx _ _ nx dp 0 ch w hi hP.c0 d0 d.c1 d.c2 d.c3 d.c4 d.c5 d.c6).mono ?_
   rintro e w2 ⟨rfl,hb⟩
   exact ⟨rfl,hb⟩
 | one x a=>
  have d0:w.cell? ⟨g,i*7,none⟩=some (.int .i64 x.op):=d.c0
  have d6:w.cell? ⟨g,i*7+6,none⟩=some (.int .i64 (Tr.lg (.one x a))):=d.c6
  rcases z1b h.wf.2.1 with e | e
  ·rw [q5r h,q9d (.inr (.inl e))]
   rw [e] at d0
   have e6:Tr.lg (.one x a)=((0:Nat):Int):=by simp [Tr.lg,e]
   rw [e6] at d6
   refine (k0s bp g R.length i c _ _ _ nx dp 0 ch w hR hi hP.c0 d0 d.c1 d.c2 d.c3 d.c4 d.c5 d6).mono ?_
   rintro e w2 ⟨rfl,hb⟩
   exact ⟨rfl,hb⟩
  ·have e6:Tr.lg (.one x a)=lgF a.flat:=by simp [Tr.lg,e]
   rw [e] at d0
   rcases hch with rfl | rfl
   ·have hf:∃ s,a.flat=some s:=by
     cases hf:a.flat with
     | some s=>exact ⟨s,rfl⟩
     | none=>exact absurd (hh (by rw [e6,hf];rfl)) (by omega)
    obtain ⟨s,hf⟩:=hf
    have hs:=q8a a s h.wf.2.2 hf
    have e7:Tr.lg (.one x a)=((s.length:Nat):Int):=by rw [e6,hf];rfl
    rw [q5r h,z6x e rfl,e7,Int.toNat_natCast]
    rw [e7] at d6
    refine (k5f bp g R.length wd i c _ _ _ nx dp s.length w hi hw hc' (by simp only [Tr.lf] at hbl;omega) hP.c0 hP.c1 d0 d.c1 d.c2 d.c3 d.c4 d.c5 d6).mono ?_
    rintro e w2 ⟨rfl,hb⟩
    exact ⟨rfl,hb⟩
   ·rw [q5r h,q9d (by omega)]
    cases hf:a.flat with
    | some s=>
     have e7:Tr.lg (.one x a)=((s.length:Nat):Int):=by rw [e6,hf];rfl
     rw [e7] at d6
     refine (z2e bp g R.length i c _ _ _ nx dp _ w hR hi hP.c0 d0 d.c1 d.c2 d.c3 d.c4 d.c5 d6).mono ?_
     rintro e w2 ⟨rfl,hb⟩
     exact ⟨rfl,hb⟩
    | none=>
     have e7:Tr.lg (.one x a) = -1:=by rw [e6,hf];rfl
     rw [e7] at d6
     refine (z2e bp g R.length i c _ _ _ nx dp _ w hR hi hP.c0 d0 d.c1 d.c2 d.c3 d.c4 d.c5 d6).mono ?_
     rintro e w2 ⟨rfl,hb⟩
     exact ⟨rfl,hb⟩
 | two x a b=>
  have d0:w.cell? ⟨g,i*7,none⟩=some (.int .i64 x.op):=d.c0
  obtain ⟨nx',ks',hs⟩:=h.two1
  have hi1:(i:Int)+1<(R.length:Nat):=by have:=hs.lt;omega
  rcases q9u h.wf.2.1 with e | e
  ·rw [q7h h,q9d (.inl e)]
   rw [e] at d0
   refine (k8p bp g R.length i c _ _ _ nx dp 0 ch w hR hi hP.c0 d0 d.c1 d.c2 d.c3 d.c4 d.c5 d.c6).mono ?_
   rintro e w2 ⟨rfl,hb⟩
   exact ⟨rfl,hb⟩
  ·rw [e] at d0
   rcases hch with rfl | rfl
   ·rw [q7h h,q9d (by omega)]
    refine (k5h bp g R.length i c _ _ _ nx dp 0 w hR hi hP.c0 d0 d.c1 d.c2 d.c3 d.c4 d.c5 d.c6).mono ?_
    rintro e w2 ⟨rfl,hb⟩
    exact ⟨rfl,hb⟩
   ·have k:=hP.pr.get (i+1) hs.lt
    rw [hs.at] at k
    have k3:w.cell? ⟨g,(i+1)*7+3,none⟩=some (.int .i64 ((i+1+a.sz:Nat):Int)):=k.c3
    rw [q7h h,z0o e rfl]
    refine (z8a bp g R.length i c _ _ _ nx dp 0 _ w hR hi hi1 k3 hP.c0 d0 d.c1 d.c2 d.c3 d.c4 d.c5 d.c6).mono ?_
    rintro e w2 ⟨rfl,hb⟩
    exact ⟨rfl,hb⟩
end Go.Proofs.YthjapabokcajhaaGreatDoor
namespace Go.Proofs.YthjapabokcajhaaGreatDoor
open Go Go.RowKit Go.Maps
theorem j8w:laidOutB Tryz.prog=true:=by kernel_rfl
theorem y5f:(172:TypeId)<Tryz.prog.types.size:=of_decide_eq_true (by kernel_rfl)
theorem mkt:Tryz.prog.keyTypeAt 3 172=true:=by kernel_rfl
theorem v8r:Keyed Tryz.prog 172:=Keyed.of_law (deep_law_laid j8w (m:=3) (by omega) y5f mkt (by rw [Tryz.underlying172]))
theorem y4g:Tryz.prog.keyType 172=true:=by kernel_rfl
theorem v2j:Tryz.prog.cellsOf 172=2:=by kernel_rfl
theorem v6k:Tryz.prog.cellsOf 3=1:=by kernel_rfl
theorem y4f:∃ d,Tryz.prog.types.size=d+1:=⟨371 - 1,by kernel_rfl⟩
theorem y0q (w:World):(zeroValue 174).run Tryz.prog w = .ok (.agg #[.int .i64 0,.int .i64 0,.int .i64 0,.int .i64 0,.int .i64 0]) w:=by kernel_rfl
theorem y5b {n:Nat} (h:n≤1000000):(Lit.int .i64 (n:Int)).wf=true:=WalkArith.wf_i64 (by omega)
theorem y4e {p c:Nat} (hp:p≤1000000) (hc:c≤1000000):∃ kl,keyOf Tryz.prog 172 (.agg #[.int .i64 (p:Int),.int .i64 (c:Int)])=some kl:=by
 obtain ⟨d,hd⟩:=y4f
 have h1:=y5b hp
 have h2:=y5b hc
 have hf:(Value.agg #[.int .i64 (p:Int),.int .i64 (c:Int)]).formed Tryz.prog 172=true:=by
  simp [Value.formed,Tryz.underlying172,v2j]
 refine ⟨.string (keyBytes [.int .i64 p,.int .i64 c]),?_⟩
 unfold keyOf
 rw [Tryz.underlying172]
 simp only [y4g,hf,Bool.and_self,if_true,hd]
 simp [Program.keyLits,Tryz.underlying172,Tryz.underlying3,v2j,v6k,Value.cells,h1,h2]
def cvV (k:Cv):Value:=.agg #[.int .i64 k.o,.int .i64 k.l,.int .i64 k.ch,.int .i64 k.np,.int .i64 k.nc]
def zCv:Cv:=⟨0,0,0,0,0⟩
def cvR (v:Value):Option (DataW Value × List MemPlace):=some (.held v,[])
def y2y (S:Nat→Nat→Bool):Nat:=(List.range 40501).countP fun k=>S (k / 101) (k % 101)
theorem v4l (S:Nat→Nat→Bool):y2y S≤40501:=by
 have:=List.countP_le_length (p:=fun k=>S (k / 101) (k % 101)) (l:=List.range 40501)
 rw [List.length_range] at this
 exact this
def z7n (S:Nat→Nat→Bool) (p c:Nat):Nat→Nat→Bool:=fun p' c'=>S p' c' || (decide (p'=p) && decide (c'=c))
theorem z4h {f g:Nat→Bool} (k:Nat):∀ (l:List Nat),k∈l→(∀ x,f x=true→g x=true)→f k=false→g k=true→l.countP f+1≤l.countP g
 | [],h,_,_,_=>by simp at h
 | a::l,h,h1,h2,h3=>by
  have hm:l.countP f≤l.countP g:=List.countP_mono_left fun x _=>h1 x
  rw [List.countP_cons,List.countP_cons]
  by_cases e:a=k
  ·subst e
   rw [h2,h3]
   simp
   omega
  ·have h4:=z4h k l (by rcases List.mem_cons.1 h with h | h;exact absurd h.symm e;exact h) h1 h2 h3
   cases hf:f a with
   | true=>rw [h1 a hf];omega
   | false=>simp only [Bool.false_eq_true,if_false,Nat.add_zero];exact Nat.le_trans h4 (Nat.le_add_right _ _)
theorem j7c {S:Nat→Nat→Bool} {p c:Nat} (hp:p≤400) (hc:c≤100) (h:S p c=false):y2y S+1≤y2y (z7n S p c):=by
 have e1:(p*101+c) / 101=p:=by omega
 have e2:(p*101+c) % 101=c:=by omega
 refine z4h (p*101+c) _ (List.mem_range.2 (by omega)) (fun x hx=>?_) ?_ ?_
 ·simp only [z7n,hx,Bool.true_or]
 ·rw [e1,e2];exact h
 ·simp [z7n,e1,e2]
def Mem (w:World) (b:Nat) (C:Nat→Nat→Cv) (S:Nat→Nat→Bool):Prop:=
 ∃ D n,w.ownsMap Tryz.prog 172 cvR b n D∧n≤y2y S∧∀ p c:Nat,p≤400→c≤100→∀ kl,keyOf Tryz.prog 172 (.agg #[.int .i64 (p:Int),.int .i64 (c:Int)])=some kl→
  Maps.has D kl=S p c∧D.atKey kl (.held (cvV zCv)) = .held (cvV (if S p c=true then C p c else zCv))
section
variable {w w':World} {b:Nat} {C:Nat→Nat→Cv} {S:Nat→Nat→Bool} {p c:Nat}
theorem Mem.lt (h:Mem w b C S):b<w.heap.size:=by
 obtain ⟨D,n,h,_⟩:=h
 exact h.lt
theorem Mem.kept (h:Mem w b C S) (hb:w'.heap[b]? = w.heap[b]?):Mem w' b C S:=by
 obtain ⟨D,n,⟨es,clock,h1,h2⟩,h3⟩:=h
 exact ⟨D,n,⟨es,clock,hb.trans h1,h2⟩,h3⟩
theorem Mem.look (h:Mem w b C S) (hp:p≤400) (hc:c≤100):(Instr.lookup 168 (.map (some b)) (.agg #[.int .i64 (p:Int),.int .i64 (c:Int)]) false).run Tryz.prog w = .ok (cvV (if S p c=true then C p c else zCv)) w:=by
 obtain ⟨D,n,h,_,h2⟩:=h
 obtain ⟨kl,hk⟩:=y4e (p:=p) (c:=c) (by omega) (by omega)
 obtain ⟨v,ps,hrun,hv⟩:=h.lookup v8r Tryz.underlying168 (y0q w) (zd:=.held (cvV zCv)) (zp:=[]) rfl hk
 rw [(h2 p c hp hc kl hk).2] at hv
 simp only [cvR,Option.some.injEq,Prod.mk.injEq,DataW.held.injEq] at hv
 rw [hrun,hv.1]
theorem Mem.look_ok (h:Mem w b C S) (hp:p≤400) (hc:c≤100):(Instr.lookup 168 (.map (some b)) (.agg #[.int .i64 (p:Int),.int .i64 (c:Int)]) true).run Tryz.prog w = .ok (.tuple #[cvV (if S p c=true then C p c else zCv),.bool (S p c)]) w:=by
 obtain ⟨D,n,h,_,h2⟩:=h
 obtain ⟨kl,hk⟩:=y4e (p:=p) (c:=c) (by omega) (by omega)
 obtain ⟨v,ps,hrun,hv⟩:=h.look_ok v8r Tryz.underlying168 (y0q w) (zd:=.held (cvV zCv)) (zp:=[]) rfl hk
 rw [(h2 p c hp hc kl hk).2] at hv
 simp only [cvR,Option.some.injEq,Prod.mk.injEq,DataW.held.injEq] at hv
 rw [hrun,hv.1,(h2 p c hp hc kl hk).1]
theorem Mem.store (h:Mem w b C S) (hp:p≤400) (hc:c≤100) (hs:S p c=false) :
  ∃ w',(Instr.mapUpdate 168 (.map (some b)) (.agg #[.int .i64 (p:Int),.int .i64 (c:Int)]) (cvV (C p c))).run Tryz.prog w = .ok () w'∧Mem w' b C (z7n S p c)∧w.grownBy w' (some b):=by
 obtain ⟨D,n,h,hn,h2⟩:=h
 obtain ⟨kl,hk⟩:=y4e (p:=p) (c:=c) (by omega) (by omega)
 obtain ⟨w1,hrun,hown,hg⟩:=h.update v8r Tryz.underlying168 (by have:=v4l S;unfold maxLen;omega) hk (d:=.held (cvV (C p c))) (ps:=[]) (val:=cvV (C p c)) rfl
 refine ⟨w1,hrun,⟨_,_,hown,Nat.le_trans (Nat.add_le_add_right hn 1) (j7c hp hc hs),fun p' c' hp' hc' kl' hk'=>?_⟩,hg⟩
 by_cases e:p'=p∧c'=c
 ·obtain ⟨rfl,rfl⟩:=e
  have ek:kl'=kl:=by rw [hk] at hk';exact (Option.some.inj hk').symm
  subst ek
  have ea:z7n S p' c' p' c'=true:=by simp [z7n]
  rw [ea,if_pos rfl]
  exact ⟨has_put_same h.isMap (v8r.key hk) _,atKey_put_same h.isMap (v8r.key hk) _ _⟩
 ·have ne:kl'≠kl:=by
   intro ek
   subst ek
   have:=v8r.inj hk' hk
   simp at this
   omega
  have ea:z7n S p c p' c'=S p' c':=by
   simp only [z7n]
   by_cases e1:p'=p
   ·have e2:¬ c'=c:=fun e2=>e ⟨e1,e2⟩
    simp [e2]
   ·simp [e1]
  rw [ea,has_put_other ne,atKey_put_other ne]
  exact h2 p' c' hp' hc' kl' hk'
end
theorem Mem.made (w:World) (C:Nat→Nat→Cv):Mem (w.alloc (.map #[] 0)) w.heap.size C (fun _ _=>false):=
 ⟨.map [],0,World.ownsMap_made _ _ _ _,Nat.zero_le _,fun _ _ _ _ _ _=>⟨rfl,rfl⟩⟩
end Go.Proofs.YthjapabokcajhaaGreatDoor
namespace Go.Proofs.YthjapabokcajhaaGreatDoor
open Go Go.RowKit
structure Inv (sb g mb wd:Nat) (R:List Pl) (w:World) (S:Nat→Nat→Bool):Prop where
 pl:q4j w sb g wd R
 c2:w.cell? ⟨sb,2,none⟩=some (.map (some mb))
 me:Mem w mb (crs R wd) S
 cl:∀ p c,S p c=true→p<R.length∧c≤wd∧((crs R wd p c).np<R.length→S (crs R wd p c).np (crs R wd p c).nc=true)
theorem k0u {w:World} {b o:Nat} {v:Value} {es:Array MapEntry} {cl:Nat} (h:w.cell? ⟨b,o,none⟩=some v) (h2:w.heap[b]? = some (.map es cl)):False:=by
 simp [World.cell?,h2] at h
section
variable {sb g mb wd:Nat} {R:List Pl} {w w':World} {S:Nat→Nat→Bool}
theorem Inv.nb (h:Inv sb g mb wd R w S):sb≠mb:=by
 intro e
 subst e
 obtain ⟨D,n,⟨es,cl,h1,_⟩,_⟩:=h.me
 exact k0u h.c2 h1
theorem Inv.ng (h:Inv sb g mb wd R w S):g≠mb:=by
 intro e
 subst e
 obtain ⟨D,n,⟨es,cl,h1,_⟩,_⟩:=h.me
 obtain ⟨cs,T,h2⟩:=h.pl.pr.row
 rw [h1] at h2
 cases h2
theorem Inv.lt (h:Inv sb g mb wd R w S):sb<w.heap.size∧g<w.heap.size∧mb<w.heap.size:=⟨h.pl.ltB,h.pl.ltG,h.me.lt⟩
theorem Inv.kept (h:Inv sb g mb wd R w S) (hb:∀ k,k<w.heap.size→w'.heap[k]? = w.heap[k]?):Inv sb g mb wd R w' S:=
 ⟨h.pl.kept (hb _ h.lt.1) (hb _ h.lt.2.1),(World.cell?_of_block (w:=w) (a:=⟨sb,2,none⟩) (hb _ h.lt.1)).trans h.c2,h.me.kept (hb _ h.lt.2.2),h.cl⟩
theorem Inv.kept3 (h:Inv sb g mb wd R w S) (h1:w'.heap[sb]? = w.heap[sb]?) (h2:w'.heap[g]? = w.heap[g]?) (h3:w'.heap[mb]? = w.heap[mb]?):Inv sb g mb wd R w' S:=
 ⟨h.pl.kept h1 h2,(World.cell?_of_block (w:=w) (a:=⟨sb,2,none⟩) h1).trans h.c2,h.me.kept h3,h.cl⟩
theorem v5b {wr:World} {b k:Nat} (hk:k≠b) (v0 v1 v2 v3 v4:Value):(((((wr.setCell ⟨b,0,none⟩ v0).setCell ⟨b,1,none⟩ v1).setCell ⟨b,2,none⟩ v2).setCell ⟨b,3,none⟩ v3).setCell ⟨b,4,none⟩ v4).heap[k]? = wr.heap[k]?:=
 (Below.heap_setCell _ _ _ _ hk).trans ((Below.heap_setCell _ _ _ _ hk).trans ((Below.heap_setCell _ _ _ _ hk).trans ((Below.heap_setCell _ _ _ _ hk).trans (Below.heap_setCell _ _ _ _ hk))))
theorem Inv.set5 {b:Nat} (h:Inv sb g mb wd R w S) (h1:sb≠b) (h2:g≠b) (h3:mb≠b) (v0 v1 v2 v3 v4:Value):Inv sb g mb wd R (((((w.setCell ⟨b,0,none⟩ v0).setCell ⟨b,1,none⟩ v1).setCell ⟨b,2,none⟩ v2).setCell ⟨b,3,none⟩ v3).setCell ⟨b,4,none⟩ v4) S:=
 h.kept3 (v5b h1 _ _ _ _ _) (v5b h2 _ _ _ _ _) (v5b h3 _ _ _ _ _)
theorem Inv.below (h:Inv sb g mb wd R w S) (hb:Below w.heap.size w w'):Inv sb g mb wd R w' S:=h.kept fun k hk=>hb.block k hk
theorem Inv.alloc (h:Inv sb g mb wd R w S) (O:Obj):Inv sb g mb wd R (w.alloc O) S:=h.kept fun _ hk=>Below.heap_alloc _ _ _ hk
theorem Inv.more {p c:Nat} (h:Inv sb g mb wd R w S) (hg:w.grownBy w' (some mb)) (hm:Mem w' mb (crs R wd) (z7n S p c)) (hp:p<R.length) (hc:c≤wd) (hn:(crs R wd p c).np<R.length→S (crs R wd p c).np (crs R wd p c).nc=true):Inv sb g mb wd R w' (z7n S p c) where
 pl:=h.pl.kept (hg.block _ h.lt.1 (by intro e;exact h.nb (Option.some.inj e))) (hg.block _ h.lt.2.1 (by intro e;exact h.ng (Option.some.inj e)))
 c2:=(World.cell?_of_block (w:=w) (a:=⟨sb,2,none⟩) (hg.block _ h.lt.1 (by intro e;exact h.nb (Option.some.inj e)))).trans h.c2
 me:=hm
 cl p' c' hs:=by
  have hor:∀ a b,S a b=true→z7n S p c a b=true:=fun a b hab=>by simp [z7n,hab]
  by_cases e:p'=p∧c'=c
  ·obtain ⟨rfl,rfl⟩:=e
   exact ⟨hp,hc,fun hl=>hor _ _ (hn hl)⟩
  ·have hs':S p' c'=true:=by
    simp only [z7n,Bool.or_eq_true,Bool.and_eq_true,decide_eq_true_eq] at hs
    rcases hs with hs | hs
    ·exact hs
    ·exact absurd hs e
   obtain ⟨h1,h2,h3⟩:=h.cl p' c' hs'
   exact ⟨h1,h2,fun hl=>hor _ _ (h3 hl)⟩
def Left (sb g mb wd:Nat) (R:List Pl) (S:Nat→Nat→Bool) (lo p c:Nat) (w w':World):Prop:=
 q0j w.heap.size mb w w'∧∃ S',Inv sb g mb wd R w' S'∧(∀ a b,S a b=true→S' a b=true)∧(∀ a b,S' a b=true→S a b=true∨lo≤a)∧(p<R.length→S' p c=true)
theorem z4v {lo p c:Nat} (h:Inv sb g mb wd R w S) (hb:Below w.heap.size w w') (hp:p<R.length→S p c=true):Left sb g mb wd R S lo p c w w':=
 ⟨q0j.of hb,S,h.below hb,fun _ _ h=>h,fun _ _ h=>.inl h,hp⟩
theorem v1m {n b:Nat} {wr:World} (h:Below n w wr) (hb:n≤b) (v0 v1 v2 v3 v4:Value):Below n w (((((wr.setCell ⟨b,0,none⟩ v0).setCell ⟨b,1,none⟩ v1).setCell ⟨b,2,none⟩ v2).setCell ⟨b,3,none⟩ v3).setCell ⟨b,4,none⟩ v4):=
 ((((h.setCell (p:=⟨b,0,none⟩) hb _).setCell (p:=⟨b,1,none⟩) hb _).setCell (p:=⟨b,2,none⟩) hb _).setCell (p:=⟨b,3,none⟩) hb _).setCell (p:=⟨b,4,none⟩) hb _
theorem k0r {n b m:Nat} {wr:World} (h:q0j n m w wr) (hb:n≤b) (v0 v1 v2 v3 v4:Value):q0j n m w (((((wr.setCell ⟨b,0,none⟩ v0).setCell ⟨b,1,none⟩ v1).setCell ⟨b,2,none⟩ v2).setCell ⟨b,3,none⟩ v3).setCell ⟨b,4,none⟩ v4):=
 ((((h.setCell (p:=⟨b,0,none⟩) (.inr hb) _).setCell (p:=⟨b,1,none⟩) (.inr hb) _).setCell (p:=⟨b,2,none⟩) (.inr hb) _).setCell (p:=⟨b,3,none⟩) (.inr hb) _).setCell (p:=⟨b,4,none⟩) (.inr hb) _
def k7v (sb g mb wd:Nat) (R:List Pl) (i c:Nat):Prop:=∀ w S,Inv sb g mb wd R w S→
 Calls Tryz.prog 109 #[.pointer (some ⟨sb,0,none⟩),.agg #[.int .i64 i,.int .i64 c]] w fun e w'=>e = .returned (cvV (if i<R.length then crs R wd i c else zCv))∧Left sb g mb wd R S i i c w w'
def q8n (sb g mb wd:Nat) (R:List Pl) (i c ch:Nat):Prop:=∀ w S,Inv sb g mb wd R w S→
 Calls Tryz.prog 195 #[.pointer (some ⟨sb,0,none⟩),.agg #[.int .i64 i,.int .i64 c],.int .i64 ch] w fun e w'=>e = .returned (cvV (tkC R wd i c ch))∧Left sb g mb wd R S (i+1) (q2o R wd i c ch).np (q2o R wd i c ch).nc w w'
def k0n (sb g mb wd:Nat) (R:List Pl) (i c:Nat):Prop:=∀ w S,Inv sb g mb wd R w S→
 Calls Tryz.prog 163 #[.pointer (some ⟨sb,0,none⟩),.agg #[.int .i64 i,.int .i64 c]] w fun e w'=>e = .returned (cvV (crs R wd i c))∧Left sb g mb wd R S (i+1) (crs R wd i c).np (crs R wd i c).nc w w'
end
end Go.Proofs.YthjapabokcajhaaGreatDoor
