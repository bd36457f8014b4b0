/- Texts as one: Pm4, Pm5, Pm6, Pm7. -/
import Derived.Test.YtchdplceopegoaaGreatDoorPs17
namespace Go.Proofs.YtchdplceopegoaaGreatDoor
open Go Go.RowKit
set_option maxRecDepth 100000
set_option maxHeartbeats 8000000
theorem k5x (bp g n i c:Nat) (tx:ByteArray) (nn en:Int) (nx dp:Nat) (lg:Int) (ch:Nat) (w:World) (hi:(i:Int)<n)
  (c0:w.cell? ⟨bp,0,none⟩=some (.slice (some ⟨g,0,none⟩) n n))
  (d0:w.cell? ⟨g,i*7,none⟩=some (.int .i64 5)) (d1:w.cell? ⟨g,i*7+1,none⟩=some (.string tx)) (d2:w.cell? ⟨g,i*7+2,none⟩=some (.int .i64 nn)) (d3:w.cell? ⟨g,i*7+3,none⟩=some (.int .i64 en)) (d4:w.cell? ⟨g,i*7+4,none⟩=some (.int .i64 nx)) (d5:w.cell? ⟨g,i*7+5,none⟩=some (.int .i64 dp)) (d6:w.cell? ⟨g,i*7+6,none⟩=some (.int .i64 lg)) :
  Calls Tryz.prog 222 #[.pointer (some ⟨bp,0,none⟩),.agg #[.int .i64 i,.int .i64 c],.int .i64 ch] w fun e w'=>e = .returned (.tuple #[.agg #[.int .i64 nx,.int .i64 c],.agg #[.int .i64 0,.int .i64 0]])∧Below w.heap.size w w':=by
 have hp0:(0:Int)≤(i:Int):=by omega
 have hlt:=World.block_lt_of_cell? w ⟨bp,0,none⟩ c0
 have hltg:=World.block_lt_of_cell? w ⟨g,i*7,none⟩ d0
 have hx0:∀ O2 O3,(((w.alloc (.cells #[.int .i64 i,.int .i64 c] 216)).alloc O2).alloc O3).cell? ⟨w.heap.size,0,none⟩=some (.int .i64 i):=fun O2 O3=>by simp [go_sem]
 have hx4:∀ O2 O3 O4,((((w.alloc (.cells #[.int .i64 i,.int .i64 c] 216)).alloc O2).alloc O3).alloc O4).cell? ⟨w.heap.size,0,none⟩=some (.int .i64 i):=fun O2 O3 O4=>ka (hx0 O2 O3) O4
 go_enter Tryz.func222,Tryz.ntmps222
 go_wp2_with fail
 go_region_held3 (fun w'=>w'.cell? ⟨bp,0,none⟩=some (.slice (some ⟨g,0,none⟩) n n)∧w'.cell? ⟨w.heap.size,0,none⟩=some (.int .i64 i)∧w'.cell? ⟨g,i*7,none⟩=some (.int .i64 5)∧w'.cell? ⟨g,i*7+1,none⟩=some (.string tx)∧w'.cell? ⟨g,i*7+2,none⟩=some (.int .i64 nn)∧w'.cell? ⟨g,i*7+3,none⟩=some (.int .i64 en)∧w'.cell? ⟨g,i*7+4,none⟩=some (.int .i64 nx)∧w'.cell? ⟨g,i*7+5,none⟩=some (.int .i64 dp)∧w'.cell? ⟨g,i*7+6,none⟩=some (.int .i64 lg))
  (first | exact ⟨k3 c0 _ _ _,hx0 _ _,k3 d0 _ _ _,k3 d1 _ _ _,k3 d2 _ _ _,k3 d3 _ _ _,k3 d4 _ _ _,k3 d5 _ _ _,k3 d6 _ _ _⟩ | exact ⟨k4 c0 _ _ _ _,hx4 _ _ _,k4 d0 _ _ _ _,k4 d1 _ _ _ _,k4 d2 _ _ _ _,k4 d3 _ _ _ _,k4 d4 _ _ _ _,k4 d5 _ _ _ _,k4 d6 _ _ _ _⟩) (fail)
 all_goals
  go_wp2
  exact bodyPost_ret (v:=.tuple #[.agg #[.int .i64 nx,.int .i64 c],.agg #[.int .i64 0,.int .i64 0]]) (by simp [results,Tryz.results222,go_sem]) rfl ⟨rfl,(v2l w _ _ _ _).drew⟩
theorem k3h (oq:Int) (ho:oq=6∨oq=7) (bp g n i c:Nat) (tx:ByteArray) (nn en:Int) (nx dp:Nat) (lg:Int) (ch:Nat) (w:World) (hn:n≤400) (hi:(i:Int)<n)
  (c0:w.cell? ⟨bp,0,none⟩=some (.slice (some ⟨g,0,none⟩) n n))
  (d0:w.cell? ⟨g,i*7,none⟩=some (.int .i64 oq)) (d1:w.cell? ⟨g,i*7+1,none⟩=some (.string tx)) (d2:w.cell? ⟨g,i*7+2,none⟩=some (.int .i64 nn)) (d3:w.cell? ⟨g,i*7+3,none⟩=some (.int .i64 en)) (d4:w.cell? ⟨g,i*7+4,none⟩=some (.int .i64 nx)) (d5:w.cell? ⟨g,i*7+5,none⟩=some (.int .i64 dp)) (d6:w.cell? ⟨g,i*7+6,none⟩=some (.int .i64 lg)) :
  Calls Tryz.prog 222 #[.pointer (some ⟨bp,0,none⟩),.agg #[.int .i64 i,.int .i64 c],.int .i64 ch] w fun e w'=>e = .returned (.tuple #[.agg #[.int .i64 ((i:Int)+1),.int .i64 c],.agg #[.int .i64 0,.int .i64 0]])∧Below w.heap.size w w':=by
 have tg:v9y oq:=.mk
 rcases ho with rfl | rfl
 all_goals
  have hp0:(0:Int)≤(i:Int):=by omega
  have hw1:=z4i hn hi
  have hlt:=World.block_lt_of_cell? w ⟨bp,0,none⟩ c0
  have hltg:=World.block_lt_of_cell? w ⟨g,i*7,none⟩ d0
  have hx0:∀ O2 O3,(((w.alloc (.cells #[.int .i64 i,.int .i64 c] 216)).alloc O2).alloc O3).cell? ⟨w.heap.size,0,none⟩=some (.int .i64 i):=fun O2 O3=>by simp [go_sem]
  have hx4:∀ O2 O3 O4,((((w.alloc (.cells #[.int .i64 i,.int .i64 c] 216)).alloc O2).alloc O3).alloc O4).cell? ⟨w.heap.size,0,none⟩=some (.int .i64 i):=fun O2 O3 O4=>ka (hx0 O2 O3) O4
  go_enter Tryz.func222,Tryz.ntmps222
  go_wp2_with fail
  go_region_held3 (fun w'=>w'.cell? ⟨bp,0,none⟩=some (.slice (some ⟨g,0,none⟩) n n)∧w'.cell? ⟨w.heap.size,0,none⟩=some (.int .i64 i)∧w'.cell? ⟨g,i*7,none⟩=some (.int .i64 ↑tg)∧w'.cell? ⟨g,i*7+1,none⟩=some (.string tx)∧w'.cell? ⟨g,i*7+2,none⟩=some (.int .i64 nn)∧w'.cell? ⟨g,i*7+3,none⟩=some (.int .i64 en)∧w'.cell? ⟨g,i*7+4,none⟩=some (.int .i64 nx)∧w'.cell? ⟨g,i*7+5,none⟩=some (.int .i64 dp)∧w'.cell? ⟨g,i*7+6,none⟩=some (.int .i64 lg))
   (first | exact ⟨k3 c0 _ _ _,hx0 _ _,k3 d0 _ _ _,k3 d1 _ _ _,k3 d2 _ _ _,k3 d3 _ _ _,k3 d4 _ _ _,k3 d5 _ _ _,k3 d6 _ _ _⟩ | exact ⟨k4 c0 _ _ _ _,hx4 _ _ _,k4 d0 _ _ _ _,k4 d1 _ _ _ _,k4 d2 _ _ _ _,k4 d3 _ _ _ _,k4 d4 _ _ _ _,k4 d5 _ _ _ _,k4 d6 _ _ _ _⟩) (fail)
  all_goals
   go_wp2
   exact bodyPost_ret (v:=.tuple #[.agg #[.int .i64 ((i:Int)+1),.int .i64 c],.agg #[.int .i64 0,.int .i64 0]]) (by simp [results,Tryz.results222,go_sem]) rfl ⟨rfl,(v2l w _ _ _ _).drew⟩
theorem z2t (bp g n i c:Nat) (tx:ByteArray) (nn en:Int) (nx dp:Nat) (lg:Int) (w:World) (hn:n≤400) (hi:(i:Int)<n)
  (c0:w.cell? ⟨bp,0,none⟩=some (.slice (some ⟨g,0,none⟩) n n))
  (d0:w.cell? ⟨g,i*7,none⟩=some (.int .i64 8)) (d1:w.cell? ⟨g,i*7+1,none⟩=some (.string tx)) (d2:w.cell? ⟨g,i*7+2,none⟩=some (.int .i64 nn)) (d3:w.cell? ⟨g,i*7+3,none⟩=some (.int .i64 en)) (d4:w.cell? ⟨g,i*7+4,none⟩=some (.int .i64 nx)) (d5:w.cell? ⟨g,i*7+5,none⟩=some (.int .i64 dp)) (d6:w.cell? ⟨g,i*7+6,none⟩=some (.int .i64 lg)) :
  Calls Tryz.prog 222 #[.pointer (some ⟨bp,0,none⟩),.agg #[.int .i64 i,.int .i64 c],.int .i64 1] w fun e w'=>e = .returned (.tuple #[.agg #[.int .i64 ((i:Int)+1),.int .i64 c],.agg #[.int .i64 0,.int .i64 0]])∧Below w.heap.size w w':=by
 have hp0:(0:Int)≤(i:Int):=by omega
 have hw1:=z4i hn hi
 have hlt:=World.block_lt_of_cell? w ⟨bp,0,none⟩ c0
 have hltg:=World.block_lt_of_cell? w ⟨g,i*7,none⟩ d0
 have hx0:∀ O2 O3,(((w.alloc (.cells #[.int .i64 i,.int .i64 c] 216)).alloc O2).alloc O3).cell? ⟨w.heap.size,0,none⟩=some (.int .i64 i):=fun O2 O3=>by simp [go_sem]
 have hx4:∀ O2 O3 O4,((((w.alloc (.cells #[.int .i64 i,.int .i64 c] 216)).alloc O2).alloc O3).alloc O4).cell? ⟨w.heap.size,0,none⟩=some (.int .i64 i):=fun O2 O3 O4=>ka (hx0 O2 O3) O4
 go_enter Tryz.func222,Tryz.ntmps222
 go_wp2_with fail
 go_region_held3 (fun w'=>w'.cell? ⟨bp,0,none⟩=some (.slice (some ⟨g,0,none⟩) n n)∧w'.cell? ⟨w.heap.size,0,none⟩=some (.int .i64 i)∧w'.cell? ⟨g,i*7,none⟩=some (.int .i64 8)∧w'.cell? ⟨g,i*7+1,none⟩=some (.string tx)∧w'.cell? ⟨g,i*7+2,none⟩=some (.int .i64 nn)∧w'.cell? ⟨g,i*7+3,none⟩=some (.int .i64 en)∧w'.cell? ⟨g,i*7+4,none⟩=some (.int .i64 nx)∧w'.cell? ⟨g,i*7+5,none⟩=some (.int .i64 dp)∧w'.cell? ⟨g,i*7+6,none⟩=some (.int .i64 lg))
  (first | exact ⟨k3 c0 _ _ _,hx0 _ _,k3 d0 _ _ _,k3 d1 _ _ _,k3 d2 _ _ _,k3 d3 _ _ _,k3 d4 _ _ _,k3 d5 _ _ _,k3 d6 _ _ _⟩ | exact ⟨k4 c0 _ _ _ _,hx4 _ _ _,k4 d0 _ _ _ _,k4 d1 _ _ _ _,k4 d2 _ _ _ _,k4 d3 _ _ _ _,k4 d4 _ _ _ _,k4 d5 _ _ _ _,k4 d6 _ _ _ _⟩) (fail)
 all_goals
  go_wp2
  exact bodyPost_ret (v:=.tuple #[.agg #[.int .i64 ((i:Int)+1),.int .i64 c],.agg #[.int .i64 0,.int .i64 0]]) (by simp [results,Tryz.results222,go_sem]) rfl ⟨rfl,(v2l w _ _ _ _).drew⟩
theorem k5v (bp g n i c:Nat) (tx:ByteArray) (nn en:Int) (nx dp:Nat) (lg:Int) (w:World) (hn:n≤400) (hi:(i:Int)<n)
  (c0:w.cell? ⟨bp,0,none⟩=some (.slice (some ⟨g,0,none⟩) n n))
  (d0:w.cell? ⟨g,i*7,none⟩=some (.int .i64 9)) (d1:w.cell? ⟨g,i*7+1,none⟩=some (.string tx)) (d2:w.cell? ⟨g,i*7+2,none⟩=some (.int .i64 nn)) (d3:w.cell? ⟨g,i*7+3,none⟩=some (.int .i64 en)) (d4:w.cell? ⟨g,i*7+4,none⟩=some (.int .i64 nx)) (d5:w.cell? ⟨g,i*7+5,none⟩=some (.int .i64 dp)) (d6:w.cell? ⟨g,i*7+6,none⟩=some (.int .i64 lg)) :
  Calls Tryz.prog 222 #[.pointer (some ⟨bp,0,none⟩),.agg #[.int .i64 i,.int .i64 c],.int .i64 0] w fun e w'=>e = .returned (.tuple #[.agg #[.int .i64 ((i:Int)+1),.int .i64 c],.agg #[.int .i64 0,.int .i64 0]])∧Below w.heap.size w w':=by
 have hp0:(0:Int)≤(i:Int):=by omega
 have hw1:=z4i hn hi
 have hlt:=World.block_lt_of_cell? w ⟨bp,0,none⟩ c0
 have hltg:=World.block_lt_of_cell? w ⟨g,i*7,none⟩ d0
 have hx0:∀ O2 O3,(((w.alloc (.cells #[.int .i64 i,.int .i64 c] 216)).alloc O2).alloc O3).cell? ⟨w.heap.size,0,none⟩=some (.int .i64 i):=fun O2 O3=>by simp [go_sem]
 have hx4:∀ O2 O3 O4,((((w.alloc (.cells #[.int .i64 i,.int .i64 c] 216)).alloc O2).alloc O3).alloc O4).cell? ⟨w.heap.size,0,none⟩=some (.int .i64 i):=fun O2 O3 O4=>ka (hx0 O2 O3) O4
 go_enter Tryz.func222,Tryz.ntmps222
 go_wp2_with fail
 go_region_held3 (fun w'=>w'.cell? ⟨bp,0,none⟩=some (.slice (some ⟨g,0,none⟩) n n)∧w'.cell? ⟨w.heap.size,0,none⟩=some (.int .i64 i)∧w'.cell? ⟨g,i*7,none⟩=some (.int .i64 9)∧w'.cell? ⟨g,i*7+1,none⟩=some (.string tx)∧w'.cell? ⟨g,i*7+2,none⟩=some (.int .i64 nn)∧w'.cell? ⟨g,i*7+3,none⟩=some (.int .i64 en)∧w'.cell? ⟨g,i*7+4,none⟩=some (.int .i64 nx)∧w'.cell? ⟨g,i*7+5,none⟩=some (.int .i64 dp)∧w'.cell? ⟨g,i*7+6,none⟩=some (.int .i64 lg))
  (first | exact ⟨k3 c0 _ _ _,hx0 _ _,k3 d0 _ _ _,k3 d1 _ _ _,k3 d2 _ _ _,k3 d3 _ _ _,k3 d4 _ _ _,k3 d5 _ _ _,k3 d6 _ _ _⟩ | exact ⟨k4 c0 _ _ _ _,hx4 _ _ _,k4 d0 _ _ _ _,k4 d1 _ _ _ _,k4 d2 _ _ _ _,k4 d3 _ _ _ _,k4 d4 _ _ _ _,k4 d5 _ _ _ _,k4 d6 _ _ _ _⟩) (fail)
 all_goals
  go_wp2
  exact bodyPost_ret (v:=.tuple #[.agg #[.int .i64 ((i:Int)+1),.int .i64 c],.agg #[.int .i64 0,.int .i64 0]]) (by simp [results,Tryz.results222,go_sem]) rfl ⟨rfl,(v2l w _ _ _ _).drew⟩
theorem z8c (bp g n i c:Nat) (tx:ByteArray) (nn en:Int) (nx dp:Nat) (lg:Int) (x:Int) (w:World) (hn:n≤400) (hi:(i:Int)<n) (hi1:(i:Int)+1<n) (dx:w.cell? ⟨g,(i+1)*7+3,none⟩=some (.int .i64 x))
  (c0:w.cell? ⟨bp,0,none⟩=some (.slice (some ⟨g,0,none⟩) n n))
  (d0:w.cell? ⟨g,i*7,none⟩=some (.int .i64 9)) (d1:w.cell? ⟨g,i*7+1,none⟩=some (.string tx)) (d2:w.cell? ⟨g,i*7+2,none⟩=some (.int .i64 nn)) (d3:w.cell? ⟨g,i*7+3,none⟩=some (.int .i64 en)) (d4:w.cell? ⟨g,i*7+4,none⟩=some (.int .i64 nx)) (d5:w.cell? ⟨g,i*7+5,none⟩=some (.int .i64 dp)) (d6:w.cell? ⟨g,i*7+6,none⟩=some (.int .i64 lg)) :
  Calls Tryz.prog 222 #[.pointer (some ⟨bp,0,none⟩),.agg #[.int .i64 i,.int .i64 c],.int .i64 1] w fun e w'=>e = .returned (.tuple #[.agg #[.int .i64 x,.int .i64 c],.agg #[.int .i64 0,.int .i64 0]])∧Below w.heap.size w w':=by
 have hp0:(0:Int)≤(i:Int):=by omega
 have hw1:=z4i hn hi
 have hlt:=World.block_lt_of_cell? w ⟨bp,0,none⟩ c0
 have hltg:=World.block_lt_of_cell? w ⟨g,i*7,none⟩ d0
 have hx0:∀ O2 O3,(((w.alloc (.cells #[.int .i64 i,.int .i64 c] 216)).alloc O2).alloc O3).cell? ⟨w.heap.size,0,none⟩=some (.int .i64 i):=fun O2 O3=>by simp [go_sem]
 have hx4:∀ O2 O3 O4,((((w.alloc (.cells #[.int .i64 i,.int .i64 c] 216)).alloc O2).alloc O3).alloc O4).cell? ⟨w.heap.size,0,none⟩=some (.int .i64 i):=fun O2 O3 O4=>ka (hx0 O2 O3) O4
 have hy4:∀ O2 O3 O4,((((w.alloc (.cells #[.int .i64 i,.int .i64 c] 216)).alloc O2).alloc O3).alloc O4).cell? ⟨w.heap.size,1,none⟩=some (.int .i64 c):=fun O2 O3 O4=>by simp [go_sem]
 have hp1:(0:Int)≤(i:Int)+1:=by omega
 have htn:((i:Int)+1).toNat=i+1:=by omega
 go_enter Tryz.func222,Tryz.ntmps222
 go_wp2_with fail
 go_region_held3 (fun w'=>w'.cell? ⟨bp,0,none⟩=some (.slice (some ⟨g,0,none⟩) n n)∧w'.cell? ⟨w.heap.size,0,none⟩=some (.int .i64 i)∧w'.cell? ⟨g,i*7,none⟩=some (.int .i64 9)∧w'.cell? ⟨g,i*7+1,none⟩=some (.string tx)∧w'.cell? ⟨g,i*7+2,none⟩=some (.int .i64 nn)∧w'.cell? ⟨g,i*7+3,none⟩=some (.int .i64 en)∧w'.cell? ⟨g,i*7+4,none⟩=some (.int .i64 nx)∧w'.cell? ⟨g,i*7+5,none⟩=some (.int .i64 dp)∧w'.cell? ⟨g,i*7+6,none⟩=some (.int .i64 lg))
  (first | exact ⟨k3 c0 _ _ _,hx0 _ _,k3 d0 _ _ _,k3 d1 _ _ _,k3 d2 _ _ _,k3 d3 _ _ _,k3 d4 _ _ _,k3 d5 _ _ _,k3 d6 _ _ _⟩ | exact ⟨k4 c0 _ _ _ _,hx4 _ _ _,k4 d0 _ _ _ _,k4 d1 _ _ _ _,k4 d2 _ _ _ _,k4 d3 _ _ _ _,k4 d4 _ _ _ _,k4 d5 _ _ _ _,k4 d6 _ _ _ _⟩) (fail)
 all_goals
  go_wp2_with fail
  go_region_held3 (fun w'=>w'.cell? ⟨bp,0,none⟩=some (.slice (some ⟨g,0,none⟩) n n)∧w'.cell? ⟨w.heap.size,0,none⟩=some (.int .i64 i)∧w'.cell? ⟨w.heap.size,1,none⟩=some (.int .i64 c)∧w'.cell? ⟨g,(i+1)*7+3,none⟩=some (.int .i64 x))
   (exact ⟨k4 c0 _ _ _ _,hx4 _ _ _,hy4 _ _ _,k4 dx _ _ _ _⟩) (fail)
  all_goals
   go_wp2
   exact bodyPost_ret (v:=.tuple #[.agg #[.int .i64 x,.int .i64 c],.agg #[.int .i64 0,.int .i64 0]]) (by simp [results,Tryz.results222,go_sem]) rfl ⟨rfl,(v2l w _ _ _ _).drew.drew⟩
set_option maxHeartbeats 16000000
instance cellInt {w:World} {p:Addr} {v:Int} (h:w.cell? p=some (.int .i64 v)):CoeDep (w.cell? p=some (.int .i64 v)) h Int:=⟨v⟩
theorem z0k (op:Int) (ho:op=2∨op=3∨op=4) (bp g n wd i c:Nat) (tx:ByteArray) (nn en:Int) (nx dp:Nat) (lg:Int) (ch:Nat) (w:World) (hi:(i:Int)<n) (hw:wd≤100) (hk:dp≤20000)
  (c0:w.cell? ⟨bp,0,none⟩=some (.slice (some ⟨g,0,none⟩) n n)) (c1:w.cell? ⟨bp,1,none⟩=some (.int .i64 wd))
  (d0:w.cell? ⟨g,i*7,none⟩=some (.int .i64 op)) (d1:w.cell? ⟨g,i*7+1,none⟩=some (.string tx)) (d2:w.cell? ⟨g,i*7+2,none⟩=some (.int .i64 nn)) (d3:w.cell? ⟨g,i*7+3,none⟩=some (.int .i64 en)) (d4:w.cell? ⟨g,i*7+4,none⟩=some (.int .i64 nx)) (d5:w.cell? ⟨g,i*7+5,none⟩=some (.int .i64 dp)) (d6:w.cell? ⟨g,i*7+6,none⟩=some (.int .i64 lg)) :
  Calls Tryz.prog 222 #[.pointer (some ⟨bp,0,none⟩),.agg #[.int .i64 i,.int .i64 c],.int .i64 ch] w fun e w'=>e = .returned (.tuple #[.agg #[.int .i64 nx,.int .i64 ((min dp wd:Nat):Int)],.agg #[.int .i64 ((dp - wd:Nat):Int),.int .i64 1]])∧Below w.heap.size w w':=by
 have hp0:(0:Int)≤(i:Int):=by omega
 have hlt:=World.block_lt_of_cell? w ⟨bp,0,none⟩ c0
 have hltg:=World.block_lt_of_cell? w ⟨g,i*7,none⟩ d0
 have hx0:∀ O2 O3,(((w.alloc (.cells #[.int .i64 i,.int .i64 c] 216)).alloc O2).alloc O3).cell? ⟨w.heap.size,0,none⟩=some (.int .i64 i):=fun O2 O3=>by simp [go_sem]
 have hx4:∀ O2 O3 O4,((((w.alloc (.cells #[.int .i64 i,.int .i64 c] 216)).alloc O2).alloc O3).alloc O4).cell? ⟨w.heap.size,0,none⟩=some (.int .i64 i):=fun O2 O3 O4=>ka (hx0 O2 O3) O4
 rcases ho with rfl | rfl | rfl
 all_goals
  go_enter Tryz.func222,Tryz.ntmps222
  go_wp2_with fail
  go_region_held3 (fun w'=>w'.cell? ⟨bp,0,none⟩=some (.slice (some ⟨g,0,none⟩) n n)∧w'.cell? ⟨w.heap.size,0,none⟩=some (.int .i64 i)∧w'.cell? ⟨g,i*7,none⟩=some (.int .i64 (d0:Int))∧w'.cell? ⟨g,i*7+1,none⟩=some (.string tx)∧w'.cell? ⟨g,i*7+2,none⟩=some (.int .i64 nn)∧w'.cell? ⟨g,i*7+3,none⟩=some (.int .i64 en)∧w'.cell? ⟨g,i*7+4,none⟩=some (.int .i64 nx)∧w'.cell? ⟨g,i*7+5,none⟩=some (.int .i64 dp)∧w'.cell? ⟨g,i*7+6,none⟩=some (.int .i64 lg))
   (first | exact ⟨k3 c0 _ _ _,hx0 _ _,k3 d0 _ _ _,k3 d1 _ _ _,k3 d2 _ _ _,k3 d3 _ _ _,k3 d4 _ _ _,k3 d5 _ _ _,k3 d6 _ _ _⟩ | exact ⟨k4 c0 _ _ _ _,hx4 _ _ _,k4 d0 _ _ _ _,k4 d1 _ _ _ _,k4 d2 _ _ _ _,k4 d3 _ _ _ _,k4 d4 _ _ _ _,k4 d5 _ _ _ _,k4 d6 _ _ _ _⟩) (fail)
  all_goals
   go_wp2_with fail
   refine (k0y bp wd nx dp _ hw hk (k4d c1 _ _ _ _)).mono ?_
   rintro e w2 ⟨rfl,hb2⟩
   obtain ⟨hcl,hfr⟩:=q0w hb2
   have hs2:w.heap.size+1+1+1+1≤w2.heap.size:=by have:=hb2.size;simpa using this
   have a0:w2.cell? ⟨w.heap.size+1,0,none⟩=some (.int .i64 0):=(hcl _ _ (by simp)).trans (by simp [go_sem])
   have a1:w2.cell? ⟨w.heap.size+1,1,none⟩=some (.int .i64 0):=(hcl _ _ (by simp)).trans (by simp [go_sem])
   have b0:w2.cell? ⟨w.heap.size+1+1,0,none⟩=some (.int .i64 0):=(hcl _ _ (by simp)).trans (by simp [go_sem])
   have b1:w2.cell? ⟨w.heap.size+1+1,1,none⟩=some (.int .i64 0):=(hcl _ _ (by simp)).trans (by simp [go_sem])
   have f0:w2.frozen? ⟨w.heap.size+1,0,none⟩=false:=(hfr _ _ (by simp)).trans (by simp [go_sem])
   have f1:w2.frozen? ⟨w.heap.size+1,1,none⟩=false:=(hfr _ _ (by simp)).trans (by simp [go_sem])
   have f2:w2.frozen? ⟨w.heap.size+1+1,0,none⟩=false:=(hfr _ _ (by simp)).trans (by simp [go_sem])
   have f3:w2.frozen? ⟨w.heap.size+1+1,1,none⟩=false:=(hfr _ _ (by simp)).trans (by simp [go_sem])
   have hB:Below w.heap.size w w2:=(v2l w _ _ _ _).drew.trans (hb2.mono (by simp;omega))
   clear hcl hfr hb2
   have q0:=fun O1 O2=>ka (ka a0 O1) O2
   have q1:=fun O1 O2=>ka (ka a1 O1) O2
   have q2:=fun O1 O2=>ka (ka b0 O1) O2
   have q3:=fun O1 O2=>ka (ka b1 O1) O2
   have g0:∀ O1 O2,((w2.alloc O1).alloc O2).frozen? ⟨w.heap.size+1,0,none⟩=false:=fun O1 O2=>kaf (by simp;omega) (kaf (by omega) f0 O1) O2
   have g1:∀ O1 O2,((w2.alloc O1).alloc O2).frozen? ⟨w.heap.size+1,1,none⟩=false:=fun O1 O2=>kaf (by simp;omega) (kaf (by omega) f1 O1) O2
   have g2:∀ O1 O2,((w2.alloc O1).alloc O2).frozen? ⟨w.heap.size+1+1,0,none⟩=false:=fun O1 O2=>kaf (by simp;omega) (kaf (by omega) f2 O1) O2
   have g3:∀ O1 O2,((w2.alloc O1).alloc O2).frozen? ⟨w.heap.size+1+1,1,none⟩=false:=fun O1 O2=>kaf (by simp;omega) (kaf (by omega) f3 O1) O2
   have hbb:∀ O1 O2,Below w.heap.size w ((w2.alloc O1).alloc O2):=fun O1 O2=>(hB.alloc (by omega) O1).alloc (by simp;omega) O2
   generalize hm1:((min dp wd:Nat):Int)=m1 at *
   generalize hm2:((dp - wd:Nat):Int)=m2 at *
   have HM:Hid (((min dp wd:Nat):Int)=m1∧((dp - wd:Nat):Int)=m2):=⟨hm1,hm2⟩
   clear hm1 hm2
   have s0:((w2.alloc (.cells #[.int .i64 nx,.int .i64 m1] 216)).alloc (.cells #[.int .i64 m2,.int .i64 1] 94)).cell? ⟨w2.heap.size,0,none⟩=some (.int .i64 nx):=by simp [go_sem]
   have s1:((w2.alloc (.cells #[.int .i64 nx,.int .i64 m1] 216)).alloc (.cells #[.int .i64 m2,.int .i64 1] 94)).cell? ⟨w2.heap.size,1,none⟩=some (.int .i64 m1):=by simp [go_sem]
   have s2:((w2.alloc (.cells #[.int .i64 nx,.int .i64 m1] 216)).alloc (.cells #[.int .i64 m2,.int .i64 1] 94)).cell? ⟨w2.heap.size+1,0,none⟩=some (.int .i64 m2):=by simp [go_sem]
   have s3:((w2.alloc (.cells #[.int .i64 nx,.int .i64 m1] 216)).alloc (.cells #[.int .i64 m2,.int .i64 1] 94)).cell? ⟨w2.heap.size+1,1,none⟩=some (.int .i64 1):=by simp [go_sem]
   have q0':=q0 (.cells #[.int .i64 nx,.int .i64 m1] 216) (.cells #[.int .i64 m2,.int .i64 1] 94)
   have q1':=q1 (.cells #[.int .i64 nx,.int .i64 m1] 216) (.cells #[.int .i64 m2,.int .i64 1] 94)
   have q2':=q2 (.cells #[.int .i64 nx,.int .i64 m1] 216) (.cells #[.int .i64 m2,.int .i64 1] 94)
   have q3':=q3 (.cells #[.int .i64 nx,.int .i64 m1] 216) (.cells #[.int .i64 m2,.int .i64 1] 94)
   have g0':=g0 (.cells #[.int .i64 nx,.int .i64 m1] 216) (.cells #[.int .i64 m2,.int .i64 1] 94)
   have g1':=g1 (.cells #[.int .i64 nx,.int .i64 m1] 216) (.cells #[.int .i64 m2,.int .i64 1] 94)
   have g2':=g2 (.cells #[.int .i64 nx,.int .i64 m1] 216) (.cells #[.int .i64 m2,.int .i64 1] 94)
   have g3':=g3 (.cells #[.int .i64 nx,.int .i64 m1] 216) (.cells #[.int .i64 m2,.int .i64 1] 94)
   have hB3:=hbb (.cells #[.int .i64 nx,.int .i64 m1] 216) (.cells #[.int .i64 m2,.int .i64 1] 94)
   clear hbb q0 q1 q2 q3 g0 g1 g2 g3 a0 a1 b0 b1 f0 f1 f2 f3
   go_wp2_with fail
   generalize (w2.alloc (.cells #[.int .i64 nx,.int .i64 m1] 216)).alloc (.cells #[.int .i64 m2,.int .i64 1] 94)=w3 at *
   go_region_held3 (fun w'=>w'.cell? ⟨w2.heap.size,0,none⟩=some (.int .i64 nx)∧w'.cell? ⟨w2.heap.size,1,none⟩=some (.int .i64 m1)∧w'.cell? ⟨w2.heap.size+1,0,none⟩=some (.int .i64 m2)∧w'.cell? ⟨w2.heap.size+1,1,none⟩=some (.int .i64 1))
    (first | exact ⟨s0,s1,s2,s3⟩ | exact ⟨(cso (by omega)).trans ((cso (by omega)).trans s0),(cso (by omega)).trans ((cso (by omega)).trans s1),(cso (by omega)).trans ((cso (by omega)).trans s2),(cso (by omega)).trans ((cso (by omega)).trans s3)⟩ | exact ⟨(cso (by omega)).trans ((cso (by omega)).trans ((cso (by omega)).trans ((cso (by omega)).trans s0))),(cso (by omega)).trans ((cso (by omega)).trans ((cso (by omega)).trans ((cso (by omega)).trans s1))),(cso (by omega)).trans ((cso (by omega)).trans ((cso (by omega)).trans ((cso (by omega)).trans s2))),(cso (by omega)).trans ((cso (by omega)).trans ((cso (by omega)).trans ((cso (by omega)).trans s3)))⟩) (fail)
   all_goals
    go_wp2
    exact bodyPost_ret (v:=.tuple #[.agg #[.int .i64 nx,.int .i64 m1],.agg #[.int .i64 m2,.int .i64 1]]) (by simp [results,Tryz.results222,go_sem,q0',q1',q2',q3']) rfl ⟨by rw [HM.out.1,HM.out.2],((((hB3.setCell (p:=⟨w.heap.size+1,0,none⟩) (by simp) _).setCell (p:=⟨w.heap.size+1,1,none⟩) (by simp) _).setCell (p:=⟨w.heap.size+1+1,0,none⟩) (by simp;omega) _).setCell (p:=⟨w.heap.size+1+1,1,none⟩) (by simp;omega) _).drew⟩
structure q4w (w:World) (bp g wd:Nat) (R:List Pl):Prop where
 c0:w.cell? ⟨bp,0,none⟩=some (.slice (some ⟨g,0,none⟩) R.length R.length)
 c1:w.cell? ⟨bp,1,none⟩=some (.int .i64 wd)
 pr:PwR w g R.length (fun j=>q2 (q1c R j))
theorem q4w.kept {w w':World} {bp g wd:Nat} {R:List Pl} (h:q4w w bp g wd R) (h1:w'.heap[bp]? = w.heap[bp]?) (h2:w'.heap[g]? = w.heap[g]?):q4w w' bp g wd R:=
 ⟨(World.cell?_of_block (w:=w) (a:=⟨bp,0,none⟩) h1).trans h.c0,(World.cell?_of_block (w:=w) (a:=⟨bp,1,none⟩) h1).trans h.c1,h.pr.kept h2⟩
theorem q4w.ltB {w:World} {bp g wd:Nat} {R:List Pl} (h:q4w w bp g wd R):bp<w.heap.size:=World.block_lt_of_cell? w ⟨bp,0,none⟩ h.c0
theorem q4w.ltG {w:World} {bp g wd:Nat} {R:List Pl} (h:q4w w bp g wd R):g<w.heap.size:=h.pr.row.lt
theorem q4w.alloc {w:World} {bp g wd:Nat} {R:List Pl} (h:q4w w bp g wd R) (O:Obj):q4w (w.alloc O) bp g wd R:=h.kept (Below.heap_alloc _ _ _ h.ltB) (Below.heap_alloc _ _ _ h.ltG)
theorem k9c {R:List Pl} {L M i nx dp wd c ch:Nat} {ks:List (Nat × Tr)} {t:Tr} (bp g:Nat) (w:World) (hR:R.length≤400) (h:Sp R L M i t nx dp ks) (hc:c≤wd) (hw:wd≤100) (hL:L≤400) (hM:M≤3200) (hch:ch=0∨ch=1) (hh:t.lg = -1→ch=1) (hP:q4w w bp g wd R) :
  Calls Tryz.prog 222 #[.pointer (some ⟨bp,0,none⟩),.agg #[.int .i64 i,.int .i64 c],.int .i64 ch] w fun e w'=>e = .returned (.tuple #[.agg #[.int .i64 (q2o R wd i c ch).np,.int .i64 (q2o R wd i c ch).nc],.agg #[.int .i64 (q2o R wd i c ch).o,.int .i64 (q2o R wd i c ch).l]])∧Below w.heap.size w w':=by
 have hi:(i:Int)<(R.length:Nat):=by have:=h.lt;omega
 have d:=hP.pr.get i h.lt
 have hbd:=h.bd
 have hbl:=h.bl
 rw [h.at] at d
 have hc':c≤100:=by omega
 cases t with
 | leaf x=>
  have hn:=q1r h.wf.1
  have d0:w.cell? ⟨g,i*7,none⟩=some (.int .i64 x.op):=d.c0
  rcases q4r h.wf.1 h.wf.2 with e | e | e | e | e
  ·rw [q4f h,z6x e]
   rw [e] at d0
   refine (k5w bp g R.length wd i c x.tx _ _ nx dp 0 ch w hi hw hc' (by have:=q3x (hn.2.2.2.2.1 e);omega) hP.c0 hP.c1 d0 d.c1 d.c2 d.c3 d.c4 d.c5 d.c6).mono ?_
   rintro e w2 ⟨rfl,hb⟩
   exact ⟨rfl,hb⟩
  ·rw [q4f h,q9n (.inl e)]
   rw [e] at d0
   refine (z0k 2 (.inl rfl) bp g R.length wd i c x.tx _ _ nx dp 0 ch w hi hw (by omega) hP.c0 hP.c1 d0 d.c1 d.c2 d.c3 d.c4 d.c5 d.c6).mono ?_
   rintro e w2 ⟨rfl,hb⟩
   exact ⟨rfl,hb⟩
  ·rw [q4f h,q9n (.inr (.inl e))]
   rw [e] at d0
   refine (z0k 3 (.inr (.inl rfl)) bp g R.length wd i c x.tx _ _ nx dp 0 ch w hi hw (by omega) hP.c0 hP.c1 d0 d.c1 d.c2 d.c3 d.c4 d.c5 d.c6).mono ?_
   rintro e w2 ⟨rfl,hb⟩
   exact ⟨rfl,hb⟩
  ·rw [q4f h,q9n (.inr (.inr e))]
   rw [e] at d0
   refine (z0k 4 (.inr (.inr rfl)) bp g R.length wd i c x.tx _ _ nx dp 0 ch w hi hw (by omega) hP.c0 hP.c1 d0 d.c1 d.c2 d.c3 d.c4 d.c5 d.c6).mono ?_
   rintro e w2 ⟨rfl,hb⟩
   exact ⟨rfl,hb⟩
  ·rw [q4f h,z6y e]
   rw [e] at d0
   refine (k5x bp g R.length i c x.tx _ _ nx dp 0 ch w hi hP.c0 d0 d.c1 d.c2 d.c3 d.c4 d.c5 d.c6).mono ?_
   rintro e w2 ⟨rfl,hb⟩
   exact ⟨rfl,hb⟩
 | one x a=>
  have d0:w.cell? ⟨g,i*7,none⟩=some (.int .i64 x.op):=d.c0
  have d6:w.cell? ⟨g,i*7+6,none⟩=some (.int .i64 (Tr.lg (.one x a))):=d.c6
  rcases z1n h.wf.2.1 with e | e
  ·rw [q5o h,q9m (.inr (.inl e))]
   rw [e] at d0
   have e6:Tr.lg (.one x a)=((0:Nat):Int):=by simp [Tr.lg,e]
   rw [e6] at d6
   refine (k3h 7 (.inr rfl) bp g R.length i c _ _ _ nx dp 0 ch w hR hi hP.c0 d0 d.c1 d.c2 d.c3 d.c4 d.c5 d6).mono ?_
   rintro e w2 ⟨rfl,hb⟩
   exact ⟨rfl,hb⟩
  ·have e6:Tr.lg (.one x a)=lgF a.flat:=by simp [Tr.lg,e]
   rw [e] at d0
   rcases hch with rfl | rfl
   ·have hf:∃ s,a.flat=some s:=by
     cases hf:a.flat with
     | some s=>exact ⟨s,rfl⟩
     | none=>exact absurd (hh (by rw [e6,hf];rfl)) (by omega)
    obtain ⟨s,hf⟩:=hf
    have hs:=q8e a s h.wf.2.2 hf
    have e7:Tr.lg (.one x a)=((s.length:Nat):Int):=by rw [e6,hf];rfl
    rw [q5o h,z6w e rfl,e7,Int.toNat_natCast]
    rw [e7] at d6
    refine (k5u bp g R.length wd i c _ _ _ nx dp s.length w hi hw hc' (by simp only [Tr.lf] at hbl;omega) hP.c0 hP.c1 d0 d.c1 d.c2 d.c3 d.c4 d.c5 d6).mono ?_
    rintro e w2 ⟨rfl,hb⟩
    exact ⟨rfl,hb⟩
   ·rw [q5o h,q9m (by omega)]
    cases hf:a.flat with
    | some s=>
     have e7:Tr.lg (.one x a)=((s.length:Nat):Int):=by rw [e6,hf];rfl
     rw [e7] at d6
     refine (z2t bp g R.length i c _ _ _ nx dp _ w hR hi hP.c0 d0 d.c1 d.c2 d.c3 d.c4 d.c5 d6).mono ?_
     rintro e w2 ⟨rfl,hb⟩
     exact ⟨rfl,hb⟩
    | none=>
     have e7:Tr.lg (.one x a) = -1:=by rw [e6,hf];rfl
     rw [e7] at d6
     refine (z2t bp g R.length i c _ _ _ nx dp _ w hR hi hP.c0 d0 d.c1 d.c2 d.c3 d.c4 d.c5 d6).mono ?_
     rintro e w2 ⟨rfl,hb⟩
     exact ⟨rfl,hb⟩
 | two x a b=>
  have d0:w.cell? ⟨g,i*7,none⟩=some (.int .i64 x.op):=d.c0
  obtain ⟨nx',ks',hs⟩:=h.two1
  have hi1:(i:Int)+1<(R.length:Nat):=by have:=hs.lt;omega
  rcases z0b h.wf.2.1 with e | e
  ·rw [q7m h,q9m (.inl e)]
   rw [e] at d0
   refine (k3h 6 (.inl rfl) bp g R.length i c _ _ _ nx dp 0 ch w hR hi hP.c0 d0 d.c1 d.c2 d.c3 d.c4 d.c5 d.c6).mono ?_
   rintro e w2 ⟨rfl,hb⟩
   exact ⟨rfl,hb⟩
  ·rw [e] at d0
   rcases hch with rfl | rfl
   ·rw [q7m h,q9m (by omega)]
    refine (k5v bp g R.length i c _ _ _ nx dp 0 w hR hi hP.c0 d0 d.c1 d.c2 d.c3 d.c4 d.c5 d.c6).mono ?_
    rintro e w2 ⟨rfl,hb⟩
    exact ⟨rfl,hb⟩
   ·have k:=hP.pr.get (i+1) hs.lt
    rw [hs.at] at k
    have k3:w.cell? ⟨g,(i+1)*7+3,none⟩=some (.int .i64 ((i+1+a.sz:Nat):Int)):=k.c3
    rw [q7m h,z0z e rfl]
    refine (z8c bp g R.length i c _ _ _ nx dp 0 _ w hR hi hi1 k3 hP.c0 d0 d.c1 d.c2 d.c3 d.c4 d.c5 d.c6).mono ?_
    rintro e w2 ⟨rfl,hb⟩
    exact ⟨rfl,hb⟩
end Go.Proofs.YtchdplceopegoaaGreatDoor
