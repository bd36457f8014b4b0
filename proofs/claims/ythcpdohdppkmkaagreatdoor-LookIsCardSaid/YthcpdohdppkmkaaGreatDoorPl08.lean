import Derived.Test.YthcpdohdppkmkaaGreatDoorPl07
import Derived.Maps.OwnSet
import Derived.DeepKeys4
open Go.Proofs.Tryz
namespace Go.Proofs.YthcpdohdppkmkaaGreatDoor
open Go Go.RowKit
set_option maxRecDepth 100000
set_option maxHeartbeats 8000000
theorem k8x(bp g n i c:Nat)(tx:ByteArray)(nn en:Int)(nx dp:Nat)(lg:Int)(ch:Nat)(w:World)(hi:(i:Int)<n)
  (c0:w.cell? ⟨bp,0,none⟩=some (.slice (some ⟨g,0,none⟩) n n))
  (d0:w.cell? ⟨g,i*7,none⟩=some (.int .i64 5)) (d1:w.cell? ⟨g,i*7+1,none⟩=some (.string tx)) (d2:w.cell? ⟨g,i*7+2,none⟩=some (.int .i64 nn)) (d3:w.cell? ⟨g,i*7+3,none⟩=some (.int .i64 en)) (d4:w.cell? ⟨g,i*7+4,none⟩=some (.int .i64 nx)) (d5:w.cell? ⟨g,i*7+5,none⟩=some (.int .i64 dp)) (d6:w.cell? ⟨g,i*7+6,none⟩=some (.int .i64 lg)):
  Calls prog 217 #[.pointer (some ⟨bp,0,none⟩),.agg #[.int .i64 i,.int .i64 c],.int .i64 ch] w fun e w'=>e=.returned (.tuple #[.agg #[.int .i64 nx,.int .i64 c],.agg #[.int .i64 0,.int .i64 0]])/\Below w w w':=by
 have E:(0:Int)<=(i:Int):=by omega
 have D:=World.block_lt_of_cell? w ⟨bp,0,none⟩ c0;have C:=World.block_lt_of_cell? w ⟨g,i*7,none⟩ d0;have A:∀O2 O3,(((w.alloc (.cells #[.int .i64 i,.int .i64 c] 121)).alloc O2).alloc O3).cell? ⟨w,0,none⟩=some (.int .i64 i):=fun O2 O3=>by simp[go_sem]
 have B:∀O2 O3 O4,((((w.alloc (.cells #[.int .i64 i,.int .i64 c] 121)).alloc O2).alloc O3).alloc O4).cell? ⟨w,0,none⟩=some (.int .i64 i):=fun O2 O3 O4=>ka (A O2 O3) O4
 go_in;go_wp2_with fail
 go_region_held3 (fun w'=>w'.cell? ⟨bp,0,none⟩=some (.slice (some ⟨g,0,none⟩) n n)/\w'.cell? ⟨w,0,none⟩=some (.int .i64 i)/\w'.cell? ⟨g,i*7,none⟩=some (.int .i64 5)/\w'.cell? ⟨g,i*7+1,none⟩=some (.string tx)/\w'.cell? ⟨g,i*7+2,none⟩=some (.int .i64 nn)/\w'.cell? ⟨g,i*7+3,none⟩=some (.int .i64 en)/\w'.cell? ⟨g,i*7+4,none⟩=some (.int .i64 nx)/\w'.cell? ⟨g,i*7+5,none⟩=some (.int .i64 dp)/\w'.cell? ⟨g,i*7+6,none⟩=some (.int .i64 lg))
  (first|exact⟨k3 c0 _ _ _,A _ _,k3 d0 _ _ _,k3 d1 _ _ _,k3 d2 _ _ _,k3 d3 _ _ _,k3 d4 _ _ _,k3 d5 _ _ _,k3 d6 _ _ _⟩|exact⟨k4 c0 _ _ _ _,B _ _ _,k4 d0 _ _ _ _,k4 d1 _ _ _ _,k4 d2 _ _ _ _,k4 d3 _ _ _ _,k4 d4 _ _ _ _,k4 d5 _ _ _ _,k4 d6 _ _ _ _⟩) (fail)
 all_goals
  go_wp2;exact bodyPost_ret (v:=.tuple #[.agg #[.int .i64 nx,.int .i64 c],.agg #[.int .i64 0,.int .i64 0]]) (by simp[results,Tryz.results217,go_sem]) rfl ⟨rfl,(v7t w _ _ _ _).drew⟩
theorem k5w(oq:Int)(ho:oq=6\/oq=7)(bp g n i c:Nat)(tx:ByteArray)(nn en:Int)(nx dp:Nat)(lg:Int)(ch:Nat)(w:World)(hn:n<=400)(hi:(i:Int)<n)
  (c0:w.cell? ⟨bp,0,none⟩=some (.slice (some ⟨g,0,none⟩) n n))
  (d0:w.cell? ⟨g,i*7,none⟩=some (.int .i64 oq)) (d1:w.cell? ⟨g,i*7+1,none⟩=some (.string tx)) (d2:w.cell? ⟨g,i*7+2,none⟩=some (.int .i64 nn)) (d3:w.cell? ⟨g,i*7+3,none⟩=some (.int .i64 en)) (d4:w.cell? ⟨g,i*7+4,none⟩=some (.int .i64 nx)) (d5:w.cell? ⟨g,i*7+5,none⟩=some (.int .i64 dp)) (d6:w.cell? ⟨g,i*7+6,none⟩=some (.int .i64 lg)):
  Calls prog 217 #[.pointer (some ⟨bp,0,none⟩),.agg #[.int .i64 i,.int .i64 c],.int .i64 ch] w fun e w'=>e=.returned (.tuple #[.agg #[.int .i64 ((i:Int)+1),.int .i64 c],.agg #[.int .i64 0,.int .i64 0]])/\Below w w w':=by
 have H:y3t oq:=.mk;rcases ho with rfl|rfl
 all_goals
  have E:(0:Int)<=(i:Int):=by omega
  have G:=z5o hn hi;have D:=World.block_lt_of_cell? w ⟨bp,0,none⟩ c0;have C:=World.block_lt_of_cell? w ⟨g,i*7,none⟩ d0;have A:∀O2 O3,(((w.alloc (.cells #[.int .i64 i,.int .i64 c] 121)).alloc O2).alloc O3).cell? ⟨w,0,none⟩=some (.int .i64 i):=fun O2 O3=>by simp[go_sem]
  have B:∀O2 O3 O4,((((w.alloc (.cells #[.int .i64 i,.int .i64 c] 121)).alloc O2).alloc O3).alloc O4).cell? ⟨w,0,none⟩=some (.int .i64 i):=fun O2 O3 O4=>ka (A O2 O3) O4
  go_in;go_wp2_with fail
  go_region_held3 (fun w'=>w'.cell? ⟨bp,0,none⟩=some (.slice (some ⟨g,0,none⟩) n n)/\w'.cell? ⟨w,0,none⟩=some (.int .i64 i)/\w'.cell? ⟨g,i*7,none⟩=some (.int .i64 ↑H)/\w'.cell? ⟨g,i*7+1,none⟩=some (.string tx)/\w'.cell? ⟨g,i*7+2,none⟩=some (.int .i64 nn)/\w'.cell? ⟨g,i*7+3,none⟩=some (.int .i64 en)/\w'.cell? ⟨g,i*7+4,none⟩=some (.int .i64 nx)/\w'.cell? ⟨g,i*7+5,none⟩=some (.int .i64 dp)/\w'.cell? ⟨g,i*7+6,none⟩=some (.int .i64 lg))
   (first|exact⟨k3 c0 _ _ _,A _ _,k3 d0 _ _ _,k3 d1 _ _ _,k3 d2 _ _ _,k3 d3 _ _ _,k3 d4 _ _ _,k3 d5 _ _ _,k3 d6 _ _ _⟩|exact⟨k4 c0 _ _ _ _,B _ _ _,k4 d0 _ _ _ _,k4 d1 _ _ _ _,k4 d2 _ _ _ _,k4 d3 _ _ _ _,k4 d4 _ _ _ _,k4 d5 _ _ _ _,k4 d6 _ _ _ _⟩) (fail)
  all_goals
   go_wp2;exact bodyPost_ret (v:=.tuple #[.agg #[.int .i64 ((i:Int)+1),.int .i64 c],.agg #[.int .i64 0,.int .i64 0]]) (by simp[results,Tryz.results217,go_sem]) rfl ⟨rfl,(v7t w _ _ _ _).drew⟩
theorem z3n(bp g n i c:Nat)(tx:ByteArray)(nn en:Int)(nx dp:Nat)(lg:Int)(w:World)(hn:n<=400)(hi:(i:Int)<n)
  (c0:w.cell? ⟨bp,0,none⟩=some (.slice (some ⟨g,0,none⟩) n n))
  (d0:w.cell? ⟨g,i*7,none⟩=some (.int .i64 8)) (d1:w.cell? ⟨g,i*7+1,none⟩=some (.string tx)) (d2:w.cell? ⟨g,i*7+2,none⟩=some (.int .i64 nn)) (d3:w.cell? ⟨g,i*7+3,none⟩=some (.int .i64 en)) (d4:w.cell? ⟨g,i*7+4,none⟩=some (.int .i64 nx)) (d5:w.cell? ⟨g,i*7+5,none⟩=some (.int .i64 dp)) (d6:w.cell? ⟨g,i*7+6,none⟩=some (.int .i64 lg)):
  Calls prog 217 #[.pointer (some ⟨bp,0,none⟩),.agg #[.int .i64 i,.int .i64 c],.int .i64 1] w fun e w'=>e=.returned (.tuple #[.agg #[.int .i64 ((i:Int)+1),.int .i64 c],.agg #[.int .i64 0,.int .i64 0]])/\Below w w w':=by
 have E:(0:Int)<=(i:Int):=by omega
 have G:=z5o hn hi;have D:=World.block_lt_of_cell? w ⟨bp,0,none⟩ c0;have C:=World.block_lt_of_cell? w ⟨g,i*7,none⟩ d0;have A:∀O2 O3,(((w.alloc (.cells #[.int .i64 i,.int .i64 c] 121)).alloc O2).alloc O3).cell? ⟨w,0,none⟩=some (.int .i64 i):=fun O2 O3=>by simp[go_sem]
 have B:∀O2 O3 O4,((((w.alloc (.cells #[.int .i64 i,.int .i64 c] 121)).alloc O2).alloc O3).alloc O4).cell? ⟨w,0,none⟩=some (.int .i64 i):=fun O2 O3 O4=>ka (A O2 O3) O4
 go_in;go_wp2_with fail
 go_region_held3 (fun w'=>w'.cell? ⟨bp,0,none⟩=some (.slice (some ⟨g,0,none⟩) n n)/\w'.cell? ⟨w,0,none⟩=some (.int .i64 i)/\w'.cell? ⟨g,i*7,none⟩=some (.int .i64 8)/\w'.cell? ⟨g,i*7+1,none⟩=some (.string tx)/\w'.cell? ⟨g,i*7+2,none⟩=some (.int .i64 nn)/\w'.cell? ⟨g,i*7+3,none⟩=some (.int .i64 en)/\w'.cell? ⟨g,i*7+4,none⟩=some (.int .i64 nx)/\w'.cell? ⟨g,i*7+5,none⟩=some (.int .i64 dp)/\w'.cell? ⟨g,i*7+6,none⟩=some (.int .i64 lg))
  (first|exact⟨k3 c0 _ _ _,A _ _,k3 d0 _ _ _,k3 d1 _ _ _,k3 d2 _ _ _,k3 d3 _ _ _,k3 d4 _ _ _,k3 d5 _ _ _,k3 d6 _ _ _⟩|exact⟨k4 c0 _ _ _ _,B _ _ _,k4 d0 _ _ _ _,k4 d1 _ _ _ _,k4 d2 _ _ _ _,k4 d3 _ _ _ _,k4 d4 _ _ _ _,k4 d5 _ _ _ _,k4 d6 _ _ _ _⟩) (fail)
 all_goals
  go_wp2;exact bodyPost_ret (v:=.tuple #[.agg #[.int .i64 ((i:Int)+1),.int .i64 c],.agg #[.int .i64 0,.int .i64 0]]) (by simp[results,Tryz.results217,go_sem]) rfl ⟨rfl,(v7t w _ _ _ _).drew⟩
theorem k8v(bp g n i c:Nat)(tx:ByteArray)(nn en:Int)(nx dp:Nat)(lg:Int)(w:World)(hn:n<=400)(hi:(i:Int)<n)
  (c0:w.cell? ⟨bp,0,none⟩=some (.slice (some ⟨g,0,none⟩) n n))
  (d0:w.cell? ⟨g,i*7,none⟩=some (.int .i64 9)) (d1:w.cell? ⟨g,i*7+1,none⟩=some (.string tx)) (d2:w.cell? ⟨g,i*7+2,none⟩=some (.int .i64 nn)) (d3:w.cell? ⟨g,i*7+3,none⟩=some (.int .i64 en)) (d4:w.cell? ⟨g,i*7+4,none⟩=some (.int .i64 nx)) (d5:w.cell? ⟨g,i*7+5,none⟩=some (.int .i64 dp)) (d6:w.cell? ⟨g,i*7+6,none⟩=some (.int .i64 lg)):
  Calls prog 217 #[.pointer (some ⟨bp,0,none⟩),.agg #[.int .i64 i,.int .i64 c],.int .i64 0] w fun e w'=>e=.returned (.tuple #[.agg #[.int .i64 ((i:Int)+1),.int .i64 c],.agg #[.int .i64 0,.int .i64 0]])/\Below w w w':=by
 have E:(0:Int)<=(i:Int):=by omega
 have G:=z5o hn hi;have D:=World.block_lt_of_cell? w ⟨bp,0,none⟩ c0;have C:=World.block_lt_of_cell? w ⟨g,i*7,none⟩ d0;have A:∀O2 O3,(((w.alloc (.cells #[.int .i64 i,.int .i64 c] 121)).alloc O2).alloc O3).cell? ⟨w,0,none⟩=some (.int .i64 i):=fun O2 O3=>by simp[go_sem]
 have B:∀O2 O3 O4,((((w.alloc (.cells #[.int .i64 i,.int .i64 c] 121)).alloc O2).alloc O3).alloc O4).cell? ⟨w,0,none⟩=some (.int .i64 i):=fun O2 O3 O4=>ka (A O2 O3) O4
 go_in;go_wp2_with fail
 go_region_held3 (fun w'=>w'.cell? ⟨bp,0,none⟩=some (.slice (some ⟨g,0,none⟩) n n)/\w'.cell? ⟨w,0,none⟩=some (.int .i64 i)/\w'.cell? ⟨g,i*7,none⟩=some (.int .i64 9)/\w'.cell? ⟨g,i*7+1,none⟩=some (.string tx)/\w'.cell? ⟨g,i*7+2,none⟩=some (.int .i64 nn)/\w'.cell? ⟨g,i*7+3,none⟩=some (.int .i64 en)/\w'.cell? ⟨g,i*7+4,none⟩=some (.int .i64 nx)/\w'.cell? ⟨g,i*7+5,none⟩=some (.int .i64 dp)/\w'.cell? ⟨g,i*7+6,none⟩=some (.int .i64 lg))
  (first|exact⟨k3 c0 _ _ _,A _ _,k3 d0 _ _ _,k3 d1 _ _ _,k3 d2 _ _ _,k3 d3 _ _ _,k3 d4 _ _ _,k3 d5 _ _ _,k3 d6 _ _ _⟩|exact⟨k4 c0 _ _ _ _,B _ _ _,k4 d0 _ _ _ _,k4 d1 _ _ _ _,k4 d2 _ _ _ _,k4 d3 _ _ _ _,k4 d4 _ _ _ _,k4 d5 _ _ _ _,k4 d6 _ _ _ _⟩) (fail)
 all_goals
  go_wp2;exact bodyPost_ret (v:=.tuple #[.agg #[.int .i64 ((i:Int)+1),.int .i64 c],.agg #[.int .i64 0,.int .i64 0]]) (by simp[results,Tryz.results217,go_sem]) rfl ⟨rfl,(v7t w _ _ _ _).drew⟩
theorem k0i(bp g n i c:Nat)(tx:ByteArray)(nn en:Int)(nx dp:Nat)(lg:Int)(x:Int)(w:World)(hn:n<=400)(hi:(i:Int)<n)(E:(i:Int)+1<n)(dx:w.cell? ⟨g,(i+1)*7+3,none⟩=some (.int .i64 x))
  (c0:w.cell? ⟨bp,0,none⟩=some (.slice (some ⟨g,0,none⟩) n n))
  (d0:w.cell? ⟨g,i*7,none⟩=some (.int .i64 9)) (d1:w.cell? ⟨g,i*7+1,none⟩=some (.string tx)) (d2:w.cell? ⟨g,i*7+2,none⟩=some (.int .i64 nn)) (d3:w.cell? ⟨g,i*7+3,none⟩=some (.int .i64 en)) (d4:w.cell? ⟨g,i*7+4,none⟩=some (.int .i64 nx)) (d5:w.cell? ⟨g,i*7+5,none⟩=some (.int .i64 dp)) (d6:w.cell? ⟨g,i*7+6,none⟩=some (.int .i64 lg)):
  Calls prog 217 #[.pointer (some ⟨bp,0,none⟩),.agg #[.int .i64 i,.int .i64 c],.int .i64 1] w fun e w'=>e=.returned (.tuple #[.agg #[.int .i64 x,.int .i64 c],.agg #[.int .i64 0,.int .i64 0]])/\Below w w w':=by
 have H:(0:Int)<=(i:Int):=by omega
 have K:=z5o hn hi;have G:=World.block_lt_of_cell? w ⟨bp,0,none⟩ c0;have D:=World.block_lt_of_cell? w ⟨g,i*7,none⟩ d0;have A:∀O2 O3,(((w.alloc (.cells #[.int .i64 i,.int .i64 c] 121)).alloc O2).alloc O3).cell? ⟨w,0,none⟩=some (.int .i64 i):=fun O2 O3=>by simp[go_sem]
 have B:∀O2 O3 O4,((((w.alloc (.cells #[.int .i64 i,.int .i64 c] 121)).alloc O2).alloc O3).alloc O4).cell? ⟨w,0,none⟩=some (.int .i64 i):=fun O2 O3 O4=>ka (A O2 O3) O4
 have C:∀O2 O3 O4,((((w.alloc (.cells #[.int .i64 i,.int .i64 c] 121)).alloc O2).alloc O3).alloc O4).cell? ⟨w,1,none⟩=some (.int .i64 c):=fun O2 O3 O4=>by simp[go_sem]
 have I:(0:Int)<=(i:Int)+1:=by omega
 have J:((i:Int)+1).toNat=i+1:=by omega
 go_in;go_wp2_with fail
 go_region_held3 (fun w'=>w'.cell? ⟨bp,0,none⟩=some (.slice (some ⟨g,0,none⟩) n n)/\w'.cell? ⟨w,0,none⟩=some (.int .i64 i)/\w'.cell? ⟨g,i*7,none⟩=some (.int .i64 9)/\w'.cell? ⟨g,i*7+1,none⟩=some (.string tx)/\w'.cell? ⟨g,i*7+2,none⟩=some (.int .i64 nn)/\w'.cell? ⟨g,i*7+3,none⟩=some (.int .i64 en)/\w'.cell? ⟨g,i*7+4,none⟩=some (.int .i64 nx)/\w'.cell? ⟨g,i*7+5,none⟩=some (.int .i64 dp)/\w'.cell? ⟨g,i*7+6,none⟩=some (.int .i64 lg))
  (first|exact⟨k3 c0 _ _ _,A _ _,k3 d0 _ _ _,k3 d1 _ _ _,k3 d2 _ _ _,k3 d3 _ _ _,k3 d4 _ _ _,k3 d5 _ _ _,k3 d6 _ _ _⟩|exact⟨k4 c0 _ _ _ _,B _ _ _,k4 d0 _ _ _ _,k4 d1 _ _ _ _,k4 d2 _ _ _ _,k4 d3 _ _ _ _,k4 d4 _ _ _ _,k4 d5 _ _ _ _,k4 d6 _ _ _ _⟩) (fail)
 all_goals
  go_wp2_with fail
  go_region_held3 (fun w'=>w'.cell? ⟨bp,0,none⟩=some (.slice (some ⟨g,0,none⟩) n n)/\w'.cell? ⟨w,0,none⟩=some (.int .i64 i)/\w'.cell? ⟨w,1,none⟩=some (.int .i64 c)/\w'.cell? ⟨g,(i+1)*7+3,none⟩=some (.int .i64 x))
   (exact⟨k4 c0 _ _ _ _,B _ _ _,C _ _ _,k4 dx _ _ _ _⟩) (fail)
  all_goals
   go_wp2;exact bodyPost_ret (v:=.tuple #[.agg #[.int .i64 x,.int .i64 c],.agg #[.int .i64 0,.int .i64 0]]) (by simp[results,Tryz.results217,go_sem]) rfl ⟨rfl,(v7t w _ _ _ _).drew.drew⟩
set_option maxHeartbeats 16000000
instance cellInt{w:World}{p:Addr}{v:Int}(h:w.cell? p=some (.int .i64 v)):CoeDep (w.cell? p=some (.int .i64 v)) h Int:=⟨v⟩
theorem z1k(op:Int)(ho:op=2\/op=3\/op=4)(bp g n wd i c:Nat)(tx:ByteArray)(nn en:Int)(nx dp:Nat)(lg:Int)(ch:Nat)(w:World)(hi:(i:Int)<n)(hw:wd<=100)(hk:dp<=20000)
  (c0:w.cell? ⟨bp,0,none⟩=some (.slice (some ⟨g,0,none⟩) n n)) (c1:w.cell? ⟨bp,1,none⟩=some (.int .i64 wd))
  (d0:w.cell? ⟨g,i*7,none⟩=some (.int .i64 op)) (d1:w.cell? ⟨g,i*7+1,none⟩=some (.string tx)) (d2:w.cell? ⟨g,i*7+2,none⟩=some (.int .i64 nn)) (d3:w.cell? ⟨g,i*7+3,none⟩=some (.int .i64 en)) (d4:w.cell? ⟨g,i*7+4,none⟩=some (.int .i64 nx)) (d5:w.cell? ⟨g,i*7+5,none⟩=some (.int .i64 dp)) (d6:w.cell? ⟨g,i*7+6,none⟩=some (.int .i64 lg)):
  Calls prog 217 #[.pointer (some ⟨bp,0,none⟩),.agg #[.int .i64 i,.int .i64 c],.int .i64 ch] w fun e w'=>e=.returned (.tuple #[.agg #[.int .i64 nx,.int .i64 ((min dp wd:Nat):Int)],.agg #[.int .i64 ((dp-wd:Nat):Int),.int .i64 1]])/\Below w w w':=by
 have Aa:(0:Int)<=(i:Int):=by omega
 have z:=World.block_lt_of_cell? w ⟨bp,0,none⟩ c0;have l:=World.block_lt_of_cell? w ⟨g,i*7,none⟩ d0;have I:∀O2 O3,(((w.alloc (.cells #[.int .i64 i,.int .i64 c] 121)).alloc O2).alloc O3).cell? ⟨w,0,none⟩=some (.int .i64 i):=fun O2 O3=>by simp[go_sem]
 have K:∀O2 O3 O4,((((w.alloc (.cells #[.int .i64 i,.int .i64 c] 121)).alloc O2).alloc O3).alloc O4).cell? ⟨w,0,none⟩=some (.int .i64 i):=fun O2 O3 O4=>ka (I O2 O3) O4
 rcases ho with rfl|rfl|rfl
 all_goals
  go_in;go_wp2_with fail
  go_region_held3 (fun w'=>w'.cell? ⟨bp,0,none⟩=some (.slice (some ⟨g,0,none⟩) n n)/\w'.cell? ⟨w,0,none⟩=some (.int .i64 i)/\w'.cell? ⟨g,i*7,none⟩=some (.int .i64 (d0:Int))/\w'.cell? ⟨g,i*7+1,none⟩=some (.string tx)/\w'.cell? ⟨g,i*7+2,none⟩=some (.int .i64 nn)/\w'.cell? ⟨g,i*7+3,none⟩=some (.int .i64 en)/\w'.cell? ⟨g,i*7+4,none⟩=some (.int .i64 nx)/\w'.cell? ⟨g,i*7+5,none⟩=some (.int .i64 dp)/\w'.cell? ⟨g,i*7+6,none⟩=some (.int .i64 lg))
   (first|exact⟨k3 c0 _ _ _,I _ _,k3 d0 _ _ _,k3 d1 _ _ _,k3 d2 _ _ _,k3 d3 _ _ _,k3 d4 _ _ _,k3 d5 _ _ _,k3 d6 _ _ _⟩|exact⟨k4 c0 _ _ _ _,K _ _ _,k4 d0 _ _ _ _,k4 d1 _ _ _ _,k4 d2 _ _ _ _,k4 d3 _ _ _ _,k4 d4 _ _ _ _,k4 d5 _ _ _ _,k4 d6 _ _ _ _⟩) (fail)
  all_goals
   go_wp2_with fail;refine(k3e bp wd nx dp _ hw hk (k4d c1 _ _ _ _)).mono ?_;rintro e A⟨rfl,D⟩;obtain⟨B,C⟩:=q1z D;have Ab:w.heap.size+1+1+1+1<=A.heap.size:=by have:=D.size;simpa using this
   have V:A.cell? ⟨w.heap.size+1,0,none⟩=some (.int .i64 0):=(B _ _ (by simp)).trans (by simp[go_sem]);have W:A.cell? ⟨w.heap.size+1,1,none⟩=some (.int .i64 0):=(B _ _ (by simp)).trans (by simp[go_sem]);have X:A.cell? ⟨w.heap.size+1+1,0,none⟩=some (.int .i64 0):=(B _ _ (by simp)).trans (by simp[go_sem]);have Y:A.cell? ⟨w.heap.size+1+1,1,none⟩=some (.int .i64 0):=(B _ _ (by simp)).trans (by simp[go_sem]);have Z:A.frozen? ⟨w.heap.size+1,0,none⟩=false:=(C _ _ (by simp)).trans (by simp[go_sem]);have a:A.frozen? ⟨w.heap.size+1,1,none⟩=false:=(C _ _ (by simp)).trans (by simp[go_sem]);have b:A.frozen? ⟨w.heap.size+1+1,0,none⟩=false:=(C _ _ (by simp)).trans (by simp[go_sem]);have d:A.frozen? ⟨w.heap.size+1+1,1,none⟩=false:=(C _ _ (by simp)).trans (by simp[go_sem]);have y:Below w w A:=(v7t w _ _ _ _).drew.trans (D.mono (by simp;omega));clear B C D;have m:=fun O1 O2=>ka (ka V O1) O2
   have o:=fun O1 O2=>ka (ka W O1) O2
   have q:=fun O1 O2=>ka (ka X O1) O2
   have r:=fun O1 O2=>ka (ka Y O1) O2
   have f:∀O1 O2,((A.alloc O1).alloc O2).frozen? ⟨w.heap.size+1,0,none⟩=false:=fun O1 O2=>kaf (by simp;omega) (kaf (by omega) Z O1) O2
   have h:∀O1 O2,((A.alloc O1).alloc O2).frozen? ⟨w.heap.size+1,1,none⟩=false:=fun O1 O2=>kaf (by simp;omega) (kaf (by omega) a O1) O2
   have j:∀O1 O2,((A.alloc O1).alloc O2).frozen? ⟨w.heap.size+1+1,0,none⟩=false:=fun O1 O2=>kaf (by simp;omega) (kaf (by omega) b O1) O2
   have k:∀O1 O2,((A.alloc O1).alloc O2).frozen? ⟨w.heap.size+1+1,1,none⟩=false:=fun O1 O2=>kaf (by simp;omega) (kaf (by omega) d O1) O2
   have E:∀O1 O2,Below w w ((A.alloc O1).alloc O2):=fun O1 O2=>(y.alloc (by omega) O1).alloc (by simp;omega) O2
   generalize G:((min dp wd:Nat):Int)=m1 at *;generalize H:((dp-wd:Nat):Int)=m2 at *;have U:Hid (((min dp wd:Nat):Int)=m1/\((dp-wd:Nat):Int)=m2):=⟨G,H⟩;clear G H;have P:((A.alloc (.cells #[.int .i64 nx,.int .i64 m1] 121)).alloc (.cells #[.int .i64 m2,.int .i64 1] 57)).cell? ⟨A,0,none⟩=some (.int .i64 nx):=by simp[go_sem]
   have Q:((A.alloc (.cells #[.int .i64 nx,.int .i64 m1] 121)).alloc (.cells #[.int .i64 m2,.int .i64 1] 57)).cell? ⟨A,1,none⟩=some (.int .i64 m1):=by simp[go_sem]
   have R:((A.alloc (.cells #[.int .i64 nx,.int .i64 m1] 121)).alloc (.cells #[.int .i64 m2,.int .i64 1] 57)).cell? ⟨A.heap.size+1,0,none⟩=some (.int .i64 m2):=by simp[go_sem]
   have S:((A.alloc (.cells #[.int .i64 nx,.int .i64 m1] 121)).alloc (.cells #[.int .i64 m2,.int .i64 1] 57)).cell? ⟨A.heap.size+1,1,none⟩=some (.int .i64 1):=by simp[go_sem]
   have L:=m (.cells #[.int .i64 nx,.int .i64 m1] 121) (.cells #[.int .i64 m2,.int .i64 1] 57);have M:=o (.cells #[.int .i64 nx,.int .i64 m1] 121) (.cells #[.int .i64 m2,.int .i64 1] 57);have N:=q (.cells #[.int .i64 nx,.int .i64 m1] 121) (.cells #[.int .i64 m2,.int .i64 1] 57);have O:=r (.cells #[.int .i64 nx,.int .i64 m1] 121) (.cells #[.int .i64 m2,.int .i64 1] 57);have s:=f (.cells #[.int .i64 nx,.int .i64 m1] 121) (.cells #[.int .i64 m2,.int .i64 1] 57);have t:=h (.cells #[.int .i64 nx,.int .i64 m1] 121) (.cells #[.int .i64 m2,.int .i64 1] 57);have u:=j (.cells #[.int .i64 nx,.int .i64 m1] 121) (.cells #[.int .i64 m2,.int .i64 1] 57);have x:=k (.cells #[.int .i64 nx,.int .i64 m1] 121) (.cells #[.int .i64 m2,.int .i64 1] 57);have J:=E (.cells #[.int .i64 nx,.int .i64 m1] 121) (.cells #[.int .i64 m2,.int .i64 1] 57);clear E m o q r f h j k V W X Y Z a b d;go_wp2_with fail
   generalize(A.alloc (.cells #[.int .i64 nx,.int .i64 m1] 121)).alloc (.cells #[.int .i64 m2,.int .i64 1] 57)=w3 at *
   go_region_held3 (fun w'=>w'.cell? ⟨A,0,none⟩=some (.int .i64 nx)/\w'.cell? ⟨A,1,none⟩=some (.int .i64 m1)/\w'.cell? ⟨A.heap.size+1,0,none⟩=some (.int .i64 m2)/\w'.cell? ⟨A.heap.size+1,1,none⟩=some (.int .i64 1))
    (first|exact⟨P,Q,R,S⟩|exact⟨(cso (by omega)).trans ((cso (by omega)).trans P),(cso (by omega)).trans ((cso (by omega)).trans Q),(cso (by omega)).trans ((cso (by omega)).trans R),(cso (by omega)).trans ((cso (by omega)).trans S)⟩|exact⟨(cso (by omega)).trans ((cso (by omega)).trans ((cso (by omega)).trans ((cso (by omega)).trans P))),(cso (by omega)).trans ((cso (by omega)).trans ((cso (by omega)).trans ((cso (by omega)).trans Q))),(cso (by omega)).trans ((cso (by omega)).trans ((cso (by omega)).trans ((cso (by omega)).trans R))),(cso (by omega)).trans ((cso (by omega)).trans ((cso (by omega)).trans ((cso (by omega)).trans S)))⟩) (fail)
   all_goals
    go_wp2;exact bodyPost_ret (v:=.tuple #[.agg #[.int .i64 nx,.int .i64 m1],.agg #[.int .i64 m2,.int .i64 1]]) (by simp[results,Tryz.results217,go_sem,L,M,N,O]) rfl ⟨by rw[U.o.1,U.o.2],((((J.setCell (p:=⟨w.heap.size+1,0,none⟩) (by simp) _).setCell (p:=⟨w.heap.size+1,1,none⟩) (by simp) _).setCell (p:=⟨w.heap.size+1+1,0,none⟩) (by simp;omega) _).setCell (p:=⟨w.heap.size+1+1,1,none⟩) (by simp;omega) _).drew⟩
structure q6a(w:World)(bp g wd:Nat)(R:List Pl):Prop where
 c0:w.cell? ⟨bp,0,none⟩=some (.slice (some ⟨g,0,none⟩) R.length R.length)
 c1:w.cell? ⟨bp,1,none⟩=some (.int .i64 wd)
 pr:PwR w g R.length (fun j=>q2 (q1p R j))
theorem q6a.kept{w w':World}{bp g wd:Nat}{R:List Pl}(h:q6a w bp g wd R)(h1:w'.heap[bp]?=w.heap[bp]?)(h2:w'.heap[g]?=w.heap[g]?):q6a w' bp g wd R:=
 ⟨(World.cell?_of_block (w:=w) (a:=⟨bp,0,none⟩) h1).trans h.c0,(World.cell?_of_block (w:=w) (a:=⟨bp,1,none⟩) h1).trans h.c1,h.pr.kept h2⟩
theorem q6a.ltB{w:World}{bp g wd:Nat}{R:List Pl}(h:q6a w bp g wd R):bp<w.heap.size:=World.block_lt_of_cell? w ⟨bp,0,none⟩ h.c0
theorem q6a.ltG{w:World}{bp g wd:Nat}{R:List Pl}(h:q6a w bp g wd R):g<w.heap.size:=h.pr.row.lt
theorem q6a.alloc{w:World}{bp g wd:Nat}{R:List Pl}(h:q6a w bp g wd R)(O:Obj):q6a (w.alloc O) bp g wd R:=h.kept (Below.heap_alloc _ _ _ h.ltB) (Below.heap_alloc _ _ _ h.ltG)
theorem j2r{R:List Pl}{L M i nx dp wd c ch:Nat}{ks:List (Nat × Tr)}{t:Tr}(bp g:Nat)(w:World)(hR:R.length<=400)(h:Sp R L M i t nx dp ks)(hc:c<=wd)(hw:wd<=100)(hL:L<=400)(hM:M<=3200)(K:ch=0\/ch=1)(hh:t.lg=-1->ch=1)(hP:q6a w bp g wd R):
  Calls prog 217 #[.pointer (some ⟨bp,0,none⟩),.agg #[.int .i64 i,.int .i64 c],.int .i64 ch] w fun e w'=>e=.returned (.tuple #[.agg #[.int .i64 (q3i R wd i c ch).np,.int .i64 (q3i R wd i c ch).nc],.agg #[.int .i64 (q3i R wd i c ch).o,.int .i64 (q3i R wd i c ch).l]])/\Below w w w':=by
 have C:(i:Int)<(R.length:Nat):=by have:=h.lt;omega
 have d:=hP.pr.get i h.lt;have Q:=h.bd;have O:=h.bl;rw[h.at]at d;have J:c<=100:=by omega
 cases t with
 | leaf x=>
  have S:=q2c h.wf.1;have A:w.cell? ⟨g,i*7,none⟩=some (.int .i64 x.op):=d.c0;rcases q3y h.wf.1 h.wf.2 with e|e|e|e|e
  ·rw[q5g h,z8s e];rw[e]at A;refine(k8w bp g R.length wd i c x.tx _ _ nx dp 0 ch w C hw J (by have:=q4d (S.2.2.2.2.1 e);omega) hP.c0 hP.c1 A d.c1 d.c2 d.c3 d.c4 d.c5 d.c6).mono ?_;rintro e D⟨rfl,B⟩;exact⟨rfl,B⟩
  ·rw[q5g h,z0f (.inl e)];rw[e]at A;refine(z1k 2 (.inl rfl) bp g R.length wd i c x.tx _ _ nx dp 0 ch w C hw (by omega) hP.c0 hP.c1 A d.c1 d.c2 d.c3 d.c4 d.c5 d.c6).mono ?_;rintro e D⟨rfl,B⟩;exact⟨rfl,B⟩
  ·rw[q5g h,z0f (.inr (.inl e))];rw[e]at A;refine(z1k 3 (.inr (.inl rfl)) bp g R.length wd i c x.tx _ _ nx dp 0 ch w C hw (by omega) hP.c0 hP.c1 A d.c1 d.c2 d.c3 d.c4 d.c5 d.c6).mono ?_;rintro e D⟨rfl,B⟩;exact⟨rfl,B⟩
  ·rw[q5g h,z0f (.inr (.inr e))];rw[e]at A;refine(z1k 4 (.inr (.inr rfl)) bp g R.length wd i c x.tx _ _ nx dp 0 ch w C hw (by omega) hP.c0 hP.c1 A d.c1 d.c2 d.c3 d.c4 d.c5 d.c6).mono ?_;rintro e D⟨rfl,B⟩;exact⟨rfl,B⟩
  ·rw[q5g h,z8t e];rw[e]at A;refine(k8x bp g R.length i c x.tx _ _ nx dp 0 ch w C hP.c0 A d.c1 d.c2 d.c3 d.c4 d.c5 d.c6).mono ?_;rintro e D⟨rfl,B⟩;exact⟨rfl,B⟩
 | one x a=>
  have A:w.cell? ⟨g,i*7,none⟩=some (.int .i64 x.op):=d.c0;have G:w.cell? ⟨g,i*7+6,none⟩=some (.int .i64 (Tr.lg (.one x a))):=d.c6;rcases q7y h.wf.2.1 with e|e
  ·rw[q6w h,z0e (.inr (.inl e))];rw[e]at A;have H:Tr.lg (.one x a)=((0:Nat):Int):=by simp[Tr.lg,e]
   rw[H]at G;refine(k5w 7 (.inr rfl) bp g R.length i c _ _ _ nx dp 0 ch w hR C hP.c0 A d.c1 d.c2 d.c3 d.c4 d.c5 G).mono ?_;rintro e D⟨rfl,B⟩;exact⟨rfl,B⟩
  ·have H:Tr.lg (.one x a)=lgF a.flat:=by simp[Tr.lg,e]
   rw[e]at A;rcases K with rfl|rfl
   ·have E:∃s,a.flat=some s:=by
     cases E:a.flat with
     | some s=>exact⟨s,rfl⟩
     | none=>exact absurd (hh (by rw[H,E];rfl)) (by omega)
    obtain⟨s,E⟩:=E;have N:=q9h a s h.wf.2.2 E;have I:Tr.lg (.one x a)=((s.length:Nat):Int):=by rw[H,E];rfl
    rw[q6w h,z8r e rfl,I,Int.toNat_natCast];rw[I]at G;refine(k8u bp g R.length wd i c _ _ _ nx dp s.length w C hw J (by simp only[Tr.lf]at O;omega) hP.c0 hP.c1 A d.c1 d.c2 d.c3 d.c4 d.c5 G).mono ?_;rintro e D⟨rfl,B⟩;exact⟨rfl,B⟩
   ·rw[q6w h,z0e (by omega)];cases E:a.flat with
    | some s=>
     have I:Tr.lg (.one x a)=((s.length:Nat):Int):=by rw[H,E];rfl
     rw[I]at G;refine(z3n bp g R.length i c _ _ _ nx dp _ w hR C hP.c0 A d.c1 d.c2 d.c3 d.c4 d.c5 G).mono ?_;rintro e D⟨rfl,B⟩;exact⟨rfl,B⟩
    | none=>
     have I:Tr.lg (.one x a)=-1:=by rw[H,E];rfl
     rw[I]at G;refine(z3n bp g R.length i c _ _ _ nx dp _ w hR C hP.c0 A d.c1 d.c2 d.c3 d.c4 d.c5 G).mono ?_;rintro e D⟨rfl,B⟩;exact⟨rfl,B⟩
 | two x a b=>
  have A:w.cell? ⟨g,i*7,none⟩=some (.int .i64 x.op):=d.c0;obtain⟨W,V,N⟩:=h.two1;have P:(i:Int)+1<(R.length:Nat):=by have:=N.lt;omega
  rcases q7k h.wf.2.1 with e|e
  ·rw[q8n h,z0e (.inl e)];rw[e]at A;refine(k5w 6 (.inl rfl) bp g R.length i c _ _ _ nx dp 0 ch w hR C hP.c0 A d.c1 d.c2 d.c3 d.c4 d.c5 d.c6).mono ?_;rintro e D⟨rfl,B⟩;exact⟨rfl,B⟩
  ·rw[e]at A;rcases K with rfl|rfl
   ·rw[q8n h,z0e (by omega)];refine(k8v bp g R.length i c _ _ _ nx dp 0 w hR C hP.c0 A d.c1 d.c2 d.c3 d.c4 d.c5 d.c6).mono ?_;rintro e D⟨rfl,B⟩;exact⟨rfl,B⟩
   ·have k:=hP.pr.get (i+1) N.lt;rw[N.at]at k;have U:w.cell? ⟨g,(i+1)*7+3,none⟩=some (.int .i64 ((i+1+a.sz:Nat):Int)):=k.c3;rw[q8n h,z1w e rfl];refine(k0i bp g R.length i c _ _ _ nx dp 0 _ w hR C P U hP.c0 A d.c1 d.c2 d.c3 d.c4 d.c5 d.c6).mono ?_;rintro e D⟨rfl,B⟩;exact⟨rfl,B⟩
end Go.Proofs.YthcpdohdppkmkaaGreatDoor
namespace Go.Proofs.YthcpdohdppkmkaaGreatDoor
open Go Go.RowKit Go.Maps
theorem v4t:laidOutB prog=true:=by kernel_rfl
theorem g0k:(121:TypeId)<prog.types.size:=of_decide_eq_true (by kernel_rfl)
theorem mkt:prog.keyTypeAt 3 121=true:=by kernel_rfl
theorem y3w:Keyed prog 121:=Keyed.of_law (deep_law_laid v4t (m:=3) (by omega) g0k mkt (by rw[Tryz.underlying121]))
theorem y9a:prog.keyType 121=true:=by kernel_rfl
theorem v8j:prog.cellsOf 121=2:=by kernel_rfl
theorem y2d:prog.cellsOf 3=1:=by kernel_rfl
theorem y8z:∃d,prog.types.size=d+1:=⟨403-1,by kernel_rfl⟩
theorem y5k(w:World):(zeroValue 123).run prog w=.ok (.agg #[.int .i64 0,.int .i64 0,.int .i64 0,.int .i64 0,.int .i64 0]) w:=by kernel_rfl
theorem y9y{n:Nat}(h:n<=1000000):(Lit.int .i64 (n:Int)).wf=true:=WalkArith.wf_i64 (by omega)
theorem y8y{p c:Nat}(hp:p<=1000000)(hc:c<=1000000):∃kl,keyOf prog 121 (.agg #[.int .i64 (p:Int),.int .i64 (c:Int)])=some kl:=by
 obtain⟨d,C⟩:=y8z;have A:=y9y hp;have B:=y9y hc
 have D:(Value.agg #[.int .i64 (p:Int),.int .i64 (c:Int)]).formed prog 121=true:=by
  simp[Value.formed,Tryz.underlying121,v8j]
 refine⟨.string (keyBytes [.int .i64 p,.int .i64 c]),?_⟩;unfold keyOf;rw[Tryz.underlying121];simp only[y9a,D,Bool.and_self,if_true,C];simp[Program.keyLits,Tryz.underlying121,Tryz.underlying3,v8j,y2d,Value.cells,A,B]
def cvV(k:Cv):Value:=.agg #[.int .i64 k.o,.int .i64 k.l,.int .i64 k.ch,.int .i64 k.np,.int .i64 k.nc]
def zCv:Cv:=⟨0,0,0,0,0⟩
def cvR(v:Value):Option (DataW Value × List MemPlace):=some (.held v,[])
def y7r(S:Nat->Nat->Bool):Nat:=(List.range 40501).countP fun k=>S (k / 101) (k % 101)
theorem y0o(S:Nat->Nat->Bool):y7r S<=40501:=by
 have:=List.countP_le_length (p:=fun k=>S (k / 101) (k % 101)) (l:=List.range 40501)
 rw[List.length_range]at this;exact this
def z9v(S:Nat->Nat->Bool)(p c:Nat):Nat->Nat->Bool:=fun p' c'=>S p' c'||(decide (p'=p)&&decide (c'=c))
theorem z5v{f g:Nat->Bool}(k:Nat):∀(l:List Nat),k∈l->(∀x,f x=true->g x=true)->f k=false->g k=true->l.countP f+1<=l.countP g
 | [],h,_,_,_=>by simp at h
 | a::l,h,h1,h2,h3=>by
  have hm:l.countP f<=l.countP g:=List.countP_mono_left fun x _=>h1 x
  rw[List.countP_cons,List.countP_cons];by_cases e:a=k
  ·subst e;rw[h2,h3];simp;omega
  ·have h4:=z5v k l (by rcases List.mem_cons.1 h with h|h;exact absurd h.symm e;exact h) h1 h2 h3;cases hf:f a with
   | true=>rw[h1 a hf];omega
   | false=>simp only[Bool.false_eq_true,if_false,Nat.add_zero];exact Nat.le_trans h4 (Nat.le_add_right _ _)
theorem v2s{S:Nat->Nat->Bool}{p c:Nat}(hp:p<=400)(hc:c<=100)(h:S p c=false):y7r S+1<=y7r (z9v S p c):=by
 have A:(p*101+c) / 101=p:=by omega
 have B:(p*101+c) % 101=c:=by omega
 refine z5v (p*101+c) _ (List.mem_range.2 (by omega)) (fun x hx=>?_) ?_ ?_
 ·simp only[z9v,hx,Bool.true_or]
 ·rw[A,B];exact h
 ·simp[z9v,A,B]
def Mem(w:World)(b:Nat)(C:Nat->Nat->Cv)(S:Nat->Nat->Bool):Prop:=
 ∃D n,w.ownsMap prog 121 cvR b n D/\n<=y7r S/\∀p c:Nat,p<=400->c<=100->∀kl,keyOf prog 121 (.agg #[.int .i64 (p:Int),.int .i64 (c:Int)])=some kl->
  Maps.has D kl=S p c/\D.atKey kl (.held (cvV zCv))=.held (cvV (if S p c=true then C p c else zCv))
section
variable {w w':World} {b:Nat} {C:Nat→Nat→Cv} {S:Nat→Nat→Bool} {p c:Nat}
theorem Mem.lt(h:Mem w b C S):b<w.heap.size:=by
 obtain⟨D,n,h,_⟩:=h;exact h.lt
theorem Mem.kept(h:Mem w b C S)(hb:w'.heap[b]?=w.heap[b]?):Mem w' b C S:=by
 obtain⟨D,n,⟨B,A,E,G⟩,H⟩:=h;exact⟨D,n,⟨B,A,hb.trans E,G⟩,H⟩
theorem Mem.look(h:Mem w b C S)(hp:p<=400)(hc:c<=100):(Instr.lookup 117 (.map (some b)) (.agg #[.int .i64 (p:Int),.int .i64 (c:Int)]) false).run prog w=.ok (cvV (if S p c=true then C p c else zCv)) w:=by
 obtain⟨D,n,h,_,G⟩:=h;obtain⟨H,E⟩:=y8y (p:=p) (c:=c) (by omega) (by omega);obtain⟨v,I,A,B⟩:=h.lookup y3w Tryz.underlying117 (y5k w) (zd:=.held (cvV zCv)) (zp:=[]) rfl E;rw[(G p c hp hc H E).2]at B;simp only[cvR,Option.some.injEq,Prod.mk.injEq,DataW.held.injEq]at B;rw[A,B.1]
theorem Mem.look_ok(h:Mem w b C S)(hp:p<=400)(hc:c<=100):(Instr.lookup 117 (.map (some b)) (.agg #[.int .i64 (p:Int),.int .i64 (c:Int)]) true).run prog w=.ok (.tuple #[cvV (if S p c=true then C p c else zCv),.bool (S p c)]) w:=by
 obtain⟨D,n,h,_,G⟩:=h;obtain⟨H,B⟩:=y8y (p:=p) (c:=c) (by omega) (by omega);obtain⟨v,I,A,E⟩:=h.look_ok y3w Tryz.underlying117 (y5k w) (zd:=.held (cvV zCv)) (zp:=[]) rfl B;rw[(G p c hp hc H B).2]at E;simp only[cvR,Option.some.injEq,Prod.mk.injEq,DataW.held.injEq]at E;rw[A,E.1,(G p c hp hc H B).1]
theorem Mem.store(h:Mem w b C S)(hp:p<=400)(hc:c<=100)(hs:S p c=false):
  ∃w',(Instr.mapUpdate 117 (.map (some b)) (.agg #[.int .i64 (p:Int),.int .i64 (c:Int)]) (cvV (C p c))).run prog w=.ok () w'/\Mem w' b C (z9v S p c)/\w.grownBy w' (some b):=by
 obtain⟨D,n,h,N,L⟩:=h;obtain⟨K,A⟩:=y8y (p:=p) (c:=c) (by omega) (by omega);obtain⟨O,E,B,M⟩:=h.update y3w Tryz.underlying117 (by have:=y0o S;unfold maxLen;omega) A (d:=.held (cvV (C p c))) (ps:=[]) (val:=cvV (C p c)) rfl;refine⟨O,E,⟨_,_,B,Nat.le_trans (Nat.add_le_add_right N 1) (v2s hp hc hs),fun p' c' hp' hc' kl' hk'=>?_⟩,M⟩;by_cases e:p'=p/\c'=c
 ·obtain⟨rfl,rfl⟩:=e;have I:kl'=K:=by rw[A]at hk';exact(Option.some.inj hk').symm
  subst I;have H:z9v S p' c' p' c'=true:=by simp[z9v]
  rw[H,if_pos rfl];exact⟨has_put_same h.isMap (y3w.key A) _,atKey_put_same h.isMap (y3w.key A) _ _⟩
 ·have ne:kl'≠K:=by
   intro I;subst I
   have:=y3w.inj hk' A
   simp at this;omega
  have H:z9v S p c p' c'=S p' c':=by
   simp only[z9v];by_cases J:p'=p
   ·have G:¬c'=c:=fun G=>e ⟨J,G⟩
    simp[G]
   ·simp[J]
  rw[H,has_put_other ne,atKey_put_other ne];exact L p' c' hp' hc' kl' hk'
end
theorem Mem.made(w:World)(C:Nat->Nat->Cv):Mem (w.alloc (.map #[] 0)) w.heap.size C (fun _ _=>false):=
 ⟨.map [],0,World.ownsMap_made _ _ _ _,Nat.zero_le _,fun _ _ _ _ _ _=>⟨rfl,rfl⟩⟩
end Go.Proofs.YthcpdohdppkmkaaGreatDoor
