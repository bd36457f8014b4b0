import Derived.Test.YthcpdohdppkmkaaGreatDoorPu16
import Derived.Maps.OwnSet
import Derived.DeepKeys4
open Go.Proofs.Tryz
namespace Go.Proofs.YthcpdohdppkmkaaGreatDoor
open Go Go.RowKit
set_option maxRecDepth 100000
set_option maxHeartbeats 8000000
theorem j2i(bp g n i c:Nat)(tx:ByteArray)(nn en:Int)(nx dp:Nat)(lg:Int)(ch:Nat)(w:World)(hi:(i:Int)<n)
  (c0:w.cell? ⟨bp,0,none⟩=some (.slice (some ⟨g,0,none⟩) n n))
  (d0:w.cell? ⟨g,i*7,none⟩=some (.int .i64 5)) (d1:w.cell? ⟨g,i*7+1,none⟩=some (.string tx)) (d2:w.cell? ⟨g,i*7+2,none⟩=some (.int .i64 nn)) (d3:w.cell? ⟨g,i*7+3,none⟩=some (.int .i64 en)) (d4:w.cell? ⟨g,i*7+4,none⟩=some (.int .i64 nx)) (d5:w.cell? ⟨g,i*7+5,none⟩=some (.int .i64 dp)) (d6:w.cell? ⟨g,i*7+6,none⟩=some (.int .i64 lg)):
  Calls prog 217 #[.pointer (some ⟨bp,0,none⟩),.agg #[.int .i64 i,.int .i64 c],.int .i64 ch] w fun e w'=>e=.returned (.tuple #[.agg #[.int .i64 nx,.int .i64 c],.agg #[.int .i64 0,.int .i64 0]])/\Below w w w':=by
 have hp0:(0:Int)<=(i:Int):=by omega
 have hlt:=World.block_lt_of_cell? w ⟨bp,0,none⟩ c0;have hltg:=World.block_lt_of_cell? w ⟨g,i*7,none⟩ d0;have hx0:∀O2 O3,(((w.alloc (.cells #[.int .i64 i,.int .i64 c] 121)).alloc O2).alloc O3).cell? ⟨w,0,none⟩=some (.int .i64 i):=fun O2 O3=>by simp[go_sem]
 have hx4:∀O2 O3 O4,((((w.alloc (.cells #[.int .i64 i,.int .i64 c] 121)).alloc O2).alloc O3).alloc O4).cell? ⟨w,0,none⟩=some (.int .i64 i):=fun O2 O3 O4=>ka (hx0 O2 O3) O4
 go_in;go_wp2_with fail
 go_region_held3 (fun w'=>w'.cell? ⟨bp,0,none⟩=some (.slice (some ⟨g,0,none⟩) n n)/\w'.cell? ⟨w,0,none⟩=some (.int .i64 i)/\w'.cell? ⟨g,i*7,none⟩=some (.int .i64 5)/\w'.cell? ⟨g,i*7+1,none⟩=some (.string tx)/\w'.cell? ⟨g,i*7+2,none⟩=some (.int .i64 nn)/\w'.cell? ⟨g,i*7+3,none⟩=some (.int .i64 en)/\w'.cell? ⟨g,i*7+4,none⟩=some (.int .i64 nx)/\w'.cell? ⟨g,i*7+5,none⟩=some (.int .i64 dp)/\w'.cell? ⟨g,i*7+6,none⟩=some (.int .i64 lg))
  (first|exact⟨k3 c0 _ _ _,hx0 _ _,k3 d0 _ _ _,k3 d1 _ _ _,k3 d2 _ _ _,k3 d3 _ _ _,k3 d4 _ _ _,k3 d5 _ _ _,k3 d6 _ _ _⟩|exact⟨k4 c0 _ _ _ _,hx4 _ _ _,k4 d0 _ _ _ _,k4 d1 _ _ _ _,k4 d2 _ _ _ _,k4 d3 _ _ _ _,k4 d4 _ _ _ _,k4 d5 _ _ _ _,k4 d6 _ _ _ _⟩) (fail)
 all_goals
  go_wp2;exact bodyPost_ret (v:=.tuple #[.agg #[.int .i64 nx,.int .i64 c],.agg #[.int .i64 0,.int .i64 0]]) (by simp[results,Tryz.results217,go_sem]) rfl ⟨rfl,(y1f w _ _ _ _).drew⟩
theorem k9g(oq:Int)(ho:oq=6\/oq=7)(bp g n i c:Nat)(tx:ByteArray)(nn en:Int)(nx dp:Nat)(lg:Int)(ch:Nat)(w:World)(hn:n<=400)(hi:(i:Int)<n)
  (c0:w.cell? ⟨bp,0,none⟩=some (.slice (some ⟨g,0,none⟩) n n))
  (d0:w.cell? ⟨g,i*7,none⟩=some (.int .i64 oq)) (d1:w.cell? ⟨g,i*7+1,none⟩=some (.string tx)) (d2:w.cell? ⟨g,i*7+2,none⟩=some (.int .i64 nn)) (d3:w.cell? ⟨g,i*7+3,none⟩=some (.int .i64 en)) (d4:w.cell? ⟨g,i*7+4,none⟩=some (.int .i64 nx)) (d5:w.cell? ⟨g,i*7+5,none⟩=some (.int .i64 dp)) (d6:w.cell? ⟨g,i*7+6,none⟩=some (.int .i64 lg)):
  Calls prog 217 #[.pointer (some ⟨bp,0,none⟩),.agg #[.int .i64 i,.int .i64 c],.int .i64 ch] w fun e w'=>e=.returned (.tuple #[.agg #[.int .i64 ((i:Int)+1),.int .i64 c],.agg #[.int .i64 0,.int .i64 0]])/\Below w w w':=by
 have tg:y9h oq:=.mk;rcases ho with rfl|rfl
 all_goals
  have hp0:(0:Int)<=(i:Int):=by omega
  have hw1:=z6y hn hi;have hlt:=World.block_lt_of_cell? w ⟨bp,0,none⟩ c0;have hltg:=World.block_lt_of_cell? w ⟨g,i*7,none⟩ d0;have hx0:∀O2 O3,(((w.alloc (.cells #[.int .i64 i,.int .i64 c] 121)).alloc O2).alloc O3).cell? ⟨w,0,none⟩=some (.int .i64 i):=fun O2 O3=>by simp[go_sem]
  have hx4:∀O2 O3 O4,((((w.alloc (.cells #[.int .i64 i,.int .i64 c] 121)).alloc O2).alloc O3).alloc O4).cell? ⟨w,0,none⟩=some (.int .i64 i):=fun O2 O3 O4=>ka (hx0 O2 O3) O4
  go_in;go_wp2_with fail
  go_region_held3 (fun w'=>w'.cell? ⟨bp,0,none⟩=some (.slice (some ⟨g,0,none⟩) n n)/\w'.cell? ⟨w,0,none⟩=some (.int .i64 i)/\w'.cell? ⟨g,i*7,none⟩=some (.int .i64 ↑tg)/\w'.cell? ⟨g,i*7+1,none⟩=some (.string tx)/\w'.cell? ⟨g,i*7+2,none⟩=some (.int .i64 nn)/\w'.cell? ⟨g,i*7+3,none⟩=some (.int .i64 en)/\w'.cell? ⟨g,i*7+4,none⟩=some (.int .i64 nx)/\w'.cell? ⟨g,i*7+5,none⟩=some (.int .i64 dp)/\w'.cell? ⟨g,i*7+6,none⟩=some (.int .i64 lg))
   (first|exact⟨k3 c0 _ _ _,hx0 _ _,k3 d0 _ _ _,k3 d1 _ _ _,k3 d2 _ _ _,k3 d3 _ _ _,k3 d4 _ _ _,k3 d5 _ _ _,k3 d6 _ _ _⟩|exact⟨k4 c0 _ _ _ _,hx4 _ _ _,k4 d0 _ _ _ _,k4 d1 _ _ _ _,k4 d2 _ _ _ _,k4 d3 _ _ _ _,k4 d4 _ _ _ _,k4 d5 _ _ _ _,k4 d6 _ _ _ _⟩) (fail)
  all_goals
   go_wp2;exact bodyPost_ret (v:=.tuple #[.agg #[.int .i64 ((i:Int)+1),.int .i64 c],.agg #[.int .i64 0,.int .i64 0]]) (by simp[results,Tryz.results217,go_sem]) rfl ⟨rfl,(y1f w _ _ _ _).drew⟩
theorem z4n(bp g n i c:Nat)(tx:ByteArray)(nn en:Int)(nx dp:Nat)(lg:Int)(w:World)(hn:n<=400)(hi:(i:Int)<n)
  (c0:w.cell? ⟨bp,0,none⟩=some (.slice (some ⟨g,0,none⟩) n n))
  (d0:w.cell? ⟨g,i*7,none⟩=some (.int .i64 8)) (d1:w.cell? ⟨g,i*7+1,none⟩=some (.string tx)) (d2:w.cell? ⟨g,i*7+2,none⟩=some (.int .i64 nn)) (d3:w.cell? ⟨g,i*7+3,none⟩=some (.int .i64 en)) (d4:w.cell? ⟨g,i*7+4,none⟩=some (.int .i64 nx)) (d5:w.cell? ⟨g,i*7+5,none⟩=some (.int .i64 dp)) (d6:w.cell? ⟨g,i*7+6,none⟩=some (.int .i64 lg)):
  Calls prog 217 #[.pointer (some ⟨bp,0,none⟩),.agg #[.int .i64 i,.int .i64 c],.int .i64 1] w fun e w'=>e=.returned (.tuple #[.agg #[.int .i64 ((i:Int)+1),.int .i64 c],.agg #[.int .i64 0,.int .i64 0]])/\Below w w w':=by
 have hp0:(0:Int)<=(i:Int):=by omega
 have hw1:=z6y hn hi;have hlt:=World.block_lt_of_cell? w ⟨bp,0,none⟩ c0;have hltg:=World.block_lt_of_cell? w ⟨g,i*7,none⟩ d0;have hx0:∀O2 O3,(((w.alloc (.cells #[.int .i64 i,.int .i64 c] 121)).alloc O2).alloc O3).cell? ⟨w,0,none⟩=some (.int .i64 i):=fun O2 O3=>by simp[go_sem]
 have hx4:∀O2 O3 O4,((((w.alloc (.cells #[.int .i64 i,.int .i64 c] 121)).alloc O2).alloc O3).alloc O4).cell? ⟨w,0,none⟩=some (.int .i64 i):=fun O2 O3 O4=>ka (hx0 O2 O3) O4
 go_in;go_wp2_with fail
 go_region_held3 (fun w'=>w'.cell? ⟨bp,0,none⟩=some (.slice (some ⟨g,0,none⟩) n n)/\w'.cell? ⟨w,0,none⟩=some (.int .i64 i)/\w'.cell? ⟨g,i*7,none⟩=some (.int .i64 8)/\w'.cell? ⟨g,i*7+1,none⟩=some (.string tx)/\w'.cell? ⟨g,i*7+2,none⟩=some (.int .i64 nn)/\w'.cell? ⟨g,i*7+3,none⟩=some (.int .i64 en)/\w'.cell? ⟨g,i*7+4,none⟩=some (.int .i64 nx)/\w'.cell? ⟨g,i*7+5,none⟩=some (.int .i64 dp)/\w'.cell? ⟨g,i*7+6,none⟩=some (.int .i64 lg))
  (first|exact⟨k3 c0 _ _ _,hx0 _ _,k3 d0 _ _ _,k3 d1 _ _ _,k3 d2 _ _ _,k3 d3 _ _ _,k3 d4 _ _ _,k3 d5 _ _ _,k3 d6 _ _ _⟩|exact⟨k4 c0 _ _ _ _,hx4 _ _ _,k4 d0 _ _ _ _,k4 d1 _ _ _ _,k4 d2 _ _ _ _,k4 d3 _ _ _ _,k4 d4 _ _ _ _,k4 d5 _ _ _ _,k4 d6 _ _ _ _⟩) (fail)
 all_goals
  go_wp2;exact bodyPost_ret (v:=.tuple #[.agg #[.int .i64 ((i:Int)+1),.int .i64 c],.agg #[.int .i64 0,.int .i64 0]]) (by simp[results,Tryz.results217,go_sem]) rfl ⟨rfl,(y1f w _ _ _ _).drew⟩
theorem j2g(bp g n i c:Nat)(tx:ByteArray)(nn en:Int)(nx dp:Nat)(lg:Int)(w:World)(hn:n<=400)(hi:(i:Int)<n)
  (c0:w.cell? ⟨bp,0,none⟩=some (.slice (some ⟨g,0,none⟩) n n))
  (d0:w.cell? ⟨g,i*7,none⟩=some (.int .i64 9)) (d1:w.cell? ⟨g,i*7+1,none⟩=some (.string tx)) (d2:w.cell? ⟨g,i*7+2,none⟩=some (.int .i64 nn)) (d3:w.cell? ⟨g,i*7+3,none⟩=some (.int .i64 en)) (d4:w.cell? ⟨g,i*7+4,none⟩=some (.int .i64 nx)) (d5:w.cell? ⟨g,i*7+5,none⟩=some (.int .i64 dp)) (d6:w.cell? ⟨g,i*7+6,none⟩=some (.int .i64 lg)):
  Calls prog 217 #[.pointer (some ⟨bp,0,none⟩),.agg #[.int .i64 i,.int .i64 c],.int .i64 0] w fun e w'=>e=.returned (.tuple #[.agg #[.int .i64 ((i:Int)+1),.int .i64 c],.agg #[.int .i64 0,.int .i64 0]])/\Below w w w':=by
 have hp0:(0:Int)<=(i:Int):=by omega
 have hw1:=z6y hn hi;have hlt:=World.block_lt_of_cell? w ⟨bp,0,none⟩ c0;have hltg:=World.block_lt_of_cell? w ⟨g,i*7,none⟩ d0;have hx0:∀O2 O3,(((w.alloc (.cells #[.int .i64 i,.int .i64 c] 121)).alloc O2).alloc O3).cell? ⟨w,0,none⟩=some (.int .i64 i):=fun O2 O3=>by simp[go_sem]
 have hx4:∀O2 O3 O4,((((w.alloc (.cells #[.int .i64 i,.int .i64 c] 121)).alloc O2).alloc O3).alloc O4).cell? ⟨w,0,none⟩=some (.int .i64 i):=fun O2 O3 O4=>ka (hx0 O2 O3) O4
 go_in;go_wp2_with fail
 go_region_held3 (fun w'=>w'.cell? ⟨bp,0,none⟩=some (.slice (some ⟨g,0,none⟩) n n)/\w'.cell? ⟨w,0,none⟩=some (.int .i64 i)/\w'.cell? ⟨g,i*7,none⟩=some (.int .i64 9)/\w'.cell? ⟨g,i*7+1,none⟩=some (.string tx)/\w'.cell? ⟨g,i*7+2,none⟩=some (.int .i64 nn)/\w'.cell? ⟨g,i*7+3,none⟩=some (.int .i64 en)/\w'.cell? ⟨g,i*7+4,none⟩=some (.int .i64 nx)/\w'.cell? ⟨g,i*7+5,none⟩=some (.int .i64 dp)/\w'.cell? ⟨g,i*7+6,none⟩=some (.int .i64 lg))
  (first|exact⟨k3 c0 _ _ _,hx0 _ _,k3 d0 _ _ _,k3 d1 _ _ _,k3 d2 _ _ _,k3 d3 _ _ _,k3 d4 _ _ _,k3 d5 _ _ _,k3 d6 _ _ _⟩|exact⟨k4 c0 _ _ _ _,hx4 _ _ _,k4 d0 _ _ _ _,k4 d1 _ _ _ _,k4 d2 _ _ _ _,k4 d3 _ _ _ _,k4 d4 _ _ _ _,k4 d5 _ _ _ _,k4 d6 _ _ _ _⟩) (fail)
 all_goals
  go_wp2;exact bodyPost_ret (v:=.tuple #[.agg #[.int .i64 ((i:Int)+1),.int .i64 c],.agg #[.int .i64 0,.int .i64 0]]) (by simp[results,Tryz.results217,go_sem]) rfl ⟨rfl,(y1f w _ _ _ _).drew⟩
theorem k1u(bp g n i c:Nat)(tx:ByteArray)(nn en:Int)(nx dp:Nat)(lg:Int)(x:Int)(w:World)(hn:n<=400)(hi:(i:Int)<n)(hi1:(i:Int)+1<n)(dx:w.cell? ⟨g,(i+1)*7+3,none⟩=some (.int .i64 x))
  (c0:w.cell? ⟨bp,0,none⟩=some (.slice (some ⟨g,0,none⟩) n n))
  (d0:w.cell? ⟨g,i*7,none⟩=some (.int .i64 9)) (d1:w.cell? ⟨g,i*7+1,none⟩=some (.string tx)) (d2:w.cell? ⟨g,i*7+2,none⟩=some (.int .i64 nn)) (d3:w.cell? ⟨g,i*7+3,none⟩=some (.int .i64 en)) (d4:w.cell? ⟨g,i*7+4,none⟩=some (.int .i64 nx)) (d5:w.cell? ⟨g,i*7+5,none⟩=some (.int .i64 dp)) (d6:w.cell? ⟨g,i*7+6,none⟩=some (.int .i64 lg)):
  Calls prog 217 #[.pointer (some ⟨bp,0,none⟩),.agg #[.int .i64 i,.int .i64 c],.int .i64 1] w fun e w'=>e=.returned (.tuple #[.agg #[.int .i64 x,.int .i64 c],.agg #[.int .i64 0,.int .i64 0]])/\Below w w w':=by
 have hp0:(0:Int)<=(i:Int):=by omega
 have hw1:=z6y hn hi;have hlt:=World.block_lt_of_cell? w ⟨bp,0,none⟩ c0;have hltg:=World.block_lt_of_cell? w ⟨g,i*7,none⟩ d0;have hx0:∀O2 O3,(((w.alloc (.cells #[.int .i64 i,.int .i64 c] 121)).alloc O2).alloc O3).cell? ⟨w,0,none⟩=some (.int .i64 i):=fun O2 O3=>by simp[go_sem]
 have hx4:∀O2 O3 O4,((((w.alloc (.cells #[.int .i64 i,.int .i64 c] 121)).alloc O2).alloc O3).alloc O4).cell? ⟨w,0,none⟩=some (.int .i64 i):=fun O2 O3 O4=>ka (hx0 O2 O3) O4
 have hy4:∀O2 O3 O4,((((w.alloc (.cells #[.int .i64 i,.int .i64 c] 121)).alloc O2).alloc O3).alloc O4).cell? ⟨w,1,none⟩=some (.int .i64 c):=fun O2 O3 O4=>by simp[go_sem]
 have hp1:(0:Int)<=(i:Int)+1:=by omega
 have htn:((i:Int)+1).toNat=i+1:=by omega
 go_in;go_wp2_with fail
 go_region_held3 (fun w'=>w'.cell? ⟨bp,0,none⟩=some (.slice (some ⟨g,0,none⟩) n n)/\w'.cell? ⟨w,0,none⟩=some (.int .i64 i)/\w'.cell? ⟨g,i*7,none⟩=some (.int .i64 9)/\w'.cell? ⟨g,i*7+1,none⟩=some (.string tx)/\w'.cell? ⟨g,i*7+2,none⟩=some (.int .i64 nn)/\w'.cell? ⟨g,i*7+3,none⟩=some (.int .i64 en)/\w'.cell? ⟨g,i*7+4,none⟩=some (.int .i64 nx)/\w'.cell? ⟨g,i*7+5,none⟩=some (.int .i64 dp)/\w'.cell? ⟨g,i*7+6,none⟩=some (.int .i64 lg))
  (first|exact⟨k3 c0 _ _ _,hx0 _ _,k3 d0 _ _ _,k3 d1 _ _ _,k3 d2 _ _ _,k3 d3 _ _ _,k3 d4 _ _ _,k3 d5 _ _ _,k3 d6 _ _ _⟩|exact⟨k4 c0 _ _ _ _,hx4 _ _ _,k4 d0 _ _ _ _,k4 d1 _ _ _ _,k4 d2 _ _ _ _,k4 d3 _ _ _ _,k4 d4 _ _ _ _,k4 d5 _ _ _ _,k4 d6 _ _ _ _⟩) (fail)
 all_goals
  go_wp2_with fail
  go_region_held3 (fun w'=>w'.cell? ⟨bp,0,none⟩=some (.slice (some ⟨g,0,none⟩) n n)/\w'.cell? ⟨w,0,none⟩=some (.int .i64 i)/\w'.cell? ⟨w,1,none⟩=some (.int .i64 c)/\w'.cell? ⟨g,(i+1)*7+3,none⟩=some (.int .i64 x))
   (exact⟨k4 c0 _ _ _ _,hx4 _ _ _,hy4 _ _ _,k4 dx _ _ _ _⟩) (fail)
  all_goals
   go_wp2;exact bodyPost_ret (v:=.tuple #[.agg #[.int .i64 x,.int .i64 c],.agg #[.int .i64 0,.int .i64 0]]) (by simp[results,Tryz.results217,go_sem]) rfl ⟨rfl,(y1f w _ _ _ _).drew.drew⟩
set_option maxHeartbeats 16000000
instance cellInt{w:World}{p:Addr}{v:Int}(h:w.cell? p=some (.int .i64 v)):CoeDep (w.cell? p=some (.int .i64 v)) h Int:=⟨v⟩
theorem z1z(op:Int)(ho:op=2\/op=3\/op=4)(bp g n wd i c:Nat)(tx:ByteArray)(nn en:Int)(nx dp:Nat)(lg:Int)(ch:Nat)(w:World)(hi:(i:Int)<n)(hw:wd<=100)(hk:dp<=20000)
  (c0:w.cell? ⟨bp,0,none⟩=some (.slice (some ⟨g,0,none⟩) n n)) (c1:w.cell? ⟨bp,1,none⟩=some (.int .i64 wd))
  (d0:w.cell? ⟨g,i*7,none⟩=some (.int .i64 op)) (d1:w.cell? ⟨g,i*7+1,none⟩=some (.string tx)) (d2:w.cell? ⟨g,i*7+2,none⟩=some (.int .i64 nn)) (d3:w.cell? ⟨g,i*7+3,none⟩=some (.int .i64 en)) (d4:w.cell? ⟨g,i*7+4,none⟩=some (.int .i64 nx)) (d5:w.cell? ⟨g,i*7+5,none⟩=some (.int .i64 dp)) (d6:w.cell? ⟨g,i*7+6,none⟩=some (.int .i64 lg)):
  Calls prog 217 #[.pointer (some ⟨bp,0,none⟩),.agg #[.int .i64 i,.int .i64 c],.int .i64 ch] w fun e w'=>e=.returned (.tuple #[.agg #[.int .i64 nx,.int .i64 ((min dp wd:Nat):Int)],.agg #[.int .i64 ((dp-wd:Nat):Int),.int .i64 1]])/\Below w w w':=by
 have hp0:(0:Int)<=(i:Int):=by omega
 have hlt:=World.block_lt_of_cell? w ⟨bp,0,none⟩ c0;have hltg:=World.block_lt_of_cell? w ⟨g,i*7,none⟩ d0;have hx0:∀O2 O3,(((w.alloc (.cells #[.int .i64 i,.int .i64 c] 121)).alloc O2).alloc O3).cell? ⟨w,0,none⟩=some (.int .i64 i):=fun O2 O3=>by simp[go_sem]
 have hx4:∀O2 O3 O4,((((w.alloc (.cells #[.int .i64 i,.int .i64 c] 121)).alloc O2).alloc O3).alloc O4).cell? ⟨w,0,none⟩=some (.int .i64 i):=fun O2 O3 O4=>ka (hx0 O2 O3) O4
 rcases ho with rfl|rfl|rfl
 all_goals
  go_in;go_wp2_with fail
  go_region_held3 (fun w'=>w'.cell? ⟨bp,0,none⟩=some (.slice (some ⟨g,0,none⟩) n n)/\w'.cell? ⟨w,0,none⟩=some (.int .i64 i)/\w'.cell? ⟨g,i*7,none⟩=some (.int .i64 (d0:Int))/\w'.cell? ⟨g,i*7+1,none⟩=some (.string tx)/\w'.cell? ⟨g,i*7+2,none⟩=some (.int .i64 nn)/\w'.cell? ⟨g,i*7+3,none⟩=some (.int .i64 en)/\w'.cell? ⟨g,i*7+4,none⟩=some (.int .i64 nx)/\w'.cell? ⟨g,i*7+5,none⟩=some (.int .i64 dp)/\w'.cell? ⟨g,i*7+6,none⟩=some (.int .i64 lg))
   (first|exact⟨k3 c0 _ _ _,hx0 _ _,k3 d0 _ _ _,k3 d1 _ _ _,k3 d2 _ _ _,k3 d3 _ _ _,k3 d4 _ _ _,k3 d5 _ _ _,k3 d6 _ _ _⟩|exact⟨k4 c0 _ _ _ _,hx4 _ _ _,k4 d0 _ _ _ _,k4 d1 _ _ _ _,k4 d2 _ _ _ _,k4 d3 _ _ _ _,k4 d4 _ _ _ _,k4 d5 _ _ _ _,k4 d6 _ _ _ _⟩) (fail)
  all_goals
   go_wp2_with fail;refine(k5n bp wd nx dp _ hw hk (k4d c1 _ _ _ _)).mono ?_;rintro e w2⟨rfl,hb2⟩;obtain⟨hcl,hfr⟩:=q1c hb2;have hs2:w.heap.size+1+1+1+1<=w2.heap.size:=by have:=hb2.size;simpa using this
   have a0:w2.cell? ⟨w.heap.size+1,0,none⟩=some (.int .i64 0):=(hcl _ _ (by simp)).trans (by simp[go_sem]);have a1:w2.cell? ⟨w.heap.size+1,1,none⟩=some (.int .i64 0):=(hcl _ _ (by simp)).trans (by simp[go_sem]);have b0:w2.cell? ⟨w.heap.size+1+1,0,none⟩=some (.int .i64 0):=(hcl _ _ (by simp)).trans (by simp[go_sem]);have b1:w2.cell? ⟨w.heap.size+1+1,1,none⟩=some (.int .i64 0):=(hcl _ _ (by simp)).trans (by simp[go_sem]);have f0:w2.frozen? ⟨w.heap.size+1,0,none⟩=false:=(hfr _ _ (by simp)).trans (by simp[go_sem]);have f1:w2.frozen? ⟨w.heap.size+1,1,none⟩=false:=(hfr _ _ (by simp)).trans (by simp[go_sem]);have f2:w2.frozen? ⟨w.heap.size+1+1,0,none⟩=false:=(hfr _ _ (by simp)).trans (by simp[go_sem]);have f3:w2.frozen? ⟨w.heap.size+1+1,1,none⟩=false:=(hfr _ _ (by simp)).trans (by simp[go_sem]);have hB:Below w w w2:=(y1f w _ _ _ _).drew.trans (hb2.mono (by simp;omega));clear hcl hfr hb2;have q0:=fun O1 O2=>ka (ka a0 O1) O2
   have q1:=fun O1 O2=>ka (ka a1 O1) O2
   have q2:=fun O1 O2=>ka (ka b0 O1) O2
   have q3:=fun O1 O2=>ka (ka b1 O1) O2
   have g0:∀O1 O2,((w2.alloc O1).alloc O2).frozen? ⟨w.heap.size+1,0,none⟩=false:=fun O1 O2=>kaf (by simp;omega) (kaf (by omega) f0 O1) O2
   have g1:∀O1 O2,((w2.alloc O1).alloc O2).frozen? ⟨w.heap.size+1,1,none⟩=false:=fun O1 O2=>kaf (by simp;omega) (kaf (by omega) f1 O1) O2
   have g2:∀O1 O2,((w2.alloc O1).alloc O2).frozen? ⟨w.heap.size+1+1,0,none⟩=false:=fun O1 O2=>kaf (by simp;omega) (kaf (by omega) f2 O1) O2
   have g3:∀O1 O2,((w2.alloc O1).alloc O2).frozen? ⟨w.heap.size+1+1,1,none⟩=false:=fun O1 O2=>kaf (by simp;omega) (kaf (by omega) f3 O1) O2
   have hbb:∀O1 O2,Below w w ((w2.alloc O1).alloc O2):=fun O1 O2=>(hB.alloc (by omega) O1).alloc (by simp;omega) O2
   generalize hm1:((min dp wd:Nat):Int)=m1 at *;generalize hm2:((dp-wd:Nat):Int)=m2 at *;have HM:Hid (((min dp wd:Nat):Int)=m1/\((dp-wd:Nat):Int)=m2):=⟨hm1,hm2⟩;clear hm1 hm2;have s0:((w2.alloc (.cells #[.int .i64 nx,.int .i64 m1] 121)).alloc (.cells #[.int .i64 m2,.int .i64 1] 57)).cell? ⟨w2,0,none⟩=some (.int .i64 nx):=by simp[go_sem]
   have s1:((w2.alloc (.cells #[.int .i64 nx,.int .i64 m1] 121)).alloc (.cells #[.int .i64 m2,.int .i64 1] 57)).cell? ⟨w2,1,none⟩=some (.int .i64 m1):=by simp[go_sem]
   have s2:((w2.alloc (.cells #[.int .i64 nx,.int .i64 m1] 121)).alloc (.cells #[.int .i64 m2,.int .i64 1] 57)).cell? ⟨w2.heap.size+1,0,none⟩=some (.int .i64 m2):=by simp[go_sem]
   have s3:((w2.alloc (.cells #[.int .i64 nx,.int .i64 m1] 121)).alloc (.cells #[.int .i64 m2,.int .i64 1] 57)).cell? ⟨w2.heap.size+1,1,none⟩=some (.int .i64 1):=by simp[go_sem]
   have q0':=q0 (.cells #[.int .i64 nx,.int .i64 m1] 121) (.cells #[.int .i64 m2,.int .i64 1] 57);have q1':=q1 (.cells #[.int .i64 nx,.int .i64 m1] 121) (.cells #[.int .i64 m2,.int .i64 1] 57);have q2':=q2 (.cells #[.int .i64 nx,.int .i64 m1] 121) (.cells #[.int .i64 m2,.int .i64 1] 57);have q3':=q3 (.cells #[.int .i64 nx,.int .i64 m1] 121) (.cells #[.int .i64 m2,.int .i64 1] 57);have g0':=g0 (.cells #[.int .i64 nx,.int .i64 m1] 121) (.cells #[.int .i64 m2,.int .i64 1] 57);have g1':=g1 (.cells #[.int .i64 nx,.int .i64 m1] 121) (.cells #[.int .i64 m2,.int .i64 1] 57);have g2':=g2 (.cells #[.int .i64 nx,.int .i64 m1] 121) (.cells #[.int .i64 m2,.int .i64 1] 57);have g3':=g3 (.cells #[.int .i64 nx,.int .i64 m1] 121) (.cells #[.int .i64 m2,.int .i64 1] 57);have hB3:=hbb (.cells #[.int .i64 nx,.int .i64 m1] 121) (.cells #[.int .i64 m2,.int .i64 1] 57);clear hbb q0 q1 q2 q3 g0 g1 g2 g3 a0 a1 b0 b1 f0 f1 f2 f3;go_wp2_with fail
   generalize(w2.alloc (.cells #[.int .i64 nx,.int .i64 m1] 121)).alloc (.cells #[.int .i64 m2,.int .i64 1] 57)=w3 at *
   go_region_held3 (fun w'=>w'.cell? ⟨w2,0,none⟩=some (.int .i64 nx)/\w'.cell? ⟨w2,1,none⟩=some (.int .i64 m1)/\w'.cell? ⟨w2.heap.size+1,0,none⟩=some (.int .i64 m2)/\w'.cell? ⟨w2.heap.size+1,1,none⟩=some (.int .i64 1))
    (first|exact⟨s0,s1,s2,s3⟩|exact⟨(cso (by omega)).trans ((cso (by omega)).trans s0),(cso (by omega)).trans ((cso (by omega)).trans s1),(cso (by omega)).trans ((cso (by omega)).trans s2),(cso (by omega)).trans ((cso (by omega)).trans s3)⟩|exact⟨(cso (by omega)).trans ((cso (by omega)).trans ((cso (by omega)).trans ((cso (by omega)).trans s0))),(cso (by omega)).trans ((cso (by omega)).trans ((cso (by omega)).trans ((cso (by omega)).trans s1))),(cso (by omega)).trans ((cso (by omega)).trans ((cso (by omega)).trans ((cso (by omega)).trans s2))),(cso (by omega)).trans ((cso (by omega)).trans ((cso (by omega)).trans ((cso (by omega)).trans s3)))⟩) (fail)
   all_goals
    go_wp2;exact bodyPost_ret (v:=.tuple #[.agg #[.int .i64 nx,.int .i64 m1],.agg #[.int .i64 m2,.int .i64 1]]) (by simp[results,Tryz.results217,go_sem,q0',q1',q2',q3']) rfl ⟨by rw[HM.o.1,HM.o.2],((((hB3.setCell (p:=⟨w.heap.size+1,0,none⟩) (by simp) _).setCell (p:=⟨w.heap.size+1,1,none⟩) (by simp) _).setCell (p:=⟨w.heap.size+1+1,0,none⟩) (by simp;omega) _).setCell (p:=⟨w.heap.size+1+1,1,none⟩) (by simp;omega) _).drew⟩
structure q5t(w:World)(bp g wd:Nat)(R:List Pl):Prop where
 c0:w.cell? ⟨bp,0,none⟩=some (.slice (some ⟨g,0,none⟩) R.length R.length)
 c1:w.cell? ⟨bp,1,none⟩=some (.int .i64 wd)
 pr:PwR w g R.length (fun j=>q2 (q1g R j))
theorem q5t.kept{w w':World}{bp g wd:Nat}{R:List Pl}(h:q5t w bp g wd R)(h1:w'.heap[bp]?=w.heap[bp]?)(h2:w'.heap[g]?=w.heap[g]?):q5t w' bp g wd R:=
 ⟨(World.cell?_of_block (w:=w) (a:=⟨bp,0,none⟩) h1).trans h.c0,(World.cell?_of_block (w:=w) (a:=⟨bp,1,none⟩) h1).trans h.c1,h.pr.kept h2⟩
theorem q5t.ltB{w:World}{bp g wd:Nat}{R:List Pl}(h:q5t w bp g wd R):bp<w.heap.size:=World.block_lt_of_cell? w ⟨bp,0,none⟩ h.c0
theorem q5t.ltG{w:World}{bp g wd:Nat}{R:List Pl}(h:q5t w bp g wd R):g<w.heap.size:=h.pr.row.lt
theorem q5t.alloc{w:World}{bp g wd:Nat}{R:List Pl}(h:q5t w bp g wd R)(O:Obj):q5t (w.alloc O) bp g wd R:=h.kept (Below.heap_alloc _ _ _ h.ltB) (Below.heap_alloc _ _ _ h.ltG)
theorem j6c{R:List Pl}{L M i nx dp wd c ch:Nat}{ks:List (Nat × Tr)}{t:Tr}(bp g:Nat)(w:World)(hR:R.length<=400)(h:Sp R L M i t nx dp ks)(hc:c<=wd)(hw:wd<=100)(hL:L<=400)(hM:M<=3200)(hch:ch=0\/ch=1)(hh:t.lg=-1->ch=1)(hP:q5t w bp g wd R):
  Calls prog 217 #[.pointer (some ⟨bp,0,none⟩),.agg #[.int .i64 i,.int .i64 c],.int .i64 ch] w fun e w'=>e=.returned (.tuple #[.agg #[.int .i64 (q3h R wd i c ch).np,.int .i64 (q3h R wd i c ch).nc],.agg #[.int .i64 (q3h R wd i c ch).o,.int .i64 (q3h R wd i c ch).l]])/\Below w w w':=by
 have hi:(i:Int)<(R.length:Nat):=by have:=h.lt;omega
 have d:=hP.pr.get i h.lt;have hbd:=h.bd;have hbl:=h.bl;rw[h.at]at d;have hc':c<=100:=by omega
 cases t with
 | leaf x=>
  have hn:=q2b h.wf.1;have d0:w.cell? ⟨g,i*7,none⟩=some (.int .i64 x.op):=d.c0;rcases q5o h.wf.1 h.wf.2 with e|e|e|e|e
  ·rw[q4y h,z9x e];rw[e]at d0;refine(j2h bp g R.length wd i c x.tx _ _ nx dp 0 ch w hi hw hc' (by have:=q4q (hn.2.2.2.2.1 e);omega) hP.c0 hP.c1 d0 d.c1 d.c2 d.c3 d.c4 d.c5 d.c6).mono ?_;rintro e w2⟨rfl,hb⟩;exact⟨rfl,hb⟩
  ·rw[q4y h,z0v (.inl e)];rw[e]at d0;refine(z1z 2 (.inl rfl) bp g R.length wd i c x.tx _ _ nx dp 0 ch w hi hw (by omega) hP.c0 hP.c1 d0 d.c1 d.c2 d.c3 d.c4 d.c5 d.c6).mono ?_;rintro e w2⟨rfl,hb⟩;exact⟨rfl,hb⟩
  ·rw[q4y h,z0v (.inr (.inl e))];rw[e]at d0;refine(z1z 3 (.inr (.inl rfl)) bp g R.length wd i c x.tx _ _ nx dp 0 ch w hi hw (by omega) hP.c0 hP.c1 d0 d.c1 d.c2 d.c3 d.c4 d.c5 d.c6).mono ?_;rintro e w2⟨rfl,hb⟩;exact⟨rfl,hb⟩
  ·rw[q4y h,z0v (.inr (.inr e))];rw[e]at d0;refine(z1z 4 (.inr (.inr rfl)) bp g R.length wd i c x.tx _ _ nx dp 0 ch w hi hw (by omega) hP.c0 hP.c1 d0 d.c1 d.c2 d.c3 d.c4 d.c5 d.c6).mono ?_;rintro e w2⟨rfl,hb⟩;exact⟨rfl,hb⟩
  ·rw[q4y h,z9y e];rw[e]at d0;refine(j2i bp g R.length i c x.tx _ _ nx dp 0 ch w hi hP.c0 d0 d.c1 d.c2 d.c3 d.c4 d.c5 d.c6).mono ?_;rintro e w2⟨rfl,hb⟩;exact⟨rfl,hb⟩
 | one x a=>
  have d0:w.cell? ⟨g,i*7,none⟩=some (.int .i64 x.op):=d.c0;have d6:w.cell? ⟨g,i*7+6,none⟩=some (.int .i64 (Tr.lg (.one x a))):=d.c6;rcases z3e h.wf.2.1 with e|e
  ·rw[q6s h,z0u (.inr (.inl e))];rw[e]at d0;have e6:Tr.lg (.one x a)=((0:Nat):Int):=by simp[Tr.lg,e]
   rw[e6]at d6;refine(k9g 7 (.inr rfl) bp g R.length i c _ _ _ nx dp 0 ch w hR hi hP.c0 d0 d.c1 d.c2 d.c3 d.c4 d.c5 d6).mono ?_;rintro e w2⟨rfl,hb⟩;exact⟨rfl,hb⟩
  ·have e6:Tr.lg (.one x a)=lgF a.flat:=by simp[Tr.lg,e]
   rw[e]at d0;rcases hch with rfl|rfl
   ·have hf:∃s,a.flat=some s:=by
     cases hf:a.flat with
     | some s=>exact⟨s,rfl⟩
     | none=>exact absurd (hh (by rw[e6,hf];rfl)) (by omega)
    obtain⟨s,hf⟩:=hf;have hs:=q9h a s h.wf.2.2 hf;have e7:Tr.lg (.one x a)=((s.length:Nat):Int):=by rw[e6,hf];rfl
    rw[q6s h,z9w e rfl,e7,Int.toNat_natCast];rw[e7]at d6;refine(j2f bp g R.length wd i c _ _ _ nx dp s.length w hi hw hc' (by simp only[Tr.lf]at hbl;omega) hP.c0 hP.c1 d0 d.c1 d.c2 d.c3 d.c4 d.c5 d6).mono ?_;rintro e w2⟨rfl,hb⟩;exact⟨rfl,hb⟩
   ·rw[q6s h,z0u (by omega)];cases hf:a.flat with
    | some s=>
     have e7:Tr.lg (.one x a)=((s.length:Nat):Int):=by rw[e6,hf];rfl
     rw[e7]at d6;refine(z4n bp g R.length i c _ _ _ nx dp _ w hR hi hP.c0 d0 d.c1 d.c2 d.c3 d.c4 d.c5 d6).mono ?_;rintro e w2⟨rfl,hb⟩;exact⟨rfl,hb⟩
    | none=>
     have e7:Tr.lg (.one x a)=-1:=by rw[e6,hf];rfl
     rw[e7]at d6;refine(z4n bp g R.length i c _ _ _ nx dp _ w hR hi hP.c0 d0 d.c1 d.c2 d.c3 d.c4 d.c5 d6).mono ?_;rintro e w2⟨rfl,hb⟩;exact⟨rfl,hb⟩
 | two x a b=>
  have d0:w.cell? ⟨g,i*7,none⟩=some (.int .i64 x.op):=d.c0;obtain⟨nx',ks',hs⟩:=h.two1;have hi1:(i:Int)+1<(R.length:Nat):=by have:=hs.lt;omega
  rcases z1m h.wf.2.1 with e|e
  ·rw[q8o h,z0u (.inl e)];rw[e]at d0;refine(k9g 6 (.inl rfl) bp g R.length i c _ _ _ nx dp 0 ch w hR hi hP.c0 d0 d.c1 d.c2 d.c3 d.c4 d.c5 d.c6).mono ?_;rintro e w2⟨rfl,hb⟩;exact⟨rfl,hb⟩
  ·rw[e]at d0;rcases hch with rfl|rfl
   ·rw[q8o h,z0u (by omega)];refine(j2g bp g R.length i c _ _ _ nx dp 0 w hR hi hP.c0 d0 d.c1 d.c2 d.c3 d.c4 d.c5 d.c6).mono ?_;rintro e w2⟨rfl,hb⟩;exact⟨rfl,hb⟩
   ·have k:=hP.pr.get (i+1) hs.lt;rw[hs.at]at k;have k3:w.cell? ⟨g,(i+1)*7+3,none⟩=some (.int .i64 ((i+1+a.sz:Nat):Int)):=k.c3;rw[q8o h,z2n e rfl];refine(k1u bp g R.length i c _ _ _ nx dp 0 _ w hR hi hi1 k3 hP.c0 d0 d.c1 d.c2 d.c3 d.c4 d.c5 d.c6).mono ?_;rintro e w2⟨rfl,hb⟩;exact⟨rfl,hb⟩
end Go.Proofs.YthcpdohdppkmkaaGreatDoor
namespace Go.Proofs.YthcpdohdppkmkaaGreatDoor
open Go Go.RowKit Go.Maps
theorem v8a:laidOutB prog=true:=by kernel_rfl
theorem g6n:(121:TypeId)<prog.types.size:=of_decide_eq_true (by kernel_rfl)
theorem mkt:prog.keyTypeAt 3 121=true:=by kernel_rfl
theorem y8x:Keyed prog 121:=Keyed.of_law (deep_law_laid v8a (m:=3) (by omega) g6n mkt (by rw[Tryz.underlying121]))
theorem g5n:prog.keyType 121=true:=by kernel_rfl
theorem y2c:prog.cellsOf 121=2:=by kernel_rfl
theorem y6l:prog.cellsOf 3=1:=by kernel_rfl
theorem g5m:∃d,prog.types.size=d+1:=⟨403-1,by kernel_rfl⟩
theorem g1m(w:World):(zeroValue 123).run prog w=.ok (.agg #[.int .i64 0,.int .i64 0,.int .i64 0,.int .i64 0,.int .i64 0]) w:=by kernel_rfl
theorem g6j{n:Nat}(h:n<=1000000):(Lit.int .i64 (n:Int)).wf=true:=WalkArith.wf_i64 (by omega)
theorem g5l{p c:Nat}(hp:p<=1000000)(hc:c<=1000000):∃kl,keyOf prog 121 (.agg #[.int .i64 (p:Int),.int .i64 (c:Int)])=some kl:=by
 obtain⟨d,hd⟩:=g5m;have h1:=g6j hp;have h2:=g6j hc
 have hf:(Value.agg #[.int .i64 (p:Int),.int .i64 (c:Int)]).formed prog 121=true:=by
  simp[Value.formed,Tryz.underlying121,y2c]
 refine⟨.string (keyBytes [.int .i64 p,.int .i64 c]),?_⟩;unfold keyOf;rw[Tryz.underlying121];simp only[g5n,hf,Bool.and_self,if_true,hd];simp[Program.keyLits,Tryz.underlying121,Tryz.underlying3,y2c,y6l,Value.cells,h1,h2]
def cvV(k:Cv):Value:=.agg #[.int .i64 k.o,.int .i64 k.l,.int .i64 k.ch,.int .i64 k.np,.int .i64 k.nc]
def zCv:Cv:=⟨0,0,0,0,0⟩
def cvR(v:Value):Option (DataW Value × List MemPlace):=some (.held v,[])
def g4f(S:Nat->Nat->Bool):Nat:=(List.range 40501).countP fun k=>S (k / 101) (k % 101)
theorem y4p(S:Nat->Nat->Bool):g4f S<=40501:=by
 have:=List.countP_le_length (p:=fun k=>S (k / 101) (k % 101)) (l:=List.range 40501)
 rw[List.length_range]at this;exact this
def k1k(S:Nat->Nat->Bool)(p c:Nat):Nat->Nat->Bool:=fun p' c'=>S p' c'||(decide (p'=p)&&decide (c'=c))
theorem z7c{f g:Nat->Bool}(k:Nat):∀(l:List Nat),k∈l->(∀x,f x=true->g x=true)->f k=false->g k=true->l.countP f+1<=l.countP g
 | [],h,_,_,_=>by simp at h
 | a::l,h,h1,h2,h3=>by
  have hm:l.countP f<=l.countP g:=List.countP_mono_left fun x _=>h1 x
  rw[List.countP_cons,List.countP_cons];by_cases e:a=k
  ·subst e;rw[h2,h3];simp;omega
  ·have h4:=z7c k l (by rcases List.mem_cons.1 h with h|h;exact absurd h.symm e;exact h) h1 h2 h3;cases hf:f a with
   | true=>rw[h1 a hf];omega
   | false=>simp only[Bool.false_eq_true,if_false,Nat.add_zero];exact Nat.le_trans h4 (Nat.le_add_right _ _)
theorem v5w{S:Nat->Nat->Bool}{p c:Nat}(hp:p<=400)(hc:c<=100)(h:S p c=false):g4f S+1<=g4f (k1k S p c):=by
 have e1:(p*101+c) / 101=p:=by omega
 have e2:(p*101+c) % 101=c:=by omega
 refine z7c (p*101+c) _ (List.mem_range.2 (by omega)) (fun x hx=>?_) ?_ ?_
 ·simp only[k1k,hx,Bool.true_or]
 ·rw[e1,e2];exact h
 ·simp[k1k,e1,e2]
def Mem(w:World)(b:Nat)(C:Nat->Nat->Cv)(S:Nat->Nat->Bool):Prop:=
 ∃D n,w.ownsMap prog 121 cvR b n D/\n<=g4f S/\∀p c:Nat,p<=400->c<=100->∀kl,keyOf prog 121 (.agg #[.int .i64 (p:Int),.int .i64 (c:Int)])=some kl->
  Maps.has D kl=S p c/\D.atKey kl (.held (cvV zCv))=.held (cvV (if S p c=true then C p c else zCv))
section
variable {w w':World} {b:Nat} {C:Nat→Nat→Cv} {S:Nat→Nat→Bool} {p c:Nat}
theorem Mem.lt(h:Mem w b C S):b<w.heap.size:=by
 obtain⟨D,n,h,_⟩:=h;exact h.lt
theorem Mem.kept(h:Mem w b C S)(hb:w'.heap[b]?=w.heap[b]?):Mem w' b C S:=by
 obtain⟨D,n,⟨es,clock,h1,h2⟩,h3⟩:=h;exact⟨D,n,⟨es,clock,hb.trans h1,h2⟩,h3⟩
theorem Mem.look(h:Mem w b C S)(hp:p<=400)(hc:c<=100):(Instr.lookup 117 (.map (some b)) (.agg #[.int .i64 (p:Int),.int .i64 (c:Int)]) false).run prog w=.ok (cvV (if S p c=true then C p c else zCv)) w:=by
 obtain⟨D,n,h,_,h2⟩:=h;obtain⟨kl,hk⟩:=g5l (p:=p) (c:=c) (by omega) (by omega);obtain⟨v,ps,hrun,hv⟩:=h.lookup y8x Tryz.underlying117 (g1m w) (zd:=.held (cvV zCv)) (zp:=[]) rfl hk;rw[(h2 p c hp hc kl hk).2]at hv;simp only[cvR,Option.some.injEq,Prod.mk.injEq,DataW.held.injEq]at hv;rw[hrun,hv.1]
theorem Mem.look_ok(h:Mem w b C S)(hp:p<=400)(hc:c<=100):(Instr.lookup 117 (.map (some b)) (.agg #[.int .i64 (p:Int),.int .i64 (c:Int)]) true).run prog w=.ok (.tuple #[cvV (if S p c=true then C p c else zCv),.bool (S p c)]) w:=by
 obtain⟨D,n,h,_,h2⟩:=h;obtain⟨kl,hk⟩:=g5l (p:=p) (c:=c) (by omega) (by omega);obtain⟨v,ps,hrun,hv⟩:=h.look_ok y8x Tryz.underlying117 (g1m w) (zd:=.held (cvV zCv)) (zp:=[]) rfl hk;rw[(h2 p c hp hc kl hk).2]at hv;simp only[cvR,Option.some.injEq,Prod.mk.injEq,DataW.held.injEq]at hv;rw[hrun,hv.1,(h2 p c hp hc kl hk).1]
theorem Mem.store(h:Mem w b C S)(hp:p<=400)(hc:c<=100)(hs:S p c=false):
  ∃w',(Instr.mapUpdate 117 (.map (some b)) (.agg #[.int .i64 (p:Int),.int .i64 (c:Int)]) (cvV (C p c))).run prog w=.ok () w'/\Mem w' b C (k1k S p c)/\w.grownBy w' (some b):=by
 obtain⟨D,n,h,hn,h2⟩:=h;obtain⟨kl,hk⟩:=g5l (p:=p) (c:=c) (by omega) (by omega);obtain⟨w1,hrun,hown,hg⟩:=h.update y8x Tryz.underlying117 (by have:=y4p S;unfold maxLen;omega) hk (d:=.held (cvV (C p c))) (ps:=[]) (val:=cvV (C p c)) rfl;refine⟨w1,hrun,⟨_,_,hown,Nat.le_trans (Nat.add_le_add_right hn 1) (v5w hp hc hs),fun p' c' hp' hc' kl' hk'=>?_⟩,hg⟩;by_cases e:p'=p/\c'=c
 ·obtain⟨rfl,rfl⟩:=e;have ek:kl'=kl:=by rw[hk]at hk';exact(Option.some.inj hk').symm
  subst ek;have ea:k1k S p' c' p' c'=true:=by simp[k1k]
  rw[ea,if_pos rfl];exact⟨has_put_same h.isMap (y8x.key hk) _,atKey_put_same h.isMap (y8x.key hk) _ _⟩
 ·have ne:kl'≠kl:=by
   intro ek;subst ek
   have:=y8x.inj hk' hk
   simp at this;omega
  have ea:k1k S p c p' c'=S p' c':=by
   simp only[k1k];by_cases e1:p'=p
   ·have e2:¬c'=c:=fun e2=>e ⟨e1,e2⟩
    simp[e2]
   ·simp[e1]
  rw[ea,has_put_other ne,atKey_put_other ne];exact h2 p' c' hp' hc' kl' hk'
end
theorem Mem.made(w:World)(C:Nat->Nat->Cv):Mem (w.alloc (.map #[] 0)) w.heap.size C (fun _ _=>false):=
 ⟨.map [],0,World.ownsMap_made _ _ _ _,Nat.zero_le _,fun _ _ _ _ _ _=>⟨rfl,rfl⟩⟩
end Go.Proofs.YthcpdohdppkmkaaGreatDoor
