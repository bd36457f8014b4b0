import Derived.Test.YtfdppahhbpfnoaaGreatDoorPi10
import Derived.Test.YtfdppahhbpfnoaaGreatDoorPi02
import Derived.Test.YtfdppahhbpfnoaaGreatDoorPi11
open Go.Proofs.Tryz
namespace Go.Proofs.YtfdppahhbpfnoaaGreatDoor
open Go Go.RowKit
set_option maxRecDepth 100000
set_option maxHeartbeats 8000000
theorem k8t(bp g n i c:Nat)(tx:ByteArray)(nn en:Int)(nx dp:Nat)(lg:Int)(ch:Nat)(w:World)(hi:(i:Int)<n)
  (c0:w.cell? ⟨bp,0,none⟩=some (.slice (some ⟨g,0,none⟩) n n))
  (d0:w.cell? ⟨g,i*7,none⟩=some (.int .i64 5)) (d1:w.cell? ⟨g,i*7+1,none⟩=some (.string tx)) (d2:w.cell? ⟨g,i*7+2,none⟩=some (.int .i64 nn)) (d3:w.cell? ⟨g,i*7+3,none⟩=some (.int .i64 en)) (d4:w.cell? ⟨g,i*7+4,none⟩=some (.int .i64 nx)) (d5:w.cell? ⟨g,i*7+5,none⟩=some (.int .i64 dp)) (d6:w.cell? ⟨g,i*7+6,none⟩=some (.int .i64 lg)):
  Calls prog 217 #[.pointer (some ⟨bp,0,none⟩),.agg #[.int .i64 i,.int .i64 c],.int .i64 ch] w fun e w'=>e=.returned (.tuple #[.agg #[.int .i64 nx,.int .i64 c],.agg #[.int .i64 0,.int .i64 0]])/\Below w w w':=by
 have E:(0:Int)<=(i:Int):=by omega
 have D:=World.block_lt_of_cell? w ⟨bp,0,none⟩ c0;have C:=World.block_lt_of_cell? w ⟨g,i*7,none⟩ d0;have A:∀O2 O3,(((w.alloc (.cells #[.int .i64 i,.int .i64 c] 172)).alloc O2).alloc O3).cell? ⟨w,0,none⟩=some (.int .i64 i):=fun O2 O3=>by simp[go_sem]
 have B:∀O2 O3 O4,((((w.alloc (.cells #[.int .i64 i,.int .i64 c] 172)).alloc O2).alloc O3).alloc O4).cell? ⟨w,0,none⟩=some (.int .i64 i):=fun O2 O3 O4=>ka (A O2 O3) O4
 go_in;go_wp2_with fail
 go_region_held3 (fun w'=>w'.cell? ⟨bp,0,none⟩=some (.slice (some ⟨g,0,none⟩) n n)/\w'.cell? ⟨w,0,none⟩=some (.int .i64 i)/\w'.cell? ⟨g,i*7,none⟩=some (.int .i64 5)/\w'.cell? ⟨g,i*7+1,none⟩=some (.string tx)/\w'.cell? ⟨g,i*7+2,none⟩=some (.int .i64 nn)/\w'.cell? ⟨g,i*7+3,none⟩=some (.int .i64 en)/\w'.cell? ⟨g,i*7+4,none⟩=some (.int .i64 nx)/\w'.cell? ⟨g,i*7+5,none⟩=some (.int .i64 dp)/\w'.cell? ⟨g,i*7+6,none⟩=some (.int .i64 lg))
  (first|exact⟨k3 c0 _ _ _,A _ _,k3 d0 _ _ _,k3 d1 _ _ _,k3 d2 _ _ _,k3 d3 _ _ _,k3 d4 _ _ _,k3 d5 _ _ _,k3 d6 _ _ _⟩|exact⟨k4 c0 _ _ _ _,B _ _ _,k4 d0 _ _ _ _,k4 d1 _ _ _ _,k4 d2 _ _ _ _,k4 d3 _ _ _ _,k4 d4 _ _ _ _,k4 d5 _ _ _ _,k4 d6 _ _ _ _⟩) (fail)
 all_goals
  go_wp2;exact bodyPost_ret (v:=.tuple #[.agg #[.int .i64 nx,.int .i64 c],.agg #[.int .i64 0,.int .i64 0]]) (by simp[results,Tryz.results217,go_sem]) rfl ⟨rfl,(v6u w _ _ _ _).drew⟩
theorem k5v(oq:Int)(ho:oq=6\/oq=7)(bp g n i c:Nat)(tx:ByteArray)(nn en:Int)(nx dp:Nat)(lg:Int)(ch:Nat)(w:World)(hn:n<=400)(hi:(i:Int)<n)
  (c0:w.cell? ⟨bp,0,none⟩=some (.slice (some ⟨g,0,none⟩) n n))
  (d0:w.cell? ⟨g,i*7,none⟩=some (.int .i64 oq)) (d1:w.cell? ⟨g,i*7+1,none⟩=some (.string tx)) (d2:w.cell? ⟨g,i*7+2,none⟩=some (.int .i64 nn)) (d3:w.cell? ⟨g,i*7+3,none⟩=some (.int .i64 en)) (d4:w.cell? ⟨g,i*7+4,none⟩=some (.int .i64 nx)) (d5:w.cell? ⟨g,i*7+5,none⟩=some (.int .i64 dp)) (d6:w.cell? ⟨g,i*7+6,none⟩=some (.int .i64 lg)):
  Calls prog 217 #[.pointer (some ⟨bp,0,none⟩),.agg #[.int .i64 i,.int .i64 c],.int .i64 ch] w fun e w'=>e=.returned (.tuple #[.agg #[.int .i64 ((i:Int)+1),.int .i64 c],.agg #[.int .i64 0,.int .i64 0]])/\Below w w w':=by
 have H:y2q oq:=.mk;rcases ho with rfl|rfl
 all_goals
  have E:(0:Int)<=(i:Int):=by omega
  have G:=z5s hn hi;have D:=World.block_lt_of_cell? w ⟨bp,0,none⟩ c0;have C:=World.block_lt_of_cell? w ⟨g,i*7,none⟩ d0;have A:∀O2 O3,(((w.alloc (.cells #[.int .i64 i,.int .i64 c] 172)).alloc O2).alloc O3).cell? ⟨w,0,none⟩=some (.int .i64 i):=fun O2 O3=>by simp[go_sem]
  have B:∀O2 O3 O4,((((w.alloc (.cells #[.int .i64 i,.int .i64 c] 172)).alloc O2).alloc O3).alloc O4).cell? ⟨w,0,none⟩=some (.int .i64 i):=fun O2 O3 O4=>ka (A O2 O3) O4
  go_in;go_wp2_with fail
  go_region_held3 (fun w'=>w'.cell? ⟨bp,0,none⟩=some (.slice (some ⟨g,0,none⟩) n n)/\w'.cell? ⟨w,0,none⟩=some (.int .i64 i)/\w'.cell? ⟨g,i*7,none⟩=some (.int .i64 ↑H)/\w'.cell? ⟨g,i*7+1,none⟩=some (.string tx)/\w'.cell? ⟨g,i*7+2,none⟩=some (.int .i64 nn)/\w'.cell? ⟨g,i*7+3,none⟩=some (.int .i64 en)/\w'.cell? ⟨g,i*7+4,none⟩=some (.int .i64 nx)/\w'.cell? ⟨g,i*7+5,none⟩=some (.int .i64 dp)/\w'.cell? ⟨g,i*7+6,none⟩=some (.int .i64 lg))
   (first|exact⟨k3 c0 _ _ _,A _ _,k3 d0 _ _ _,k3 d1 _ _ _,k3 d2 _ _ _,k3 d3 _ _ _,k3 d4 _ _ _,k3 d5 _ _ _,k3 d6 _ _ _⟩|exact⟨k4 c0 _ _ _ _,B _ _ _,k4 d0 _ _ _ _,k4 d1 _ _ _ _,k4 d2 _ _ _ _,k4 d3 _ _ _ _,k4 d4 _ _ _ _,k4 d5 _ _ _ _,k4 d6 _ _ _ _⟩) (fail)
  all_goals
   go_wp2;exact bodyPost_ret (v:=.tuple #[.agg #[.int .i64 ((i:Int)+1),.int .i64 c],.agg #[.int .i64 0,.int .i64 0]]) (by simp[results,Tryz.results217,go_sem]) rfl ⟨rfl,(v6u w _ _ _ _).drew⟩
theorem z3p(bp g n i c:Nat)(tx:ByteArray)(nn en:Int)(nx dp:Nat)(lg:Int)(w:World)(hn:n<=400)(hi:(i:Int)<n)
  (c0:w.cell? ⟨bp,0,none⟩=some (.slice (some ⟨g,0,none⟩) n n))
  (d0:w.cell? ⟨g,i*7,none⟩=some (.int .i64 8)) (d1:w.cell? ⟨g,i*7+1,none⟩=some (.string tx)) (d2:w.cell? ⟨g,i*7+2,none⟩=some (.int .i64 nn)) (d3:w.cell? ⟨g,i*7+3,none⟩=some (.int .i64 en)) (d4:w.cell? ⟨g,i*7+4,none⟩=some (.int .i64 nx)) (d5:w.cell? ⟨g,i*7+5,none⟩=some (.int .i64 dp)) (d6:w.cell? ⟨g,i*7+6,none⟩=some (.int .i64 lg)):
  Calls prog 217 #[.pointer (some ⟨bp,0,none⟩),.agg #[.int .i64 i,.int .i64 c],.int .i64 1] w fun e w'=>e=.returned (.tuple #[.agg #[.int .i64 ((i:Int)+1),.int .i64 c],.agg #[.int .i64 0,.int .i64 0]])/\Below w w w':=by
 have E:(0:Int)<=(i:Int):=by omega
 have G:=z5s hn hi;have D:=World.block_lt_of_cell? w ⟨bp,0,none⟩ c0;have C:=World.block_lt_of_cell? w ⟨g,i*7,none⟩ d0;have A:∀O2 O3,(((w.alloc (.cells #[.int .i64 i,.int .i64 c] 172)).alloc O2).alloc O3).cell? ⟨w,0,none⟩=some (.int .i64 i):=fun O2 O3=>by simp[go_sem]
 have B:∀O2 O3 O4,((((w.alloc (.cells #[.int .i64 i,.int .i64 c] 172)).alloc O2).alloc O3).alloc O4).cell? ⟨w,0,none⟩=some (.int .i64 i):=fun O2 O3 O4=>ka (A O2 O3) O4
 go_in;go_wp2_with fail
 go_region_held3 (fun w'=>w'.cell? ⟨bp,0,none⟩=some (.slice (some ⟨g,0,none⟩) n n)/\w'.cell? ⟨w,0,none⟩=some (.int .i64 i)/\w'.cell? ⟨g,i*7,none⟩=some (.int .i64 8)/\w'.cell? ⟨g,i*7+1,none⟩=some (.string tx)/\w'.cell? ⟨g,i*7+2,none⟩=some (.int .i64 nn)/\w'.cell? ⟨g,i*7+3,none⟩=some (.int .i64 en)/\w'.cell? ⟨g,i*7+4,none⟩=some (.int .i64 nx)/\w'.cell? ⟨g,i*7+5,none⟩=some (.int .i64 dp)/\w'.cell? ⟨g,i*7+6,none⟩=some (.int .i64 lg))
  (first|exact⟨k3 c0 _ _ _,A _ _,k3 d0 _ _ _,k3 d1 _ _ _,k3 d2 _ _ _,k3 d3 _ _ _,k3 d4 _ _ _,k3 d5 _ _ _,k3 d6 _ _ _⟩|exact⟨k4 c0 _ _ _ _,B _ _ _,k4 d0 _ _ _ _,k4 d1 _ _ _ _,k4 d2 _ _ _ _,k4 d3 _ _ _ _,k4 d4 _ _ _ _,k4 d5 _ _ _ _,k4 d6 _ _ _ _⟩) (fail)
 all_goals
  go_wp2;exact bodyPost_ret (v:=.tuple #[.agg #[.int .i64 ((i:Int)+1),.int .i64 c],.agg #[.int .i64 0,.int .i64 0]]) (by simp[results,Tryz.results217,go_sem]) rfl ⟨rfl,(v6u w _ _ _ _).drew⟩
theorem k8r(bp g n i c:Nat)(tx:ByteArray)(nn en:Int)(nx dp:Nat)(lg:Int)(w:World)(hn:n<=400)(hi:(i:Int)<n)
  (c0:w.cell? ⟨bp,0,none⟩=some (.slice (some ⟨g,0,none⟩) n n))
  (d0:w.cell? ⟨g,i*7,none⟩=some (.int .i64 9)) (d1:w.cell? ⟨g,i*7+1,none⟩=some (.string tx)) (d2:w.cell? ⟨g,i*7+2,none⟩=some (.int .i64 nn)) (d3:w.cell? ⟨g,i*7+3,none⟩=some (.int .i64 en)) (d4:w.cell? ⟨g,i*7+4,none⟩=some (.int .i64 nx)) (d5:w.cell? ⟨g,i*7+5,none⟩=some (.int .i64 dp)) (d6:w.cell? ⟨g,i*7+6,none⟩=some (.int .i64 lg)):
  Calls prog 217 #[.pointer (some ⟨bp,0,none⟩),.agg #[.int .i64 i,.int .i64 c],.int .i64 0] w fun e w'=>e=.returned (.tuple #[.agg #[.int .i64 ((i:Int)+1),.int .i64 c],.agg #[.int .i64 0,.int .i64 0]])/\Below w w w':=by
 have E:(0:Int)<=(i:Int):=by omega
 have G:=z5s hn hi;have D:=World.block_lt_of_cell? w ⟨bp,0,none⟩ c0;have C:=World.block_lt_of_cell? w ⟨g,i*7,none⟩ d0;have A:∀O2 O3,(((w.alloc (.cells #[.int .i64 i,.int .i64 c] 172)).alloc O2).alloc O3).cell? ⟨w,0,none⟩=some (.int .i64 i):=fun O2 O3=>by simp[go_sem]
 have B:∀O2 O3 O4,((((w.alloc (.cells #[.int .i64 i,.int .i64 c] 172)).alloc O2).alloc O3).alloc O4).cell? ⟨w,0,none⟩=some (.int .i64 i):=fun O2 O3 O4=>ka (A O2 O3) O4
 go_in;go_wp2_with fail
 go_region_held3 (fun w'=>w'.cell? ⟨bp,0,none⟩=some (.slice (some ⟨g,0,none⟩) n n)/\w'.cell? ⟨w,0,none⟩=some (.int .i64 i)/\w'.cell? ⟨g,i*7,none⟩=some (.int .i64 9)/\w'.cell? ⟨g,i*7+1,none⟩=some (.string tx)/\w'.cell? ⟨g,i*7+2,none⟩=some (.int .i64 nn)/\w'.cell? ⟨g,i*7+3,none⟩=some (.int .i64 en)/\w'.cell? ⟨g,i*7+4,none⟩=some (.int .i64 nx)/\w'.cell? ⟨g,i*7+5,none⟩=some (.int .i64 dp)/\w'.cell? ⟨g,i*7+6,none⟩=some (.int .i64 lg))
  (first|exact⟨k3 c0 _ _ _,A _ _,k3 d0 _ _ _,k3 d1 _ _ _,k3 d2 _ _ _,k3 d3 _ _ _,k3 d4 _ _ _,k3 d5 _ _ _,k3 d6 _ _ _⟩|exact⟨k4 c0 _ _ _ _,B _ _ _,k4 d0 _ _ _ _,k4 d1 _ _ _ _,k4 d2 _ _ _ _,k4 d3 _ _ _ _,k4 d4 _ _ _ _,k4 d5 _ _ _ _,k4 d6 _ _ _ _⟩) (fail)
 all_goals
  go_wp2;exact bodyPost_ret (v:=.tuple #[.agg #[.int .i64 ((i:Int)+1),.int .i64 c],.agg #[.int .i64 0,.int .i64 0]]) (by simp[results,Tryz.results217,go_sem]) rfl ⟨rfl,(v6u w _ _ _ _).drew⟩
theorem j5r(s:ByteArray)(w:World):Calls prog 33 #[.string s] w fun e w'=>j1t s w e w'/\Below w w w':=by
 by_cases h:(btL s).length<=60000
 ·exact j5s s w h
 ·have A:Hid (q5u (btL s)=3/\z3f (btL s)=0):=k1f (by omega);have B:60000<(s.size:Int):=by rw[q0c]at h;omega
  clear h;go_in;go_wp2;refine bodyPost_ret (v:=.tuple #[.slice none 0 0,.slice none 0 0,.int .i64 0,.int .i64 3]) (by simp[results,Tryz.results33,go_sem]) rfl ?_;exact⟨.inl ⟨by rw[A.o.1];decide,by rw[A.o.1,A.o.2];rfl⟩,Below.refl _ _⟩
def y9h(L:List UInt8):List Int:=(z1h L).map fun(k:Nat)=>(k:Int)
def y9j(L:List UInt8):List ByteArray:=(q2c L).map wbS
theorem j0b{B:Nat}{w:World}{A:Option Addr}{n c:Nat}{ks:List Nat}(h:z1j B (.slice A n c) ks w):q7r w A (ks.map fun(k:Nat)=>(k:Int)):=by
 intro j C;rw[List.length_map]at C;obtain⟨g,rfl,E,D⟩:=z6t h j C;exact⟨g,0,rfl,E,by rw[Nat.zero_add,List.getElem_map];exact D⟩
structure y7b(L:List UInt8)(A P:Option Addr)(ac pc:Nat)(w:World):Prop where
 ws:Wds w A (y9j L)
 ps:q7r w P (y9h L)
 wl:(q2c L).length<=ac
 pl:(q2c L).length<=pc
 wn:A=none->(q2c L).length=0/\ac=0
 pn:P=none->(q2c L).length=0/\pc=0
theorem y7b.W{L:List UInt8}{A P:Option Addr}{ac pc:Nat}{w w':World}(h:y7b L A P ac pc w)(hb:Below w w w'):y7b L A P ac pc w':=
 {ws:=h.ws.W hb,ps:=h.ps.W hb,wl:=h.wl,pl:=h.pl,wn:=h.wn,pn:=h.pn}
theorem j5t{L:List UInt8}(h:q5u L=0):(q2c L).length<=60000:=Nat.le_trans (v0h L) (z4g h).1
end Go.Proofs.YtfdppahhbpfnoaaGreatDoor
