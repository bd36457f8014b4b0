import Derived.Test.YtchdplceopegoaaGreatDoorPi07
open Go.Proofs.Tryz
namespace Go.Proofs.YtchdplceopegoaaGreatDoor
open Go Go.RowKit
set_option maxRecDepth 100000
set_option maxHeartbeats 4000000
theorem v9y(w:World)(O1 O2 O3 O4:Obj):Below w w ((((w.alloc O1).alloc O2).alloc O3).alloc O4):=(g1p w O1 O2 O3).alloc (by simp;omega) _
theorem k3{w:World}{b o:Nat}{v:Value}(h:w.cell? ⟨b,o,none⟩=some v)(O1 O2 O3:Obj):(((w.alloc O1).alloc O2).alloc O3).cell? ⟨b,o,none⟩=some v:=ka (ka (ka h _) _) _
theorem k4{w:World}{b o:Nat}{v:Value}(h:w.cell? ⟨b,o,none⟩=some v)(O1 O2 O3 O4:Obj):((((w.alloc O1).alloc O2).alloc O3).alloc O4).cell? ⟨b,o,none⟩=some v:=ka (k3 h _ _ _) _
theorem k4d{w:World}{b o:Nat}{v:Value}(h:w.cell? ⟨b,o,none⟩=some v)(O1 O2 O3 O4:Obj):((((w.alloc O1).alloc O2).alloc O3).alloc O4).drew.cell? ⟨b,o,none⟩=some v:=k4 h _ _ _ _
theorem j1e(bp g n wd i c:Nat)(tx:ByteArray)(nn en:Int)(nx dp:Nat)(lg:Int)(ch:Nat)(w:World)(hi:(i:Int)<n)(hw:wd<=100)(hc:c<=100)(hk:tx.size<=20000)
  (c0:w.cell? ⟨bp,0,none⟩=some (.slice (some ⟨g,0,none⟩) n n)) (c1:w.cell? ⟨bp,1,none⟩=some (.int .i64 wd))
  (d0:w.cell? ⟨g,i*7,none⟩=some (.int .i64 1)) (d1:w.cell? ⟨g,i*7+1,none⟩=some (.string tx)) (d2:w.cell? ⟨g,i*7+2,none⟩=some (.int .i64 nn)) (d3:w.cell? ⟨g,i*7+3,none⟩=some (.int .i64 en)) (d4:w.cell? ⟨g,i*7+4,none⟩=some (.int .i64 nx)) (d5:w.cell? ⟨g,i*7+5,none⟩=some (.int .i64 dp)) (d6:w.cell? ⟨g,i*7+6,none⟩=some (.int .i64 lg)):
  Cb 222 #[.pointer (some ⟨bp,0,none⟩),.agg #[.int .i64 i,.int .i64 c],.int .i64 ch] w (.tuple #[.agg #[.int .i64 nx,.int .i64 ((min (c+tx.size) wd:Nat):Int)],.agg #[.int .i64 ((c+tx.size-wd:Nat):Int),.int .i64 0]]):=by
 unfold Cb;have O:(0:Int)<=(i:Int):=by omega
 have N:=World.block_lt_of_cell? w ⟨bp,0,none⟩ c0;have H:=World.block_lt_of_cell? w ⟨g,i*7,none⟩ d0;have E:∀O2 O3,(((w.alloc (.cells #[.int .i64 i,.int .i64 c] 216)).alloc O2).alloc O3).cell? ⟨w,0,none⟩=some (.int .i64 i):=fun O2 O3=>by simp[go_sem]
 have G:∀O2 O3 O4,((((w.alloc (.cells #[.int .i64 i,.int .i64 c] 216)).alloc O2).alloc O3).alloc O4).cell? ⟨w,0,none⟩=some (.int .i64 i):=fun O2 O3 O4=>ka (E O2 O3) O4
 go_in;go_wp2_with fail
 go_region_held3 (fun w'=>w'.cell? ⟨bp,0,none⟩=some (.slice (some ⟨g,0,none⟩) n n)/\w'.cell? ⟨w,0,none⟩=some (.int .i64 i)/\w'.cell? ⟨g,i*7,none⟩=some (.int .i64 1)/\w'.cell? ⟨g,i*7+1,none⟩=some (.string tx)/\w'.cell? ⟨g,i*7+2,none⟩=some (.int .i64 nn)/\w'.cell? ⟨g,i*7+3,none⟩=some (.int .i64 en)/\w'.cell? ⟨g,i*7+4,none⟩=some (.int .i64 nx)/\w'.cell? ⟨g,i*7+5,none⟩=some (.int .i64 dp)/\w'.cell? ⟨g,i*7+6,none⟩=some (.int .i64 lg))
  (first|exact⟨k3 c0 _ _ _,E _ _,k3 d0 _ _ _,k3 d1 _ _ _,k3 d2 _ _ _,k3 d3 _ _ _,k3 d4 _ _ _,k3 d5 _ _ _,k3 d6 _ _ _⟩|exact⟨k4 c0 _ _ _ _,G _ _ _,k4 d0 _ _ _ _,k4 d1 _ _ _ _,k4 d2 _ _ _ _,k4 d3 _ _ _ _,k4 d4 _ _ _ _,k4 d5 _ _ _ _,k4 d6 _ _ _ _⟩) (fail)
 all_goals
  go_wp2_with fail;refine(z2g bp wd nx c tx.size _ hw hc hk (k4d c1 _ _ _ _)).mono ?_;rintro e C⟨rfl,D⟩;obtain⟨A,B⟩:=q0s D;have P:w.heap.size+1+1+1+1<=C.heap.size:=by have:=D.size;simpa using this
  have I:C.cell? ⟨w.heap.size+1,0,none⟩=some (.int .i64 0):=(A _ _ (by simp)).trans (by simp[go_sem]);have J:C.cell? ⟨w.heap.size+1,1,none⟩=some (.int .i64 0):=(A _ _ (by simp)).trans (by simp[go_sem]);have K:C.cell? ⟨w.heap.size+1+1,0,none⟩=some (.int .i64 0):=(A _ _ (by simp)).trans (by simp[go_sem]);have L:C.cell? ⟨w.heap.size+1+1,1,none⟩=some (.int .i64 0):=(A _ _ (by simp)).trans (by simp[go_sem]);have Q:C.frozen? ⟨w.heap.size+1,0,none⟩=false:=(B _ _ (by simp)).trans (by simp[go_sem]);have R:C.frozen? ⟨w.heap.size+1,1,none⟩=false:=(B _ _ (by simp)).trans (by simp[go_sem]);have S:C.frozen? ⟨w.heap.size+1+1,0,none⟩=false:=(B _ _ (by simp)).trans (by simp[go_sem]);have U:C.frozen? ⟨w.heap.size+1+1,1,none⟩=false:=(B _ _ (by simp)).trans (by simp[go_sem]);have M:Below w w C:=(v9y w _ _ _ _).drew.trans (D.mono (by simp;omega));clear A B D;go_wp2;exact bodyPost_ret (v:=.tuple #[.agg #[.int .i64 nx,.int .i64 ((min (c+tx.size) wd:Nat):Int)],.agg #[.int .i64 ((c+tx.size-wd:Nat):Int),.int .i64 0]]) (by simp[results,Tryz.results222,go_sem,I,J,K,L]) rfl ⟨rfl,(((M.setCell (p:=⟨w.heap.size+1,0,none⟩) (by simp) _).setCell (p:=⟨w.heap.size+1,1,none⟩) (by simp) _).setCell (p:=⟨w.heap.size+1+1,0,none⟩) (by simp;omega) _).setCell (p:=⟨w.heap.size+1+1,1,none⟩) (by simp;omega) _⟩
theorem j1c(bp g n wd i c:Nat)(tx:ByteArray)(nn en:Int)(nx dp:Nat)(lg:Nat)(w:World)(hi:(i:Int)<n)(hw:wd<=100)(hc:c<=100)(hk:lg<=20000)
  (c0:w.cell? ⟨bp,0,none⟩=some (.slice (some ⟨g,0,none⟩) n n)) (c1:w.cell? ⟨bp,1,none⟩=some (.int .i64 wd))
  (d0:w.cell? ⟨g,i*7,none⟩=some (.int .i64 8)) (d1:w.cell? ⟨g,i*7+1,none⟩=some (.string tx)) (d2:w.cell? ⟨g,i*7+2,none⟩=some (.int .i64 nn)) (d3:w.cell? ⟨g,i*7+3,none⟩=some (.int .i64 en)) (d4:w.cell? ⟨g,i*7+4,none⟩=some (.int .i64 nx)) (d5:w.cell? ⟨g,i*7+5,none⟩=some (.int .i64 dp)) (d6:w.cell? ⟨g,i*7+6,none⟩=some (.int .i64 lg)):
  Cb 222 #[.pointer (some ⟨bp,0,none⟩),.agg #[.int .i64 i,.int .i64 c],.int .i64 0] w (.tuple #[.agg #[.int .i64 nx,.int .i64 ((min (c+lg) wd:Nat):Int)],.agg #[.int .i64 ((c+lg-wd:Nat):Int),.int .i64 0]]):=by
 unfold Cb;have O:(0:Int)<=(i:Int):=by omega
 have N:=World.block_lt_of_cell? w ⟨bp,0,none⟩ c0;have H:=World.block_lt_of_cell? w ⟨g,i*7,none⟩ d0;have E:∀O2 O3,(((w.alloc (.cells #[.int .i64 i,.int .i64 c] 216)).alloc O2).alloc O3).cell? ⟨w,0,none⟩=some (.int .i64 i):=fun O2 O3=>by simp[go_sem]
 have G:∀O2 O3 O4,((((w.alloc (.cells #[.int .i64 i,.int .i64 c] 216)).alloc O2).alloc O3).alloc O4).cell? ⟨w,0,none⟩=some (.int .i64 i):=fun O2 O3 O4=>ka (E O2 O3) O4
 go_in;go_wp2_with fail
 go_region_held3 (fun w'=>w'.cell? ⟨bp,0,none⟩=some (.slice (some ⟨g,0,none⟩) n n)/\w'.cell? ⟨w,0,none⟩=some (.int .i64 i)/\w'.cell? ⟨g,i*7,none⟩=some (.int .i64 8)/\w'.cell? ⟨g,i*7+1,none⟩=some (.string tx)/\w'.cell? ⟨g,i*7+2,none⟩=some (.int .i64 nn)/\w'.cell? ⟨g,i*7+3,none⟩=some (.int .i64 en)/\w'.cell? ⟨g,i*7+4,none⟩=some (.int .i64 nx)/\w'.cell? ⟨g,i*7+5,none⟩=some (.int .i64 dp)/\w'.cell? ⟨g,i*7+6,none⟩=some (.int .i64 lg))
  (first|exact⟨k3 c0 _ _ _,E _ _,k3 d0 _ _ _,k3 d1 _ _ _,k3 d2 _ _ _,k3 d3 _ _ _,k3 d4 _ _ _,k3 d5 _ _ _,k3 d6 _ _ _⟩|exact⟨k4 c0 _ _ _ _,G _ _ _,k4 d0 _ _ _ _,k4 d1 _ _ _ _,k4 d2 _ _ _ _,k4 d3 _ _ _ _,k4 d4 _ _ _ _,k4 d5 _ _ _ _,k4 d6 _ _ _ _⟩) (fail)
 all_goals
  go_wp2_with fail;refine(z2g bp wd nx c lg _ hw hc hk (k4d c1 _ _ _ _)).mono ?_;rintro e C⟨rfl,D⟩;obtain⟨A,B⟩:=q0s D;have P:w.heap.size+1+1+1+1<=C.heap.size:=by have:=D.size;simpa using this
  have I:C.cell? ⟨w.heap.size+1,0,none⟩=some (.int .i64 0):=(A _ _ (by simp)).trans (by simp[go_sem]);have J:C.cell? ⟨w.heap.size+1,1,none⟩=some (.int .i64 0):=(A _ _ (by simp)).trans (by simp[go_sem]);have K:C.cell? ⟨w.heap.size+1+1,0,none⟩=some (.int .i64 0):=(A _ _ (by simp)).trans (by simp[go_sem]);have L:C.cell? ⟨w.heap.size+1+1,1,none⟩=some (.int .i64 0):=(A _ _ (by simp)).trans (by simp[go_sem]);have Q:C.frozen? ⟨w.heap.size+1,0,none⟩=false:=(B _ _ (by simp)).trans (by simp[go_sem]);have R:C.frozen? ⟨w.heap.size+1,1,none⟩=false:=(B _ _ (by simp)).trans (by simp[go_sem]);have S:C.frozen? ⟨w.heap.size+1+1,0,none⟩=false:=(B _ _ (by simp)).trans (by simp[go_sem]);have U:C.frozen? ⟨w.heap.size+1+1,1,none⟩=false:=(B _ _ (by simp)).trans (by simp[go_sem]);have M:Below w w C:=(v9y w _ _ _ _).drew.trans (D.mono (by simp;omega));clear A B D;go_wp2;exact bodyPost_ret (v:=.tuple #[.agg #[.int .i64 nx,.int .i64 ((min (c+lg) wd:Nat):Int)],.agg #[.int .i64 ((c+lg-wd:Nat):Int),.int .i64 0]]) (by simp[results,Tryz.results222,go_sem,I,J,K,L]) rfl ⟨rfl,(((M.setCell (p:=⟨w.heap.size+1,0,none⟩) (by simp) _).setCell (p:=⟨w.heap.size+1,1,none⟩) (by simp) _).setCell (p:=⟨w.heap.size+1+1,0,none⟩) (by simp;omega) _).setCell (p:=⟨w.heap.size+1+1,1,none⟩) (by simp;omega) _⟩
inductive Tag (k:Nat):Type
 | mk
inductive Sel {α:Type} (k:Nat) (a b:α):Type
 | mk
def sel{α:Type}{k:Nat}(_:Tag k)(a b:α):Sel k a b:=.mk
def q5t{k:Nat}(_:Tag k)(a b:Nat):Sel k a b:=.mk
instance{α:Type}(a b:α)(s:Sel 0 a b):CoeDep (Sel 0 a b) s α:=⟨a⟩
instance{α:Type}(a b:α)(s:Sel 1 a b):CoeDep (Sel 1 a b) s α:=⟨b⟩
inductive y6k (o:Int):Type
 | mk
instance(o:Int)(t:y6k o):CoeDep (y6k o) t Int:=⟨o⟩
set_option maxHeartbeats 8000000
theorem j1f(bp g n i c:Nat)(tx:ByteArray)(nn en:Int)(nx dp:Nat)(lg:Int)(ch:Nat)(w:World)(hi:(i:Int)<n)
  (c0:w.cell? bp=some (.slice g n n))
  (d0:w.cell? (g,i*7)=some (.int .i64 5)) (d1:w.cell? (g,i*7+1)=some (.string tx)) (d2:w.cell? (g,i*7+2)=some ↑nn) (d3:w.cell? (g,i*7+3)=some ↑en) (d4:w.cell? (g,i*7+4)=some ↑nx) (d5:w.cell? (g,i*7+5)=some ↑dp) (d6:w.cell? (g,i*7+6)=some ↑lg):
  Cb 222 #[.pointer bp,.agg #[i,c],ch] w (.tuple #[.agg #[nx,c],.agg #[.int .i64 0,.int .i64 0]]):=by
 unfold Cb;have E:(0:Int)<=(i:Int):=by omega
 have D:=World.block_lt_of_cell? w bp c0;have C:=World.block_lt_of_cell? w (g,i*7) d0;have A:∀O2 O3,(((w.alloc (.cells #[i,c] 216)).alloc O2).alloc O3).cell? w.heap.size=some ↑i:=fun O2 O3=>by simp[go_sem]
 have B:∀O2 O3 O4,((((w.alloc (.cells #[i,c] 216)).alloc O2).alloc O3).alloc O4).cell? w.heap.size=some ↑i:=fun O2 O3 O4=>ka (A O2 O3) O4
 go_in;go_wp2_with fail
 go_region_held3 (fun w'=>w'.cell? bp=some (.slice g n n)/\w'.cell? w.heap.size=some ↑i/\w'.cell? (g,i*7)=some (.int .i64 5)/\w'.cell? (g,i*7+1)=some (.string tx)/\w'.cell? (g,i*7+2)=some ↑nn/\w'.cell? (g,i*7+3)=some ↑en/\w'.cell? (g,i*7+4)=some ↑nx/\w'.cell? (g,i*7+5)=some ↑dp/\w'.cell? (g,i*7+6)=some ↑lg)
  (first|exact⟨k3 c0 _ _ _,A _ _,k3 d0 _ _ _,k3 d1 _ _ _,k3 d2 _ _ _,k3 d3 _ _ _,k3 d4 _ _ _,k3 d5 _ _ _,k3 d6 _ _ _⟩|exact⟨k4 c0 _ _ _ _,B _ _ _,k4 d0 _ _ _ _,k4 d1 _ _ _ _,k4 d2 _ _ _ _,k4 d3 _ _ _ _,k4 d4 _ _ _ _,k4 d5 _ _ _ _,k4 d6 _ _ _ _⟩) (fail)
 all_goals
  go_wp2;exact bodyPost_ret (v:=.tuple #[.agg #[nx,c],.agg #[.int .i64 0,.int .i64 0]]) (by simp[results,Tryz.results222,go_sem]) rfl ⟨rfl,(v9y w _ _ _ _).drew⟩
theorem k7x(oq:Int)(ho:oq=6\/oq=7)(bp g n i c:Nat)(tx:ByteArray)(nn en:Int)(nx dp:Nat)(lg:Int)(ch:Nat)(w:World)(hn:n<=400)(hi:(i:Int)<n)
  (c0:w.cell? bp=some (.slice g n n))
  (d0:w.cell? (g,i*7)=some ↑oq) (d1:w.cell? (g,i*7+1)=some (.string tx)) (d2:w.cell? (g,i*7+2)=some ↑nn) (d3:w.cell? (g,i*7+3)=some ↑en) (d4:w.cell? (g,i*7+4)=some ↑nx) (d5:w.cell? (g,i*7+5)=some ↑dp) (d6:w.cell? (g,i*7+6)=some ↑lg):
  Cb 222 #[.pointer ↑bp,.agg #[↑i,↑c],↑ch] w (.tuple #[.agg #[↑((i:Int)+1),↑c],.agg #[.int .i64 0,.int .i64 0]]):=by
 unfold Cb;have H:y6k oq:=.mk;rcases ho with rfl|rfl
 all_goals
  have E:(0:Int)<=(i:Int):=by omega
  have G:=z6n hn hi;have D:=World.block_lt_of_cell? w bp c0;have C:=World.block_lt_of_cell? w (g,i*7) d0;have A:∀O2 O3,(((w.alloc (.cells #[i,c] 216)).alloc O2).alloc O3).cell? w.heap.size=some ↑i:=fun O2 O3=>by simp[go_sem]
  have B:∀O2 O3 O4,((((w.alloc (.cells #[i,c] 216)).alloc O2).alloc O3).alloc O4).cell? w.heap.size=some ↑i:=fun O2 O3 O4=>ka (A O2 O3) O4
  go_in;go_wp2_with fail
  go_region_held3 (fun w'=>w'.cell? bp=some (.slice g n n)/\w'.cell? w.heap.size=some ↑i/\w'.cell? (g,i*7)=some (.int .i64 ↑H)/\w'.cell? (g,i*7+1)=some (.string tx)/\w'.cell? (g,i*7+2)=some ↑nn/\w'.cell? (g,i*7+3)=some ↑en/\w'.cell? (g,i*7+4)=some ↑nx/\w'.cell? (g,i*7+5)=some ↑dp/\w'.cell? (g,i*7+6)=some ↑lg)
   (first|exact⟨k3 c0 _ _ _,A _ _,k3 d0 _ _ _,k3 d1 _ _ _,k3 d2 _ _ _,k3 d3 _ _ _,k3 d4 _ _ _,k3 d5 _ _ _,k3 d6 _ _ _⟩|exact⟨k4 c0 _ _ _ _,B _ _ _,k4 d0 _ _ _ _,k4 d1 _ _ _ _,k4 d2 _ _ _ _,k4 d3 _ _ _ _,k4 d4 _ _ _ _,k4 d5 _ _ _ _,k4 d6 _ _ _ _⟩) (fail)
  all_goals
   go_wp2;exact bodyPost_ret (v:=.tuple #[.agg #[↑((i:Int)+1),↑c],.agg #[.int .i64 0,.int .i64 0]]) (by simp[results,Tryz.results222,go_sem]) rfl ⟨rfl,(v9y w _ _ _ _).drew⟩
theorem z4l(bp g n i c:Nat)(tx:ByteArray)(nn en:Int)(nx dp:Nat)(lg:Int)(w:World)(hn:n<=400)(hi:(i:Int)<n)
  (c0:w.cell? bp=some (.slice g n n))
  (d0:w.cell? (g,i*7)=some (.int .i64 8)) (d1:w.cell? (g,i*7+1)=some (.string tx)) (d2:w.cell? (g,i*7+2)=some ↑nn) (d3:w.cell? (g,i*7+3)=some ↑en) (d4:w.cell? (g,i*7+4)=some ↑nx) (d5:w.cell? (g,i*7+5)=some ↑dp) (d6:w.cell? (g,i*7+6)=some ↑lg):
  Cb 222 #[.pointer ↑bp,.agg #[↑i,↑c],.int .i64 1] w (.tuple #[.agg #[↑((i:Int)+1),↑c],.agg #[.int .i64 0,.int .i64 0]]):=by
 unfold Cb;have E:(0:Int)<=(i:Int):=by omega
 have G:=z6n hn hi;have D:=World.block_lt_of_cell? w bp c0;have C:=World.block_lt_of_cell? w (g,i*7) d0;have A:∀O2 O3,(((w.alloc (.cells #[i,c] 216)).alloc O2).alloc O3).cell? w.heap.size=some ↑i:=fun O2 O3=>by simp[go_sem]
 have B:∀O2 O3 O4,((((w.alloc (.cells #[i,c] 216)).alloc O2).alloc O3).alloc O4).cell? w.heap.size=some ↑i:=fun O2 O3 O4=>ka (A O2 O3) O4
 go_in;go_wp2_with fail
 go_region_held3 (fun w'=>w'.cell? bp=some (.slice g n n)/\w'.cell? w.heap.size=some ↑i/\w'.cell? (g,i*7)=some (.int .i64 8)/\w'.cell? (g,i*7+1)=some (.string tx)/\w'.cell? (g,i*7+2)=some ↑nn/\w'.cell? (g,i*7+3)=some ↑en/\w'.cell? (g,i*7+4)=some ↑nx/\w'.cell? (g,i*7+5)=some ↑dp/\w'.cell? (g,i*7+6)=some ↑lg)
  (first|exact⟨k3 c0 _ _ _,A _ _,k3 d0 _ _ _,k3 d1 _ _ _,k3 d2 _ _ _,k3 d3 _ _ _,k3 d4 _ _ _,k3 d5 _ _ _,k3 d6 _ _ _⟩|exact⟨k4 c0 _ _ _ _,B _ _ _,k4 d0 _ _ _ _,k4 d1 _ _ _ _,k4 d2 _ _ _ _,k4 d3 _ _ _ _,k4 d4 _ _ _ _,k4 d5 _ _ _ _,k4 d6 _ _ _ _⟩) (fail)
 all_goals
  go_wp2;exact bodyPost_ret (v:=.tuple #[.agg #[↑((i:Int)+1),↑c],.agg #[.int .i64 0,.int .i64 0]]) (by simp[results,Tryz.results222,go_sem]) rfl ⟨rfl,(v9y w _ _ _ _).drew⟩
theorem j1d(bp g n i c:Nat)(tx:ByteArray)(nn en:Int)(nx dp:Nat)(lg:Int)(w:World)(hn:n<=400)(hi:(i:Int)<n)
  (c0:w.cell? bp=some (.slice g n n))
  (d0:w.cell? (g,i*7)=some (.int .i64 9)) (d1:w.cell? (g,i*7+1)=some (.string tx)) (d2:w.cell? (g,i*7+2)=some ↑nn) (d3:w.cell? (g,i*7+3)=some ↑en) (d4:w.cell? (g,i*7+4)=some ↑nx) (d5:w.cell? (g,i*7+5)=some ↑dp) (d6:w.cell? (g,i*7+6)=some ↑lg):
  Cb 222 #[.pointer ↑bp,.agg #[↑i,↑c],.int .i64 0] w (.tuple #[.agg #[↑((i:Int)+1),↑c],.agg #[.int .i64 0,.int .i64 0]]):=by
 unfold Cb;have E:(0:Int)<=(i:Int):=by omega
 have G:=z6n hn hi;have D:=World.block_lt_of_cell? w bp c0;have C:=World.block_lt_of_cell? w (g,i*7) d0;have A:∀O2 O3,(((w.alloc (.cells #[i,c] 216)).alloc O2).alloc O3).cell? w.heap.size=some ↑i:=fun O2 O3=>by simp[go_sem]
 have B:∀O2 O3 O4,((((w.alloc (.cells #[i,c] 216)).alloc O2).alloc O3).alloc O4).cell? w.heap.size=some ↑i:=fun O2 O3 O4=>ka (A O2 O3) O4
 go_in;go_wp2_with fail
 go_region_held3 (fun w'=>w'.cell? bp=some (.slice g n n)/\w'.cell? w.heap.size=some ↑i/\w'.cell? (g,i*7)=some (.int .i64 9)/\w'.cell? (g,i*7+1)=some (.string tx)/\w'.cell? (g,i*7+2)=some ↑nn/\w'.cell? (g,i*7+3)=some ↑en/\w'.cell? (g,i*7+4)=some ↑nx/\w'.cell? (g,i*7+5)=some ↑dp/\w'.cell? (g,i*7+6)=some ↑lg)
  (first|exact⟨k3 c0 _ _ _,A _ _,k3 d0 _ _ _,k3 d1 _ _ _,k3 d2 _ _ _,k3 d3 _ _ _,k3 d4 _ _ _,k3 d5 _ _ _,k3 d6 _ _ _⟩|exact⟨k4 c0 _ _ _ _,B _ _ _,k4 d0 _ _ _ _,k4 d1 _ _ _ _,k4 d2 _ _ _ _,k4 d3 _ _ _ _,k4 d4 _ _ _ _,k4 d5 _ _ _ _,k4 d6 _ _ _ _⟩) (fail)
 all_goals
  go_wp2;exact bodyPost_ret (v:=.tuple #[.agg #[↑((i:Int)+1),↑c],.agg #[.int .i64 0,.int .i64 0]]) (by simp[results,Tryz.results222,go_sem]) rfl ⟨rfl,(v9y w _ _ _ _).drew⟩
theorem k1s(bp g n i c:Nat)(tx:ByteArray)(nn en:Int)(nx dp:Nat)(lg:Int)(x:Int)(w:World)(hn:n<=400)(hi:(i:Int)<n)(E:(i:Int)+1<n)(dx:w.cell? (g,(i+1)*7+3)=some ↑x)
  (c0:w.cell? bp=some (.slice g n n))
  (d0:w.cell? (g,i*7)=some (.int .i64 9)) (d1:w.cell? (g,i*7+1)=some (.string tx)) (d2:w.cell? (g,i*7+2)=some ↑nn) (d3:w.cell? (g,i*7+3)=some ↑en) (d4:w.cell? (g,i*7+4)=some ↑nx) (d5:w.cell? (g,i*7+5)=some ↑dp) (d6:w.cell? (g,i*7+6)=some ↑lg):
  Cb 222 #[.pointer bp,.agg #[i,c],.int .i64 1] w (.tuple #[.agg #[x,c],.agg #[.int .i64 0,.int .i64 0]]):=by
 unfold Cb;have H:(0:Int)<=(i:Int):=by omega
 have K:=z6n hn hi;have G:=World.block_lt_of_cell? w bp c0;have D:=World.block_lt_of_cell? w (g,i*7) d0;have A:∀O2 O3,(((w.alloc (.cells #[i,c] 216)).alloc O2).alloc O3).cell? w.heap.size=some ↑i:=fun O2 O3=>by simp[go_sem]
 have B:∀O2 O3 O4,((((w.alloc (.cells #[i,c] 216)).alloc O2).alloc O3).alloc O4).cell? w.heap.size=some ↑i:=fun O2 O3 O4=>ka (A O2 O3) O4
 have C:∀O2 O3 O4,((((w.alloc (.cells #[i,c] 216)).alloc O2).alloc O3).alloc O4).cell? (w.heap.size,1)=some ↑c:=fun O2 O3 O4=>by simp[go_sem]
 have I:(0:Int)<=(i:Int)+1:=by omega
 have J:((i:Int)+1).toNat=i+1:=by omega
 go_in;go_wp2_with fail
 go_region_held3 (fun w'=>w'.cell? bp=some (.slice g n n)/\w'.cell? w.heap.size=some ↑i/\w'.cell? (g,i*7)=some (.int .i64 9)/\w'.cell? (g,i*7+1)=some (.string tx)/\w'.cell? (g,i*7+2)=some ↑nn/\w'.cell? (g,i*7+3)=some ↑en/\w'.cell? (g,i*7+4)=some ↑nx/\w'.cell? (g,i*7+5)=some ↑dp/\w'.cell? (g,i*7+6)=some ↑lg)
  (first|exact⟨k3 c0 _ _ _,A _ _,k3 d0 _ _ _,k3 d1 _ _ _,k3 d2 _ _ _,k3 d3 _ _ _,k3 d4 _ _ _,k3 d5 _ _ _,k3 d6 _ _ _⟩|exact⟨k4 c0 _ _ _ _,B _ _ _,k4 d0 _ _ _ _,k4 d1 _ _ _ _,k4 d2 _ _ _ _,k4 d3 _ _ _ _,k4 d4 _ _ _ _,k4 d5 _ _ _ _,k4 d6 _ _ _ _⟩) (fail)
 all_goals
  go_wp2_with fail
  go_region_held3 (fun w'=>w'.cell? bp=some (.slice g n n)/\w'.cell? w.heap.size=some ↑i/\w'.cell? (w.heap.size,1)=some ↑c/\w'.cell? (g,(i+1)*7+3)=some ↑x)
   (exact⟨k4 c0 _ _ _ _,B _ _ _,C _ _ _,k4 dx _ _ _ _⟩) (fail)
  all_goals
   go_wp2;exact bodyPost_ret (v:=.tuple #[.agg #[x,c],.agg #[.int .i64 0,.int .i64 0]]) (by simp[results,Tryz.results222,go_sem]) rfl ⟨rfl,(v9y w _ _ _ _).drew.drew⟩
set_option maxHeartbeats 16000000
instance cellInt{w:World}{p:Addr}{v:Int}(h:w.cell? p=some (.int .i64 v)):CoeDep (w.cell? p=some (.int .i64 v)) h Int:=⟨v⟩
theorem z2f(op:Int)(ho:op=2\/op=3\/op=4)(bp g n wd i c:Nat)(tx:ByteArray)(nn en:Int)(nx dp:Nat)(lg:Int)(ch:Nat)(w:World)(hi:(i:Int)<n)(hw:wd<=100)(hk:dp<=20000)
  (c0:w.cell? ⟨bp,0,none⟩=some (.slice (some ⟨g,0,none⟩) n n)) (c1:w.cell? ⟨bp,1,none⟩=some (.int .i64 wd))
  (d0:w.cell? ⟨g,i*7,none⟩=some (.int .i64 op)) (d1:w.cell? ⟨g,i*7+1,none⟩=some (.string tx)) (d2:w.cell? ⟨g,i*7+2,none⟩=some (.int .i64 nn)) (d3:w.cell? ⟨g,i*7+3,none⟩=some (.int .i64 en)) (d4:w.cell? ⟨g,i*7+4,none⟩=some (.int .i64 nx)) (d5:w.cell? ⟨g,i*7+5,none⟩=some (.int .i64 dp)) (d6:w.cell? ⟨g,i*7+6,none⟩=some (.int .i64 lg)):
  Cb 222 #[.pointer (some ⟨bp,0,none⟩),.agg #[.int .i64 i,.int .i64 c],.int .i64 ch] w (.tuple #[.agg #[.int .i64 nx,.int .i64 ((min dp wd:Nat):Int)],.agg #[.int .i64 ((dp-wd:Nat):Int),.int .i64 1]]):=by
 unfold Cb;have Aa:(0:Int)<=(i:Int):=by omega
 have z:=World.block_lt_of_cell? w ⟨bp,0,none⟩ c0;have l:=World.block_lt_of_cell? w ⟨g,i*7,none⟩ d0;have I:∀O2 O3,(((w.alloc (.cells #[.int .i64 i,.int .i64 c] 216)).alloc O2).alloc O3).cell? ⟨w,0,none⟩=some (.int .i64 i):=fun O2 O3=>by simp[go_sem]
 have K:∀O2 O3 O4,((((w.alloc (.cells #[.int .i64 i,.int .i64 c] 216)).alloc O2).alloc O3).alloc O4).cell? ⟨w,0,none⟩=some (.int .i64 i):=fun O2 O3 O4=>ka (I O2 O3) O4
 rcases ho with rfl|rfl|rfl
 all_goals
  go_in;go_wp2_with fail
  go_region_held3 (fun w'=>w'.cell? ⟨bp,0,none⟩=some (.slice (some ⟨g,0,none⟩) n n)/\w'.cell? ⟨w,0,none⟩=some (.int .i64 i)/\w'.cell? ⟨g,i*7,none⟩=some (.int .i64 (d0:Int))/\w'.cell? ⟨g,i*7+1,none⟩=some (.string tx)/\w'.cell? ⟨g,i*7+2,none⟩=some (.int .i64 nn)/\w'.cell? ⟨g,i*7+3,none⟩=some (.int .i64 en)/\w'.cell? ⟨g,i*7+4,none⟩=some (.int .i64 nx)/\w'.cell? ⟨g,i*7+5,none⟩=some (.int .i64 dp)/\w'.cell? ⟨g,i*7+6,none⟩=some (.int .i64 lg))
   (first|exact⟨k3 c0 _ _ _,I _ _,k3 d0 _ _ _,k3 d1 _ _ _,k3 d2 _ _ _,k3 d3 _ _ _,k3 d4 _ _ _,k3 d5 _ _ _,k3 d6 _ _ _⟩|exact⟨k4 c0 _ _ _ _,K _ _ _,k4 d0 _ _ _ _,k4 d1 _ _ _ _,k4 d2 _ _ _ _,k4 d3 _ _ _ _,k4 d4 _ _ _ _,k4 d5 _ _ _ _,k4 d6 _ _ _ _⟩) (fail)
  all_goals
   go_wp2_with fail;refine(k5h bp wd nx dp _ hw hk (k4d c1 _ _ _ _)).mono ?_;rintro e A⟨rfl,D⟩;obtain⟨B,C⟩:=q0s D;have Ab:w.heap.size+1+1+1+1<=A.heap.size:=by have:=D.size;simpa using this
   have V:A.cell? ⟨w.heap.size+1,0,none⟩=some (.int .i64 0):=(B _ _ (by simp)).trans (by simp[go_sem]);have W:A.cell? ⟨w.heap.size+1,1,none⟩=some (.int .i64 0):=(B _ _ (by simp)).trans (by simp[go_sem]);have X:A.cell? ⟨w.heap.size+1+1,0,none⟩=some (.int .i64 0):=(B _ _ (by simp)).trans (by simp[go_sem]);have Y:A.cell? ⟨w.heap.size+1+1,1,none⟩=some (.int .i64 0):=(B _ _ (by simp)).trans (by simp[go_sem]);have Z:A.frozen? ⟨w.heap.size+1,0,none⟩=false:=(C _ _ (by simp)).trans (by simp[go_sem]);have a:A.frozen? ⟨w.heap.size+1,1,none⟩=false:=(C _ _ (by simp)).trans (by simp[go_sem]);have b:A.frozen? ⟨w.heap.size+1+1,0,none⟩=false:=(C _ _ (by simp)).trans (by simp[go_sem]);have d:A.frozen? ⟨w.heap.size+1+1,1,none⟩=false:=(C _ _ (by simp)).trans (by simp[go_sem]);have y:Below w w A:=(v9y w _ _ _ _).drew.trans (D.mono (by simp;omega));clear B C D;have m:=fun O1 O2=>ka (ka V O1) O2
   have o:=fun O1 O2=>ka (ka W O1) O2
   have q:=fun O1 O2=>ka (ka X O1) O2
   have r:=fun O1 O2=>ka (ka Y O1) O2
   have f:∀O1 O2,((A.alloc O1).alloc O2).frozen? ⟨w.heap.size+1,0,none⟩=false:=fun O1 O2=>kaf (by simp;omega) (kaf (by omega) Z O1) O2
   have h:∀O1 O2,((A.alloc O1).alloc O2).frozen? ⟨w.heap.size+1,1,none⟩=false:=fun O1 O2=>kaf (by simp;omega) (kaf (by omega) a O1) O2
   have j:∀O1 O2,((A.alloc O1).alloc O2).frozen? ⟨w.heap.size+1+1,0,none⟩=false:=fun O1 O2=>kaf (by simp;omega) (kaf (by omega) b O1) O2
   have k:∀O1 O2,((A.alloc O1).alloc O2).frozen? ⟨w.heap.size+1+1,1,none⟩=false:=fun O1 O2=>kaf (by simp;omega) (kaf (by omega) d O1) O2
   have E:∀O1 O2,Below w w ((A.alloc O1).alloc O2):=fun O1 O2=>(y.alloc (by omega) O1).alloc (by simp;omega) O2
   generalize G:((min dp wd:Nat):Int)=m1 at *;generalize H:((dp-wd:Nat):Int)=m2 at *;have U:Hid (((min dp wd:Nat):Int)=m1/\((dp-wd:Nat):Int)=m2):=⟨G,H⟩;clear G H;have P:((A.alloc (.cells #[.int .i64 nx,.int .i64 m1] 216)).alloc (.cells #[.int .i64 m2,.int .i64 1] 94)).cell? ⟨A,0,none⟩=some (.int .i64 nx):=by simp[go_sem]
   have Q:((A.alloc (.cells #[.int .i64 nx,.int .i64 m1] 216)).alloc (.cells #[.int .i64 m2,.int .i64 1] 94)).cell? ⟨A,1,none⟩=some (.int .i64 m1):=by simp[go_sem]
   have R:((A.alloc (.cells #[.int .i64 nx,.int .i64 m1] 216)).alloc (.cells #[.int .i64 m2,.int .i64 1] 94)).cell? ⟨A.heap.size+1,0,none⟩=some (.int .i64 m2):=by simp[go_sem]
   have S:((A.alloc (.cells #[.int .i64 nx,.int .i64 m1] 216)).alloc (.cells #[.int .i64 m2,.int .i64 1] 94)).cell? ⟨A.heap.size+1,1,none⟩=some (.int .i64 1):=by simp[go_sem]
   have L:=m (.cells #[.int .i64 nx,.int .i64 m1] 216) (.cells #[.int .i64 m2,.int .i64 1] 94);have M:=o (.cells #[.int .i64 nx,.int .i64 m1] 216) (.cells #[.int .i64 m2,.int .i64 1] 94);have N:=q (.cells #[.int .i64 nx,.int .i64 m1] 216) (.cells #[.int .i64 m2,.int .i64 1] 94);have O:=r (.cells #[.int .i64 nx,.int .i64 m1] 216) (.cells #[.int .i64 m2,.int .i64 1] 94);have s:=f (.cells #[.int .i64 nx,.int .i64 m1] 216) (.cells #[.int .i64 m2,.int .i64 1] 94);have t:=h (.cells #[.int .i64 nx,.int .i64 m1] 216) (.cells #[.int .i64 m2,.int .i64 1] 94);have u:=j (.cells #[.int .i64 nx,.int .i64 m1] 216) (.cells #[.int .i64 m2,.int .i64 1] 94);have x:=k (.cells #[.int .i64 nx,.int .i64 m1] 216) (.cells #[.int .i64 m2,.int .i64 1] 94);have J:=E (.cells #[.int .i64 nx,.int .i64 m1] 216) (.cells #[.int .i64 m2,.int .i64 1] 94);clear E m o q r f h j k V W X Y Z a b d;go_wp2_with fail
   generalize(A.alloc (.cells #[.int .i64 nx,.int .i64 m1] 216)).alloc (.cells #[.int .i64 m2,.int .i64 1] 94)=w3 at *
   go_region_held3 (fun w'=>w'.cell? ⟨A,0,none⟩=some (.int .i64 nx)/\w'.cell? ⟨A,1,none⟩=some (.int .i64 m1)/\w'.cell? ⟨A.heap.size+1,0,none⟩=some (.int .i64 m2)/\w'.cell? ⟨A.heap.size+1,1,none⟩=some (.int .i64 1))
    (first|exact⟨P,Q,R,S⟩|exact⟨(cso (by omega)).trans ((cso (by omega)).trans P),(cso (by omega)).trans ((cso (by omega)).trans Q),(cso (by omega)).trans ((cso (by omega)).trans R),(cso (by omega)).trans ((cso (by omega)).trans S)⟩|exact⟨(cso (by omega)).trans ((cso (by omega)).trans ((cso (by omega)).trans ((cso (by omega)).trans P))),(cso (by omega)).trans ((cso (by omega)).trans ((cso (by omega)).trans ((cso (by omega)).trans Q))),(cso (by omega)).trans ((cso (by omega)).trans ((cso (by omega)).trans ((cso (by omega)).trans R))),(cso (by omega)).trans ((cso (by omega)).trans ((cso (by omega)).trans ((cso (by omega)).trans S)))⟩) (fail)
   all_goals
    go_wp2;exact bodyPost_ret (v:=.tuple #[.agg #[.int .i64 nx,.int .i64 m1],.agg #[.int .i64 m2,.int .i64 1]]) (by simp[results,Tryz.results222,go_sem,L,M,N,O]) rfl ⟨by rw[U.o.1,U.o.2],((((J.setCell (p:=⟨w.heap.size+1,0,none⟩) (by simp) _).setCell (p:=⟨w.heap.size+1,1,none⟩) (by simp) _).setCell (p:=⟨w.heap.size+1+1,0,none⟩) (by simp;omega) _).setCell (p:=⟨w.heap.size+1+1,1,none⟩) (by simp;omega) _).drew⟩
structure q6j(w:World)(bp g wd:Nat)(R:List Pl):Prop where
 c0:w.cell? ⟨bp,0,none⟩=some (.slice (some ⟨g,0,none⟩) R.length R.length)
 c1:w.cell? ⟨bp,1,none⟩=some (.int .i64 wd)
 pr:PwR w g R.length (fun j=>q2 (q1r R j))
theorem q6j.kept{w w':World}{bp g wd:Nat}{R:List Pl}(h:q6j w bp g wd R)(h1:w'.heap[bp]?=w.heap[bp]?)(h2:w'.heap[g]?=w.heap[g]?):q6j w' bp g wd R:=
 ⟨(World.cell?_of_block (w:=w) (a:=⟨bp,0,none⟩) h1).trans h.c0,(World.cell?_of_block (w:=w) (a:=⟨bp,1,none⟩) h1).trans h.c1,h.pr.kept h2⟩
theorem q6j.ltB{w:World}{bp g wd:Nat}{R:List Pl}(h:q6j w bp g wd R):bp<w.heap.size:=World.block_lt_of_cell? w ⟨bp,0,none⟩ h.c0
theorem q6j.ltG{w:World}{bp g wd:Nat}{R:List Pl}(h:q6j w bp g wd R):g<w.heap.size:=h.pr.row.lt
theorem q6j.alloc{w:World}{bp g wd:Nat}{R:List Pl}(h:q6j w bp g wd R)(O:Obj):q6j (w.alloc O) bp g wd R:=h.kept (Below.heap_alloc _ _ _ h.ltB) (Below.heap_alloc _ _ _ h.ltG)
theorem j5j{R:List Pl}{L M i nx dp wd c ch:Nat}{ks:List (Nat × Tr)}{t:Tr}(bp g:Nat)(w:World)(hR:R.length<=400)(h:Sp R L M i t nx dp ks)(hc:c<=wd)(hw:wd<=100)(hL:L<=400)(hM:M<=3200)(K:ch=0\/ch=1)(hh:t.lg=-1->ch=1)(hP:q6j w bp g wd R):
  Cb 222 #[.pointer (some ⟨bp,0,none⟩),.agg #[.int .i64 i,.int .i64 c],.int .i64 ch] w (.tuple #[.agg #[.int .i64 (q3p R wd i c ch).np,.int .i64 (q3p R wd i c ch).nc],.agg #[.int .i64 (q3p R wd i c ch).o,.int .i64 (q3p R wd i c ch).l]]):=by
 unfold Cb;have C:(i:Int)<(R.length:Nat):=by have:=h.lt;omega
 have d:=hP.pr.get i h.lt;have Q:=h.bd;have O:=h.bl;rw[h.at]at d;have J:c<=100:=by omega
 cases t with
 | leaf x=>
  have S:=q2d h.wf.1;have A:w.cell? ⟨g,i*7,none⟩=some (.int .i64 x.op):=d.c0;rcases q4a h.wf.1 h.wf.2 with e|e|e|e|e
  ·rw[q5n h,z9w e];rw[e]at A;refine(j1e bp g R.length wd i c x.tx _ _ nx dp 0 ch w C hw J (by have:=q4c (S.2.2.2.2.1 e);omega) hP.c0 hP.c1 A d.c1 d.c2 d.c3 d.c4 d.c5 d.c6).mono ?_;rintro e D⟨rfl,B⟩;exact⟨rfl,B⟩
  ·rw[q5n h,z1a (.inl e)];rw[e]at A;refine(z2f 2 (.inl rfl) bp g R.length wd i c x.tx _ _ nx dp 0 ch w C hw (by omega) hP.c0 hP.c1 A d.c1 d.c2 d.c3 d.c4 d.c5 d.c6).mono ?_;rintro e D⟨rfl,B⟩;exact⟨rfl,B⟩
  ·rw[q5n h,z1a (.inr (.inl e))];rw[e]at A;refine(z2f 3 (.inr (.inl rfl)) bp g R.length wd i c x.tx _ _ nx dp 0 ch w C hw (by omega) hP.c0 hP.c1 A d.c1 d.c2 d.c3 d.c4 d.c5 d.c6).mono ?_;rintro e D⟨rfl,B⟩;exact⟨rfl,B⟩
  ·rw[q5n h,z1a (.inr (.inr e))];rw[e]at A;refine(z2f 4 (.inr (.inr rfl)) bp g R.length wd i c x.tx _ _ nx dp 0 ch w C hw (by omega) hP.c0 hP.c1 A d.c1 d.c2 d.c3 d.c4 d.c5 d.c6).mono ?_;rintro e D⟨rfl,B⟩;exact⟨rfl,B⟩
  ·rw[q5n h,z9x e];rw[e]at A;refine(j1f bp g R.length i c x.tx _ _ nx dp 0 ch w C hP.c0 A d.c1 d.c2 d.c3 d.c4 d.c5 d.c6).mono ?_;rintro e D⟨rfl,B⟩;exact⟨rfl,B⟩
 | one x a=>
  have A:w.cell? ⟨g,i*7,none⟩=some (.int .i64 x.op):=d.c0;have G:w.cell? ⟨g,i*7+6,none⟩=some (.int .i64 (Tr.lg (.one x a))):=d.c6;rcases q8h h.wf.2.1 with e|e
  ·rw[q7b h,z0z (.inr (.inl e))];rw[e]at A;have H:Tr.lg (.one x a)=((0:Nat):Int):=by simp[Tr.lg,e]
   rw[H]at G;refine(k7x 7 (.inr rfl) bp g R.length i c _ _ _ nx dp 0 ch w hR C hP.c0 A d.c1 d.c2 d.c3 d.c4 d.c5 G).mono ?_;rintro e D⟨rfl,B⟩;exact⟨rfl,B⟩
  ·have H:Tr.lg (.one x a)=lgF a.flat:=by simp[Tr.lg,e]
   rw[e]at A;rcases K with rfl|rfl
   ·have E:∃s,a.flat=some s:=by
     cases E:a.flat with
     | some s=>exact⟨s,rfl⟩
     | none=>exact absurd (hh (by rw[H,E];rfl)) (by omega)
    obtain⟨s,E⟩:=E;have N:=q9w a s h.wf.2.2 E;have I:Tr.lg (.one x a)=((s.length:Nat):Int):=by rw[H,E];rfl
    rw[q7b h,z9v e rfl,I,Int.toNat_natCast];rw[I]at G;refine(j1c bp g R.length wd i c _ _ _ nx dp s.length w C hw J (by simp only[Tr.lf]at O;omega) hP.c0 hP.c1 A d.c1 d.c2 d.c3 d.c4 d.c5 G).mono ?_;rintro e D⟨rfl,B⟩;exact⟨rfl,B⟩
   ·rw[q7b h,z0z (by omega)];cases E:a.flat with
    | some s=>
     have I:Tr.lg (.one x a)=((s.length:Nat):Int):=by rw[H,E];rfl
     rw[I]at G;refine(z4l bp g R.length i c _ _ _ nx dp _ w hR C hP.c0 A d.c1 d.c2 d.c3 d.c4 d.c5 G).mono ?_;rintro e D⟨rfl,B⟩;exact⟨rfl,B⟩
    | none=>
     have I:Tr.lg (.one x a)=-1:=by rw[H,E];rfl
     rw[I]at G;refine(z4l bp g R.length i c _ _ _ nx dp _ w hR C hP.c0 A d.c1 d.c2 d.c3 d.c4 d.c5 G).mono ?_;rintro e D⟨rfl,B⟩;exact⟨rfl,B⟩
 | two x a b=>
  have A:w.cell? ⟨g,i*7,none⟩=some (.int .i64 x.op):=d.c0;obtain⟨W,V,N⟩:=h.two1;have P:(i:Int)+1<(R.length:Nat):=by have:=N.lt;omega
  rcases q7t h.wf.2.1 with e|e
  ·rw[q8z h,z0z (.inl e)];rw[e]at A;refine(k7x 6 (.inl rfl) bp g R.length i c _ _ _ nx dp 0 ch w hR C hP.c0 A d.c1 d.c2 d.c3 d.c4 d.c5 d.c6).mono ?_;rintro e D⟨rfl,B⟩;exact⟨rfl,B⟩
  ·rw[e]at A;rcases K with rfl|rfl
   ·rw[q8z h,z0z (by omega)];refine(j1d bp g R.length i c _ _ _ nx dp 0 w hR C hP.c0 A d.c1 d.c2 d.c3 d.c4 d.c5 d.c6).mono ?_;rintro e D⟨rfl,B⟩;exact⟨rfl,B⟩
   ·have k:=hP.pr.get (i+1) N.lt;rw[N.at]at k;have U:w.cell? ⟨g,(i+1)*7+3,none⟩=some (.int .i64 ((i+1+a.sz:Nat):Int)):=k.c3;rw[q8z h,z2q e rfl];refine(k1s bp g R.length i c _ _ _ nx dp 0 _ w hR C P U hP.c0 A d.c1 d.c2 d.c3 d.c4 d.c5 d.c6).mono ?_;rintro e D⟨rfl,B⟩;exact⟨rfl,B⟩
structure Inv(sb g mb wd:Nat)(R:List Pl)(w:World)(S:Nat->Nat->Bool):Prop where
 pl:q6j w sb g wd R
 c2:w.cell? ⟨sb,2,none⟩=some (.map (some mb))
 me:Mem w mb (crs R wd) S
 cl:∀p c,S p c=true->p<R.length/\c<=wd/\((crs R wd p c).np<R.length->S (crs R wd p c).np (crs R wd p c).nc=true)
theorem k5j{w:World}{b o:Nat}{v:Value}{es:Array MapEntry}{cl:Nat}(h:w.cell? (b,o)=some v)(h2:w.heap[b]?=some (.map es cl)):False:=by
 simp[World.cell?,h2]at h
section
variable {sb g mb wd:Nat} {R:List Pl} {w w':World} {S:Nat→Nat→Bool}
theorem Inv.nb(h:Inv sb g mb wd R w S):sb≠mb:=by
 intro e;subst e;obtain⟨D,n,⟨C,B,A,_⟩,_⟩:=h.me;exact k5j h.c2 A
theorem Inv.ng(h:Inv sb g mb wd R w S):g≠mb:=by
 intro e;subst e;obtain⟨D,n,⟨G,C,B,_⟩,_⟩:=h.me;obtain⟨E,T,A⟩:=h.pl.pr.row;rw[B]at A;cases A
theorem Inv.lt(h:Inv sb g mb wd R w S):sb<w.heap.size/\g<w.heap.size/\mb<w.heap.size:=⟨h.pl.ltB,h.pl.ltG,h.me.lt⟩
theorem Inv.kept(h:Inv sb g mb wd R w S)(hb:∀k,k<w.heap.size->w'.heap[k]?=w.heap[k]?):Inv sb g mb wd R w' S:=
 ⟨h.pl.kept (hb _ h.lt.1) (hb _ h.lt.2.1),(World.cell?_of_block (w:=w) (a:=⟨sb,2,none⟩) (hb _ h.lt.1)).trans h.c2,h.me.kept (hb _ h.lt.2.2),h.cl⟩
theorem Inv.kept3(h:Inv sb g mb wd R w S)(h1:w'.heap[sb]?=w.heap[sb]?)(h2:w'.heap[g]?=w.heap[g]?)(h3:w'.heap[mb]?=w.heap[mb]?):Inv sb g mb wd R w' S:=
 ⟨h.pl.kept h1 h2,(World.cell?_of_block (w:=w) (a:=⟨sb,2,none⟩) h1).trans h.c2,h.me.kept h3,h.cl⟩
theorem y3t{wr:World}{b k:Nat}(hk:k≠b)(v0 v1 v2 v3 v4:Value):(((((wr.setCell ⟨b,0,none⟩ v0).setCell ⟨b,1,none⟩ v1).setCell ⟨b,2,none⟩ v2).setCell ⟨b,3,none⟩ v3).setCell ⟨b,4,none⟩ v4).heap[k]?=wr.heap[k]?:=
 (Below.heap_setCell _ _ _ _ hk).trans ((Below.heap_setCell _ _ _ _ hk).trans ((Below.heap_setCell _ _ _ _ hk).trans ((Below.heap_setCell _ _ _ _ hk).trans (Below.heap_setCell _ _ _ _ hk))))
theorem Inv.set5{b:Nat}(h:Inv sb g mb wd R w S)(h1:sb≠b)(h2:g≠b)(h3:mb≠b)(v0 v1 v2 v3 v4:Value):Inv sb g mb wd R (((((w.setCell ⟨b,0,none⟩ v0).setCell ⟨b,1,none⟩ v1).setCell ⟨b,2,none⟩ v2).setCell ⟨b,3,none⟩ v3).setCell ⟨b,4,none⟩ v4) S:=
 h.kept3 (y3t h1 _ _ _ _ _) (y3t h2 _ _ _ _ _) (y3t h3 _ _ _ _ _)
theorem Inv.W(h:Inv sb g mb wd R w S)(hb:Below w w w'):Inv sb g mb wd R w' S:=h.kept fun k hk=>hb.block k hk
theorem Inv.alloc(h:Inv sb g mb wd R w S)(O:Obj):Inv sb g mb wd R (w.alloc O) S:=h.kept fun _ hk=>Below.heap_alloc _ _ _ hk
theorem Inv.more{p c:Nat}(h:Inv sb g mb wd R w S)(hg:w.grownBy w' (some mb))(hm:Mem w' mb (crs R wd) (k1i S p c))(hp:p<R.length)(hc:c<=wd)(hn:(crs R wd p c).np<R.length->S (crs R wd p c).np (crs R wd p c).nc=true):Inv sb g mb wd R w' (k1i S p c) where
 pl:=h.pl.kept (hg.block _ h.lt.1 (by intro e;exact h.nb (Option.some.inj e))) (hg.block _ h.lt.2.1 (by intro e;exact h.ng (Option.some.inj e)))
 c2:=(World.cell?_of_block (w:=w) (a:=⟨sb,2,none⟩) (hg.block _ h.lt.1 (by intro e;exact h.nb (Option.some.inj e)))).trans h.c2
 me:=hm
 cl p' c' hs:=by
  have A:∀a b,S a b=true->k1i S p c a b=true:=fun a b hab=>by simp[k1i,hab]
  by_cases e:p'=p/\c'=c
  ·obtain⟨rfl,rfl⟩:=e;exact⟨hp,hc,fun hl=>A _ _ (hn hl)⟩
  ·have B:S p' c'=true:=by
    simp only[k1i,Bool.or_eq_true,Bool.and_eq_true,decide_eq_true_eq]at hs;rcases hs with hs|hs
    ·exact hs
    ·exact absurd hs e
   obtain⟨C,D,E⟩:=h.cl p' c' B;exact⟨C,D,fun hl=>A _ _ (E hl)⟩
def Left(sb g mb wd:Nat)(R:List Pl)(S:Nat->Nat->Bool)(lo p c:Nat)(w w':World):Prop:=
 q0n w mb w w'/\∃S',Inv sb g mb wd R w' S'/\(∀a b,S a b=true->S' a b=true)/\(∀a b,S' a b=true->S a b=true\/lo<=a)/\(p<R.length->S' p c=true)
theorem z7j{lo p c:Nat}(h:Inv sb g mb wd R w S)(hb:Below w w w')(hp:p<R.length->S p c=true):Left sb g mb wd R S lo p c w w':=
 ⟨q0n.of hb,S,h.W hb,fun _ _ h=>h,fun _ _ h=>.inl h,hp⟩
theorem v9x{n b:Nat}{wr:World}(h:Below n w wr)(hb:n<=b)(v0 v1 v2 v3 v4:Value):Below n w (((((wr.setCell ⟨b,0,none⟩ v0).setCell ⟨b,1,none⟩ v1).setCell ⟨b,2,none⟩ v2).setCell ⟨b,3,none⟩ v3).setCell ⟨b,4,none⟩ v4):=
 ((((h.setCell (p:=⟨b,0,none⟩) hb _).setCell (p:=⟨b,1,none⟩) hb _).setCell (p:=⟨b,2,none⟩) hb _).setCell (p:=⟨b,3,none⟩) hb _).setCell (p:=⟨b,4,none⟩) hb _
theorem k5g{n b m:Nat}{wr:World}(h:q0n n m w wr)(hb:n<=b)(v0 v1 v2 v3 v4:Value):q0n n m w (((((wr.setCell ⟨b,0,none⟩ v0).setCell ⟨b,1,none⟩ v1).setCell ⟨b,2,none⟩ v2).setCell ⟨b,3,none⟩ v3).setCell ⟨b,4,none⟩ v4):=
 ((((h.setCell (p:=⟨b,0,none⟩) (.inr hb) _).setCell (p:=⟨b,1,none⟩) (.inr hb) _).setCell (p:=⟨b,2,none⟩) (.inr hb) _).setCell (p:=⟨b,3,none⟩) (.inr hb) _).setCell (p:=⟨b,4,none⟩) (.inr hb) _
def j4k(sb g mb wd:Nat)(R:List Pl)(i c:Nat):Prop:=∀w S,Inv sb g mb wd R w S->
 Calls prog 126 #[.pointer (some ⟨sb,0,none⟩),.agg #[.int .i64 i,.int .i64 c]] w fun e w'=>e=.returned (cvV (if i<R.length then crs R wd i c else zCv))/\Left sb g mb wd R S i i c w w'
def z6k(sb g mb wd:Nat)(R:List Pl)(i c ch:Nat):Prop:=∀w S,Inv sb g mb wd R w S->
 Calls prog 194 #[.pointer (some ⟨sb,0,none⟩),.agg #[.int .i64 i,.int .i64 c],.int .i64 ch] w fun e w'=>e=.returned (cvV (tkC R wd i c ch))/\Left sb g mb wd R S (i+1) (q3p R wd i c ch).np (q3p R wd i c ch).nc w w'
def k5a(sb g mb wd:Nat)(R:List Pl)(i c:Nat):Prop:=∀w S,Inv sb g mb wd R w S->
 Calls prog 164 #[.pointer (some ⟨sb,0,none⟩),.agg #[.int .i64 i,.int .i64 c]] w fun e w'=>e=.returned (cvV (crs R wd i c))/\Left sb g mb wd R S (i+1) (crs R wd i c).np (crs R wd i c).nc w w'
end
theorem k1q{w wr:World}(h:Below w w wr)(O:Obj):Below w w (wr.alloc O):=h.alloc h.size O
theorem k7w{B:Nat}{w wr:World}(h:Below B w wr)(n:Nat):Below B w (wr.drewN n):=h.trans ⟨rfl,rfl,rfl,Nat.le_refl _,fun _ _=>rfl⟩
theorem k9y(sb g mb wd i c:Nat)(R:List Pl)(hi:i=R.length):j4k sb g mb wd R i c:=by
 intro w S h;have A:=h.pl.c0;have H:Hid (Inv sb g mb wd R w S):=h;have I:=h.lt.1;have G:((i:Int)==(R.length:Int))=true:=by rw[hi];simp
 have B:(if i<R.length then crs R wd i c else zCv)=zCv:=if_neg (by omega);rw[B,cvV,zCv];have E:∀O1 O2,((w.alloc O1).alloc O2).cell? sb=some (.slice g R.length R.length):=fun O1 O2=>ka (ka A O1) O2
 have C:Hid (∀O1 O2,Below w w ((w.alloc O1).alloc O2)):=fun O1 O2=>((Below.refl _ w).alloc Zl O1).alloc (by simp) O2
 have D:Hid (i=R.length):=hi;clear h A B hi;go_in;go_wp2_with fail
 go_quiet (fail)
 go_wp2;refine bodyPost_ret (v:=.agg #[.int .i64 0,.int .i64 0,.int .i64 0,.int .i64 0,.int .i64 0]) (by simp[results,Tryz.results126,go_sem]) rfl ?_;exact⟨rfl,z7j H.o (v9x (k7w (C.o _ _) nq) (by omega) _ _ _ _ _) (fun h=>absurd h (by rw[D.o];omega))⟩
structure Sk1(sb g mb wd i c:Nat)(R:List Pl)(S:Nat->Nat->Bool)(w w1:World):Prop where
 inv:Inv sb g mb wd R w1 S
 sz:w1.heap.size=w.heap.size+1+1
 a0:w1.cell? ⟨w,0,none⟩=some (.int .i64 i)
 a1:w1.cell? ⟨w,1,none⟩=some (.int .i64 c)
 r0:w1.cell? ⟨w.heap.size+1,0,none⟩=some (.int .i64 0)
 r1:w1.cell? ⟨w.heap.size+1,1,none⟩=some (.int .i64 0)
 r2:w1.cell? ⟨w.heap.size+1,2,none⟩=some (.int .i64 0)
 r3:w1.cell? ⟨w.heap.size+1,3,none⟩=some (.int .i64 0)
 r4:w1.cell? ⟨w.heap.size+1,4,none⟩=some (.int .i64 0)
 fr:q7w w1 (w.heap.size+1)
 bw:Below w w w1
theorem z7w{sb g mb wd i c nq:Nat}{R:List Pl}{S:Nat->Nat->Bool}{w:World}(h:Inv sb g mb wd R w S):
  Sk1 sb g mb wd i c R S w (((w.alloc (.cells #[i,c] 216)).alloc (.cells #[.int .i64 0,.int .i64 0,.int .i64 0,.int .i64 0,.int .i64 0] 218)).drewN nq):=by
 have A:Below w w (((w.alloc (.cells #[i,c] 216)).alloc (.cells #[.int .i64 0,.int .i64 0,.int .i64 0,.int .i64 0,.int .i64 0] 218)).drewN nq):=
  (((Below.refl _ w).alloc Zl _).alloc (by simp) _).trans ⟨rfl,rfl,rfl,Nat.le_refl _,fun _ _=>rfl⟩
 have B:=heap_alloc_new (w.alloc (.cells #[i,c] 216)) (.cells #[.int .i64 0,.int .i64 0,.int .i64 0,.int .i64 0,.int .i64 0] 218);have C:(w.alloc (.cells #[i,c] 216)).heap.size=w.heap.size+1:=by simp
 rw[C]at B;exact⟨h.W A,by simp,by simp[go_sem],by simp[go_sem],by simp[go_sem],by simp[go_sem],by simp[go_sem],by simp[go_sem],by simp[go_sem],⟨_,_,B⟩,A⟩
theorem j2y(sb g mb wd i c:Nat)(R:List Pl)(hi:i<R.length)(hR:R.length<=400)(hc:c<=100)(w:World)(S:Nat->Nat->Bool)(h:Inv sb g mb wd R w S)(hS:S i c=true):
  Calls prog 126 #[.pointer sb,.agg #[i,c]] w fun e w'=>e=.returned (cvV (crs R wd i c))/\Left sb g mb wd R S i i c w w':=by
 have N:=h.pl.c0;have H:Hid (Inv sb g mb wd R w S):=h;have Z:=h.lt.1;have a:((i:Int)==(R.length:Int))=false:=beq_eq_false_iff_ne.2 (by omega);have E:∀O1 O2,((w.alloc O1).alloc O2).cell? sb=some (.slice g R.length R.length):=fun O1 O2=>ka (ka N O1) O2
 have K:Hid (S i c=true):=hS
 have C:Hid (∀W,Mem W mb (crs R wd) S->(Instr.lookup 212 (.map (some mb)) (.agg #[(i:Int),(c:Int)]) true).run prog W=.ok (.tuple #[.agg #[(crs R wd i c).o,(crs R wd i c).l,(crs R wd i c).ch,(crs R wd i c).np,(crs R wd i c).nc],.bool true]) W):=fun W hW=>by
  have:=hW.look_ok (p:=i) (c:=c) (by omega) hc
  rw[K.o,if_pos rfl]at this;exact this
 rw[cvV];clear h N hS;generalize crs R wd i c=k at *;go_in;go_wp2_with fail
 go_quiet (fail)
 go_wp2_with fail;have B:=z7w (i:=i) (c:=c) (nq:=nq) H.o
 generalize((w.alloc (.cells #[i,c] 216)).alloc (.cells #[.int .i64 0,.int .i64 0,.int .i64 0,.int .i64 0,.int .i64 0] 218)).drewN nq=w1 at *
 have D:Hid (Sk1 sb g mb wd i c R S w w1):=B;have P:=B.inv.c2;obtain⟨_,J,L,M,Q,U,V,X,Y,A,_⟩:=B;have G:=C.o w1.drew (D.o.inv.me.kept rfl);have I:=fun O=>C.o (w1.alloc O).drew ((D.o.inv.alloc O).me.kept rfl)
 have b:=fun O=>ka Q O
 have d:=fun O=>ka U O
 have f:=fun O=>ka V O
 have j:=fun O=>ka X O
 have m:=fun O=>ka Y O
 have u:=fun O=>kaf (o:=0) (O:=O) A.lt A.frozen
 have x:=fun O=>kaf (o:=1) (O:=O) A.lt A.frozen
 have y:=fun O=>kaf (o:=2) (O:=O) A.lt A.frozen
 have z:=fun O=>kaf (o:=3) (O:=O) A.lt A.frozen
 have z4:=fun O=>kaf (o:=4) (O:=O) A.lt A.frozen
 have n:w1.frozen? ↑(w.heap.size+1)=false:=A.frozen;have q:w1.frozen? (w.heap.size+1,1)=false:=A.frozen;have r:w1.frozen? (w.heap.size+1,2)=false:=A.frozen;have s:w1.frozen? (w.heap.size+1,3)=false:=A.frozen;have t:w1.frozen? (w.heap.size+1,4)=false:=A.frozen;clear A E
 go_region_held3 (fun w'=>w'.cell? (sb,2)=some (.map (some mb))/\w'.cell? w.heap.size=some ↑i/\w'.cell? (w.heap.size,1)=some ↑c/\(Instr.lookup 212 (.map (some mb)) (.agg #[(i:Int),(c:Int)]) true).run prog w'=.ok (.tuple #[.agg #[k.o,k.l,k.ch,k.np,k.nc],.bool true]) w')
  (first|exact⟨P,L,M,G⟩|exact⟨ka P _,ka L _,ka M _,I _⟩) (fail)
 all_goals
  go_wp2;exact bodyPost_ret (v:=.agg #[k.o,k.l,k.ch,k.np,k.nc]) (by simp[results,Tryz.results126,go_sem,J,Q,U,V,X,Y]) rfl ⟨rfl,z7j H.o (Below.drew (k1q (v9x D.o.bw (by omega) _ _ _ _ _) _)) (fun _=>K.o)⟩
end Go.Proofs.YtchdplceopegoaaGreatDoor
