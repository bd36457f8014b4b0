/- Texts as one: PlanW1, PlanW2, PlanW3, PlanW4. -/
import Derived.Test.YthjapabokcajhaaGreatDoorPf22
import Derived.BigRegion
namespace Go.Proofs.YthjapabokcajhaaGreatDoor
open Go Go.RowKit
set_option maxRecDepth 100000
set_option maxHeartbeats 4000000
theorem j6g(bp be bf s o n cap i:Nat)(w:World)(hn:n<=400)(hi:(i:Int)<n)(h1:bp≠be)(h2:bp≠bf)(h3:be≠bf)(h4:s≠be)(h5:s≠bf)
  (c0:w.cell? ⟨bp,0,none⟩=some (.slice (some ⟨s,o,none⟩) n cap)) (c1:w.cell? ⟨bp,1,none⟩=some (.slice (some ⟨be,0,none⟩) n n)) (c2:w.cell? ⟨bp,2,none⟩=some (.slice (some ⟨bf,0,none⟩) n n))
  (d1:w.cell? ⟨s,o+i*3,none⟩=some (.int .i64 1))
  (y1 y2:Value) (e5:w.cell? ⟨be,i,none⟩=some y1) (e6:w.cell? ⟨bf,i,none⟩=some y2) (z1:w.frozen? ⟨be,i,none⟩=false) (z2:w.frozen? ⟨bf,i,none⟩=false):
  Calls Tryz.prog 90 #[.pointer (some ⟨bp,0,none⟩),.int .i64 i] w fun e w'=>e=.returned (.tuple #[])/\q6k be bf i (.int .i64 ((i:Int)+1)) (.bool true) w w':=by
 have hw1:=z0l hn hi;have hp1:(0:Int)<=(i:Int)+1:=by omega
 have hp0:(0:Int)<=(i:Int):=by omega
 have htn:((i:Int)+1).toNat=i+1:=by omega
 go_in;go_wp2_with fail
 go_region_held3 (fun w'=>w'.cell? ⟨bp,0,none⟩=some (.slice (some ⟨s,o,none⟩) n cap)/\w'.cell? ⟨bp,1,none⟩=some (.slice (some ⟨be,0,none⟩) n n)/\w'.cell? ⟨bp,2,none⟩=some (.slice (some ⟨bf,0,none⟩) n n)/\w'.cell? ⟨s,o+i*3,none⟩=some (.int .i64 1))
  (first|exact⟨c0,c1,c2,d1⟩|exact⟨(cso (by omega)).trans c0,(cso (by omega)).trans c1,(cso (by omega)).trans c2,(cso (by omega)).trans d1⟩|exact⟨(cso (by omega)).trans ((cso (by omega)).trans c0),(cso (by omega)).trans ((cso (by omega)).trans c1),(cso (by omega)).trans ((cso (by omega)).trans c2),(cso (by omega)).trans ((cso (by omega)).trans d1)⟩) (fail)
 all_goals
  go_wp2
  go_end0
  exact⟨rfl,rfl,rfl,rfl,rfl⟩
theorem j6h(bp be bf s o n cap i:Nat)(w:World)(hn:n<=400)(hi:(i:Int)<n)(h1:bp≠be)(h2:bp≠bf)(h3:be≠bf)(h4:s≠be)(h5:s≠bf)
  (c0:w.cell? ⟨bp,0,none⟩=some (.slice (some ⟨s,o,none⟩) n cap)) (c1:w.cell? ⟨bp,1,none⟩=some (.slice (some ⟨be,0,none⟩) n n)) (c2:w.cell? ⟨bp,2,none⟩=some (.slice (some ⟨bf,0,none⟩) n n))
  (d1:w.cell? ⟨s,o+i*3,none⟩=some (.int .i64 2))
  (y1 y2:Value) (e5:w.cell? ⟨be,i,none⟩=some y1) (e6:w.cell? ⟨bf,i,none⟩=some y2) (z1:w.frozen? ⟨be,i,none⟩=false) (z2:w.frozen? ⟨bf,i,none⟩=false):
  Calls Tryz.prog 90 #[.pointer (some ⟨bp,0,none⟩),.int .i64 i] w fun e w'=>e=.returned (.tuple #[])/\q6k be bf i (.int .i64 ((i:Int)+1)) (.bool true) w w':=by
 have hw1:=z0l hn hi;have hp1:(0:Int)<=(i:Int)+1:=by omega
 have hp0:(0:Int)<=(i:Int):=by omega
 have htn:((i:Int)+1).toNat=i+1:=by omega
 go_in;go_wp2_with fail
 go_region_held3 (fun w'=>w'.cell? ⟨bp,0,none⟩=some (.slice (some ⟨s,o,none⟩) n cap)/\w'.cell? ⟨bp,1,none⟩=some (.slice (some ⟨be,0,none⟩) n n)/\w'.cell? ⟨bp,2,none⟩=some (.slice (some ⟨bf,0,none⟩) n n)/\w'.cell? ⟨s,o+i*3,none⟩=some (.int .i64 2))
  (first|exact⟨c0,c1,c2,d1⟩|exact⟨(cso (by omega)).trans c0,(cso (by omega)).trans c1,(cso (by omega)).trans c2,(cso (by omega)).trans d1⟩|exact⟨(cso (by omega)).trans ((cso (by omega)).trans c0),(cso (by omega)).trans ((cso (by omega)).trans c1),(cso (by omega)).trans ((cso (by omega)).trans c2),(cso (by omega)).trans ((cso (by omega)).trans d1)⟩) (fail)
 all_goals
  go_wp2
  go_end0
  exact⟨rfl,rfl,rfl,rfl,rfl⟩
theorem j6i(bp be bf s o n cap i:Nat)(w:World)(hn:n<=400)(hi:(i:Int)<n)(h1:bp≠be)(h2:bp≠bf)(h3:be≠bf)(h4:s≠be)(h5:s≠bf)
  (c0:w.cell? ⟨bp,0,none⟩=some (.slice (some ⟨s,o,none⟩) n cap)) (c1:w.cell? ⟨bp,1,none⟩=some (.slice (some ⟨be,0,none⟩) n n)) (c2:w.cell? ⟨bp,2,none⟩=some (.slice (some ⟨bf,0,none⟩) n n))
  (d1:w.cell? ⟨s,o+i*3,none⟩=some (.int .i64 3))
  (y1 y2:Value) (e5:w.cell? ⟨be,i,none⟩=some y1) (e6:w.cell? ⟨bf,i,none⟩=some y2) (z1:w.frozen? ⟨be,i,none⟩=false) (z2:w.frozen? ⟨bf,i,none⟩=false):
  Calls Tryz.prog 90 #[.pointer (some ⟨bp,0,none⟩),.int .i64 i] w fun e w'=>e=.returned (.tuple #[])/\q6k be bf i (.int .i64 ((i:Int)+1)) (.bool true) w w':=by
 have hw1:=z0l hn hi;have hp1:(0:Int)<=(i:Int)+1:=by omega
 have hp0:(0:Int)<=(i:Int):=by omega
 have htn:((i:Int)+1).toNat=i+1:=by omega
 go_in;go_wp2_with fail
 go_region_held3 (fun w'=>w'.cell? ⟨bp,0,none⟩=some (.slice (some ⟨s,o,none⟩) n cap)/\w'.cell? ⟨bp,1,none⟩=some (.slice (some ⟨be,0,none⟩) n n)/\w'.cell? ⟨bp,2,none⟩=some (.slice (some ⟨bf,0,none⟩) n n)/\w'.cell? ⟨s,o+i*3,none⟩=some (.int .i64 3))
  (first|exact⟨c0,c1,c2,d1⟩|exact⟨(cso (by omega)).trans c0,(cso (by omega)).trans c1,(cso (by omega)).trans c2,(cso (by omega)).trans d1⟩|exact⟨(cso (by omega)).trans ((cso (by omega)).trans c0),(cso (by omega)).trans ((cso (by omega)).trans c1),(cso (by omega)).trans ((cso (by omega)).trans c2),(cso (by omega)).trans ((cso (by omega)).trans d1)⟩) (fail)
 all_goals
  go_wp2
  go_end0
  exact⟨rfl,rfl,rfl,rfl,rfl⟩
theorem j6k(bp be bf s o n cap i:Nat)(w:World)(hn:n<=400)(hi:(i:Int)<n)(h1:bp≠be)(h2:bp≠bf)(h3:be≠bf)(h4:s≠be)(h5:s≠bf)
  (c0:w.cell? ⟨bp,0,none⟩=some (.slice (some ⟨s,o,none⟩) n cap)) (c1:w.cell? ⟨bp,1,none⟩=some (.slice (some ⟨be,0,none⟩) n n)) (c2:w.cell? ⟨bp,2,none⟩=some (.slice (some ⟨bf,0,none⟩) n n))
  (d1:w.cell? ⟨s,o+i*3,none⟩=some (.int .i64 5))
  (y1 y2:Value) (e5:w.cell? ⟨be,i,none⟩=some y1) (e6:w.cell? ⟨bf,i,none⟩=some y2) (z1:w.frozen? ⟨be,i,none⟩=false) (z2:w.frozen? ⟨bf,i,none⟩=false):
  Calls Tryz.prog 90 #[.pointer (some ⟨bp,0,none⟩),.int .i64 i] w fun e w'=>e=.returned (.tuple #[])/\q6k be bf i (.int .i64 ((i:Int)+1)) (.bool true) w w':=by
 have hw1:=z0l hn hi;have hp1:(0:Int)<=(i:Int)+1:=by omega
 have hp0:(0:Int)<=(i:Int):=by omega
 have htn:((i:Int)+1).toNat=i+1:=by omega
 go_in;go_wp2_with fail
 go_region_held3 (fun w'=>w'.cell? ⟨bp,0,none⟩=some (.slice (some ⟨s,o,none⟩) n cap)/\w'.cell? ⟨bp,1,none⟩=some (.slice (some ⟨be,0,none⟩) n n)/\w'.cell? ⟨bp,2,none⟩=some (.slice (some ⟨bf,0,none⟩) n n)/\w'.cell? ⟨s,o+i*3,none⟩=some (.int .i64 5))
  (first|exact⟨c0,c1,c2,d1⟩|exact⟨(cso (by omega)).trans c0,(cso (by omega)).trans c1,(cso (by omega)).trans c2,(cso (by omega)).trans d1⟩|exact⟨(cso (by omega)).trans ((cso (by omega)).trans c0),(cso (by omega)).trans ((cso (by omega)).trans c1),(cso (by omega)).trans ((cso (by omega)).trans c2),(cso (by omega)).trans ((cso (by omega)).trans d1)⟩) (fail)
 all_goals
  go_wp2
  go_end0
  exact⟨rfl,rfl,rfl,rfl,rfl⟩
theorem j6j(bp be bf s o n cap i:Nat)(w:World)(hn:n<=400)(hi:(i:Int)<n)(h1:bp≠be)(h2:bp≠bf)(h3:be≠bf)(h4:s≠be)(h5:s≠bf)
  (c0:w.cell? ⟨bp,0,none⟩=some (.slice (some ⟨s,o,none⟩) n cap)) (c1:w.cell? ⟨bp,1,none⟩=some (.slice (some ⟨be,0,none⟩) n n)) (c2:w.cell? ⟨bp,2,none⟩=some (.slice (some ⟨bf,0,none⟩) n n))
  (d1:w.cell? ⟨s,o+i*3,none⟩=some (.int .i64 4))
  (y1 y2:Value) (e5:w.cell? ⟨be,i,none⟩=some y1) (e6:w.cell? ⟨bf,i,none⟩=some y2) (z1:w.frozen? ⟨be,i,none⟩=false) (z2:w.frozen? ⟨bf,i,none⟩=false):
  Calls Tryz.prog 90 #[.pointer (some ⟨bp,0,none⟩),.int .i64 i] w fun e w'=>e=.returned (.tuple #[])/\q6k be bf i (.int .i64 ((i:Int)+1)) (.bool false) w w':=by
 have hw1:=z0l hn hi;have hp1:(0:Int)<=(i:Int)+1:=by omega
 have hp0:(0:Int)<=(i:Int):=by omega
 have htn:((i:Int)+1).toNat=i+1:=by omega
 go_in;go_wp2_with fail
 go_region_held3 (fun w'=>w'.cell? ⟨bp,0,none⟩=some (.slice (some ⟨s,o,none⟩) n cap)/\w'.cell? ⟨bp,1,none⟩=some (.slice (some ⟨be,0,none⟩) n n)/\w'.cell? ⟨bp,2,none⟩=some (.slice (some ⟨bf,0,none⟩) n n)/\w'.cell? ⟨s,o+i*3,none⟩=some (.int .i64 4))
  (first|exact⟨c0,c1,c2,d1⟩|exact⟨(cso (by omega)).trans c0,(cso (by omega)).trans c1,(cso (by omega)).trans c2,(cso (by omega)).trans d1⟩|exact⟨(cso (by omega)).trans ((cso (by omega)).trans c0),(cso (by omega)).trans ((cso (by omega)).trans c1),(cso (by omega)).trans ((cso (by omega)).trans c2),(cso (by omega)).trans ((cso (by omega)).trans d1)⟩) (fail)
 all_goals
  go_wp2
  go_end0
  exact⟨rfl,rfl,rfl,rfl,rfl⟩
end Go.Proofs.YthjapabokcajhaaGreatDoor
namespace Go.Proofs.YthjapabokcajhaaGreatDoor
open Go Go.RowKit
set_option maxRecDepth 100000
set_option maxHeartbeats 4000000
theorem j6l(bp be bf s o n cap i:Nat)(x1:Int)(f1:Bool)(w:World)(hn:n<=400)(hi:(i:Int)<n)(hi1:(i:Int)+1<n)(h1:bp≠be)(h2:bp≠bf)(h3:be≠bf)(h4:s≠be)(h5:s≠bf)
  (c0:w.cell? ⟨bp,0,none⟩=some (.slice (some ⟨s,o,none⟩) n cap)) (c1:w.cell? ⟨bp,1,none⟩=some (.slice (some ⟨be,0,none⟩) n n)) (c2:w.cell? ⟨bp,2,none⟩=some (.slice (some ⟨bf,0,none⟩) n n))
  (d1:w.cell? ⟨s,o+i*3,none⟩=some (.int .i64 7))
  (e1:w.cell? ⟨be,i+1,none⟩=some (.int .i64 x1))
  (e3:w.cell? ⟨bf,i+1,none⟩=some (.bool f1))
  (y1 y2:Value) (e5:w.cell? ⟨be,i,none⟩=some y1) (e6:w.cell? ⟨bf,i,none⟩=some y2) (z1:w.frozen? ⟨be,i,none⟩=false) (z2:w.frozen? ⟨bf,i,none⟩=false):
  Calls Tryz.prog 90 #[.pointer (some ⟨bp,0,none⟩),.int .i64 i] w fun e w'=>e=.returned (.tuple #[])/\q6k be bf i (.int .i64 x1) (.bool f1) w w':=by
 have hw1:=z0l hn hi;have hp1:(0:Int)<=(i:Int)+1:=by omega
 have hp0:(0:Int)<=(i:Int):=by omega
 have htn:((i:Int)+1).toNat=i+1:=by omega
 go_in;go_wp2_with fail
 go_region_held3 (fun w'=>w'.cell? ⟨bp,0,none⟩=some (.slice (some ⟨s,o,none⟩) n cap)/\w'.cell? ⟨bp,1,none⟩=some (.slice (some ⟨be,0,none⟩) n n)/\w'.cell? ⟨bp,2,none⟩=some (.slice (some ⟨bf,0,none⟩) n n)/\w'.cell? ⟨s,o+i*3,none⟩=some (.int .i64 7)/\w'.cell? ⟨be,i+1,none⟩=some (.int .i64 x1)/\w'.cell? ⟨bf,i+1,none⟩=some (.bool f1))
  (first|exact⟨c0,c1,c2,d1,e1,e3⟩|exact⟨(cso (by omega)).trans c0,(cso (by omega)).trans c1,(cso (by omega)).trans c2,(cso (by omega)).trans d1,(cso (by omega)).trans e1,(cso (by omega)).trans e3⟩|exact⟨(cso (by omega)).trans ((cso (by omega)).trans c0),(cso (by omega)).trans ((cso (by omega)).trans c1),(cso (by omega)).trans ((cso (by omega)).trans c2),(cso (by omega)).trans ((cso (by omega)).trans d1),(cso (by omega)).trans ((cso (by omega)).trans e1),(cso (by omega)).trans ((cso (by omega)).trans e3)⟩) (fail)
 all_goals
  go_wp2
  go_end0
  exact⟨rfl,rfl,rfl,rfl,rfl⟩
theorem j6m(bp be bf s o n cap i:Nat)(x1:Int)(f1:Bool)(w:World)(hn:n<=400)(hi:(i:Int)<n)(hi1:(i:Int)+1<n)(h1:bp≠be)(h2:bp≠bf)(h3:be≠bf)(h4:s≠be)(h5:s≠bf)
  (c0:w.cell? ⟨bp,0,none⟩=some (.slice (some ⟨s,o,none⟩) n cap)) (c1:w.cell? ⟨bp,1,none⟩=some (.slice (some ⟨be,0,none⟩) n n)) (c2:w.cell? ⟨bp,2,none⟩=some (.slice (some ⟨bf,0,none⟩) n n))
  (d1:w.cell? ⟨s,o+i*3,none⟩=some (.int .i64 8))
  (e1:w.cell? ⟨be,i+1,none⟩=some (.int .i64 x1))
  (e3:w.cell? ⟨bf,i+1,none⟩=some (.bool f1))
  (y1 y2:Value) (e5:w.cell? ⟨be,i,none⟩=some y1) (e6:w.cell? ⟨bf,i,none⟩=some y2) (z1:w.frozen? ⟨be,i,none⟩=false) (z2:w.frozen? ⟨bf,i,none⟩=false):
  Calls Tryz.prog 90 #[.pointer (some ⟨bp,0,none⟩),.int .i64 i] w fun e w'=>e=.returned (.tuple #[])/\q6k be bf i (.int .i64 x1) (.bool f1) w w':=by
 have hw1:=z0l hn hi;have hp1:(0:Int)<=(i:Int)+1:=by omega
 have hp0:(0:Int)<=(i:Int):=by omega
 have htn:((i:Int)+1).toNat=i+1:=by omega
 go_in;go_wp2_with fail
 go_region_held3 (fun w'=>w'.cell? ⟨bp,0,none⟩=some (.slice (some ⟨s,o,none⟩) n cap)/\w'.cell? ⟨bp,1,none⟩=some (.slice (some ⟨be,0,none⟩) n n)/\w'.cell? ⟨bp,2,none⟩=some (.slice (some ⟨bf,0,none⟩) n n)/\w'.cell? ⟨s,o+i*3,none⟩=some (.int .i64 8)/\w'.cell? ⟨be,i+1,none⟩=some (.int .i64 x1)/\w'.cell? ⟨bf,i+1,none⟩=some (.bool f1))
  (first|exact⟨c0,c1,c2,d1,e1,e3⟩|exact⟨(cso (by omega)).trans c0,(cso (by omega)).trans c1,(cso (by omega)).trans c2,(cso (by omega)).trans d1,(cso (by omega)).trans e1,(cso (by omega)).trans e3⟩|exact⟨(cso (by omega)).trans ((cso (by omega)).trans c0),(cso (by omega)).trans ((cso (by omega)).trans c1),(cso (by omega)).trans ((cso (by omega)).trans c2),(cso (by omega)).trans ((cso (by omega)).trans d1),(cso (by omega)).trans ((cso (by omega)).trans e1),(cso (by omega)).trans ((cso (by omega)).trans e3)⟩) (fail)
 all_goals
  go_wp2
  go_end0
  exact⟨rfl,rfl,rfl,rfl,rfl⟩
end Go.Proofs.YthjapabokcajhaaGreatDoor
namespace Go.Proofs.YthjapabokcajhaaGreatDoor
open Go Go.RowKit
set_option maxRecDepth 100000
set_option maxHeartbeats 4000000
theorem j0k(bp be bf s o n cap i j:Nat)(x2:Int)(f2:Bool)(w:World)(hn:n<=400)(hi:(i:Int)<n)(hi1:(i:Int)+1<n)(hj:(j:Int)<n)(hij:i+1<j)(h1:bp≠be)(h2:bp≠bf)(h3:be≠bf)(h4:s≠be)(h5:s≠bf)
  (c0:w.cell? ⟨bp,0,none⟩=some (.slice (some ⟨s,o,none⟩) n cap)) (c1:w.cell? ⟨bp,1,none⟩=some (.slice (some ⟨be,0,none⟩) n n)) (c2:w.cell? ⟨bp,2,none⟩=some (.slice (some ⟨bf,0,none⟩) n n))
  (d1:w.cell? ⟨s,o+i*3,none⟩=some (.int .i64 6))
  (e1:w.cell? ⟨be,i+1,none⟩=some (.int .i64 (j:Int)))
  (e2:w.cell? ⟨be,j,none⟩=some (.int .i64 x2))
  (e3:w.cell? ⟨bf,i+1,none⟩=some (.bool true))
  (e4:w.cell? ⟨bf,j,none⟩=some (.bool f2))
  (y1 y2:Value) (e5:w.cell? ⟨be,i,none⟩=some y1) (e6:w.cell? ⟨bf,i,none⟩=some y2) (z1:w.frozen? ⟨be,i,none⟩=false) (z2:w.frozen? ⟨bf,i,none⟩=false):
  Calls Tryz.prog 90 #[.pointer (some ⟨bp,0,none⟩),.int .i64 i] w fun e w'=>e=.returned (.tuple #[])/\q6k be bf i (.int .i64 x2) (.bool f2) w w':=by
 have hw1:=z0l hn hi;have hp1:(0:Int)<=(i:Int)+1:=by omega
 have hp0:(0:Int)<=(i:Int):=by omega
 have htn:((i:Int)+1).toNat=i+1:=by omega
 have hpj:(0:Int)<=(j:Int):=by omega
 go_in;go_wp2_with fail
 go_region_held3 (fun w'=>w'.cell? ⟨bp,0,none⟩=some (.slice (some ⟨s,o,none⟩) n cap)/\w'.cell? ⟨bp,1,none⟩=some (.slice (some ⟨be,0,none⟩) n n)/\w'.cell? ⟨bp,2,none⟩=some (.slice (some ⟨bf,0,none⟩) n n)/\w'.cell? ⟨s,o+i*3,none⟩=some (.int .i64 6)/\w'.cell? ⟨be,i+1,none⟩=some (.int .i64 (j:Int))/\w'.cell? ⟨be,j,none⟩=some (.int .i64 x2)/\w'.cell? ⟨bf,i+1,none⟩=some (.bool true)/\w'.cell? ⟨bf,j,none⟩=some (.bool f2))
  (first|exact⟨c0,c1,c2,d1,e1,e2,e3,e4⟩|exact⟨(cso (by omega)).trans c0,(cso (by omega)).trans c1,(cso (by omega)).trans c2,(cso (by omega)).trans d1,(cso (by omega)).trans e1,(cso (by omega)).trans e2,(cso (by omega)).trans e3,(cso (by omega)).trans e4⟩|exact⟨(cso (by omega)).trans ((cso (by omega)).trans c0),(cso (by omega)).trans ((cso (by omega)).trans c1),(cso (by omega)).trans ((cso (by omega)).trans c2),(cso (by omega)).trans ((cso (by omega)).trans d1),(cso (by omega)).trans ((cso (by omega)).trans e1),(cso (by omega)).trans ((cso (by omega)).trans e2),(cso (by omega)).trans ((cso (by omega)).trans e3),(cso (by omega)).trans ((cso (by omega)).trans e4)⟩) (fail)
 all_goals
  go_wp2
  go_end0
  exact⟨rfl,rfl,rfl,rfl,rfl⟩
theorem j0j(bp be bf s o n cap i j:Nat)(x2:Int)(f2:Bool)(w:World)(hn:n<=400)(hi:(i:Int)<n)(hi1:(i:Int)+1<n)(hj:(j:Int)<n)(_hij:i+1<j)(h1:bp≠be)(h2:bp≠bf)(h3:be≠bf)(h4:s≠be)(h5:s≠bf)
  (c0:w.cell? ⟨bp,0,none⟩=some (.slice (some ⟨s,o,none⟩) n cap)) (c1:w.cell? ⟨bp,1,none⟩=some (.slice (some ⟨be,0,none⟩) n n)) (c2:w.cell? ⟨bp,2,none⟩=some (.slice (some ⟨bf,0,none⟩) n n))
  (d1:w.cell? ⟨s,o+i*3,none⟩=some (.int .i64 6))
  (e1:w.cell? ⟨be,i+1,none⟩=some (.int .i64 (j:Int)))
  (e2:w.cell? ⟨be,j,none⟩=some (.int .i64 x2))
  (e3:w.cell? ⟨bf,i+1,none⟩=some (.bool false))
  (_e4:w.cell? ⟨bf,j,none⟩=some (.bool f2))
  (y1 y2:Value) (e5:w.cell? ⟨be,i,none⟩=some y1) (e6:w.cell? ⟨bf,i,none⟩=some y2) (z1:w.frozen? ⟨be,i,none⟩=false) (z2:w.frozen? ⟨bf,i,none⟩=false):
  Calls Tryz.prog 90 #[.pointer (some ⟨bp,0,none⟩),.int .i64 i] w fun e w'=>e=.returned (.tuple #[])/\q6k be bf i (.int .i64 x2) (.bool false) w w':=by
 have hw1:=z0l hn hi;have hp1:(0:Int)<=(i:Int)+1:=by omega
 have hp0:(0:Int)<=(i:Int):=by omega
 have htn:((i:Int)+1).toNat=i+1:=by omega
 have hpj:(0:Int)<=(j:Int):=by omega
 have q0:=(cso (W:=w) (v:=.int .i64 x2) (b:=be) (o:=i) (by omega)).trans c0;have q1:=(cso (W:=w) (v:=.int .i64 x2) (b:=be) (o:=i) (by omega)).trans c1;have q2:=(cso (W:=w) (v:=.int .i64 x2) (b:=be) (o:=i) (by omega)).trans c2;have q3:=(cso (W:=w) (v:=.int .i64 x2) (b:=be) (o:=i) (by omega)).trans e3;have q6:=(cso (W:=w) (v:=.int .i64 x2) (b:=be) (o:=i) (by omega)).trans e6;have qf:=(csf (W:=w) (v:=.int .i64 x2) (a:=⟨be,i,none⟩)).trans z2;go_in;go_wp2_with fail
 go_region
 all_goals
  go_wp2
  go_end0
  exact⟨rfl,rfl,rfl,rfl,rfl⟩
end Go.Proofs.YthjapabokcajhaaGreatDoor
namespace Go.Proofs.YthjapabokcajhaaGreatDoor
open Go Go.RowKit
set_option maxRecDepth 100000
set_option maxHeartbeats 4000000
theorem j6n(bp be bf s o n cap i j:Nat)(x2:Int)(f1:Bool)(w:World)(hn:n<=400)(hi:(i:Int)<n)(hi1:(i:Int)+1<n)(hj:(j:Int)<n)(hij:i+1<j)(h1:bp≠be)(h2:bp≠bf)(h3:be≠bf)(h4:s≠be)(h5:s≠bf)
  (c0:w.cell? ⟨bp,0,none⟩=some (.slice (some ⟨s,o,none⟩) n cap)) (c1:w.cell? ⟨bp,1,none⟩=some (.slice (some ⟨be,0,none⟩) n n)) (c2:w.cell? ⟨bp,2,none⟩=some (.slice (some ⟨bf,0,none⟩) n n))
  (d1:w.cell? ⟨s,o+i*3,none⟩=some (.int .i64 9))
  (e1:w.cell? ⟨be,i+1,none⟩=some (.int .i64 (j:Int)))
  (e2:w.cell? ⟨be,j,none⟩=some (.int .i64 x2))
  (e3:w.cell? ⟨bf,i+1,none⟩=some (.bool f1))
  (y1 y2:Value) (e5:w.cell? ⟨be,i,none⟩=some y1) (e6:w.cell? ⟨bf,i,none⟩=some y2) (z1:w.frozen? ⟨be,i,none⟩=false) (z2:w.frozen? ⟨bf,i,none⟩=false):
  Calls Tryz.prog 90 #[.pointer (some ⟨bp,0,none⟩),.int .i64 i] w fun e w'=>e=.returned (.tuple #[])/\q6k be bf i (.int .i64 x2) (.bool f1) w w':=by
 have hw1:=z0l hn hi;have hp1:(0:Int)<=(i:Int)+1:=by omega
 have hp0:(0:Int)<=(i:Int):=by omega
 have htn:((i:Int)+1).toNat=i+1:=by omega
 have hpj:(0:Int)<=(j:Int):=by omega
 go_in;go_wp2_with fail
 go_region_held3 (fun w'=>w'.cell? ⟨bp,0,none⟩=some (.slice (some ⟨s,o,none⟩) n cap)/\w'.cell? ⟨bp,1,none⟩=some (.slice (some ⟨be,0,none⟩) n n)/\w'.cell? ⟨bp,2,none⟩=some (.slice (some ⟨bf,0,none⟩) n n)/\w'.cell? ⟨s,o+i*3,none⟩=some (.int .i64 9)/\w'.cell? ⟨be,i+1,none⟩=some (.int .i64 (j:Int))/\w'.cell? ⟨be,j,none⟩=some (.int .i64 x2)/\w'.cell? ⟨bf,i+1,none⟩=some (.bool f1))
  (first|exact⟨c0,c1,c2,d1,e1,e2,e3⟩|exact⟨(cso (by omega)).trans c0,(cso (by omega)).trans c1,(cso (by omega)).trans c2,(cso (by omega)).trans d1,(cso (by omega)).trans e1,(cso (by omega)).trans e2,(cso (by omega)).trans e3⟩|exact⟨(cso (by omega)).trans ((cso (by omega)).trans c0),(cso (by omega)).trans ((cso (by omega)).trans c1),(cso (by omega)).trans ((cso (by omega)).trans c2),(cso (by omega)).trans ((cso (by omega)).trans d1),(cso (by omega)).trans ((cso (by omega)).trans e1),(cso (by omega)).trans ((cso (by omega)).trans e2),(cso (by omega)).trans ((cso (by omega)).trans e3)⟩) (fail)
 all_goals
  go_wp2
  go_end0
  exact⟨rfl,rfl,rfl,rfl,rfl⟩
end Go.Proofs.YthjapabokcajhaaGreatDoor
