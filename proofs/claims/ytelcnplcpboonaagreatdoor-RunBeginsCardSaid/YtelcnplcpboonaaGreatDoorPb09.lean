import Derived.Test.YtelcnplcpboonaaGreatDoorPb04
import Derived.Deep.RegionHeld3
import Derived.Deep.OwnRows
import Derived.Deep.DeepCutAuto
import Derived.BigRegion
import Derived.Test.YtelcnplcpboonaaGreatDoorPb01
open Go.Proofs.Tryz
namespace Go.Proofs.YtelcnplcpboonaaGreatDoor
open Go Go.RowKit
def z1k(be bf i:Nat)(e f:Value)(w w':World):Prop:=
 w'.os=w.os/\w'.tape=w.tape/\w'.output=w.output/\w'.heap=((w.setCell ⟨be,i,none⟩ e).setCell ⟨bf,i,none⟩ f).heap
theorem j0l{i n:Nat}(hn:n<=400)(hi:(i:Int)<n):IntKind.i64.wrap ((i:Int)+1)=(i:Int)+1:=by
 rw[IntKind.wrap_i64];omega
set_option maxRecDepth 100000
set_option maxHeartbeats 4000000
theorem v2k(bp be bf s o n A i j:Nat)(x2:Int)(f2:Bool)(w:World)(hn:n<=400)(hi:(i:Int)<n)(B:(i:Int)+1<n)(hj:(j:Int)<n)(C:i+1<j)(h1:bp≠be)(h2:bp≠bf)(h3:be≠bf)(h4:s≠be)(h5:s≠bf)
  (c0:w.cell? ⟨bp,0,none⟩=some (.slice (some ⟨s,o,none⟩) n A)) (c1:w.cell? ⟨bp,1,none⟩=some (.slice (some ⟨be,0,none⟩) n n)) (c2:w.cell? ⟨bp,2,none⟩=some (.slice (some ⟨bf,0,none⟩) n n))
  (d1:w.cell? ⟨s,o+i*3,none⟩=some (.int .i64 6))
  (e1:w.cell? ⟨be,i+1,none⟩=some (.int .i64 (j:Int)))
  (e2:w.cell? ⟨be,j,none⟩=some (.int .i64 x2))
  (e3:w.cell? ⟨bf,i+1,none⟩=some (.bool true))
  (e4:w.cell? ⟨bf,j,none⟩=some (.bool f2))
  (y1 y2:Value) (e5:w.cell? ⟨be,i,none⟩=some y1) (e6:w.cell? ⟨bf,i,none⟩=some y2) (z1:w.frozen? ⟨be,i,none⟩=false) (z2:w.frozen? ⟨bf,i,none⟩=false):
  Calls prog 278 #[.pointer (some ⟨bp,0,none⟩),.int .i64 i] w fun e w'=>e=.returned (.tuple #[])/\z1k be bf i (.int .i64 x2) (.bool f2) w w':=by
 have I:=j0l hn hi;have E:(0:Int)<=(i:Int)+1:=by omega
 have D:(0:Int)<=(i:Int):=by omega
 have H:((i:Int)+1).toNat=i+1:=by omega
 have G:(0:Int)<=(j:Int):=by omega
 go_in;go_wp2_with fail
 go_region_held3 (fun w'=>w'.cell? ⟨bp,0,none⟩=some (.slice (some ⟨s,o,none⟩) n A)/\w'.cell? ⟨bp,1,none⟩=some (.slice (some ⟨be,0,none⟩) n n)/\w'.cell? ⟨bp,2,none⟩=some (.slice (some ⟨bf,0,none⟩) n n)/\w'.cell? ⟨s,o+i*3,none⟩=some (.int .i64 6)/\w'.cell? ⟨be,i+1,none⟩=some (.int .i64 (j:Int))/\w'.cell? ⟨be,j,none⟩=some (.int .i64 x2)/\w'.cell? ⟨bf,i+1,none⟩=some (.bool true)/\w'.cell? ⟨bf,j,none⟩=some (.bool f2))
  (first|exact⟨c0,c1,c2,d1,e1,e2,e3,e4⟩|exact⟨(cso (by omega)).trans c0,(cso (by omega)).trans c1,(cso (by omega)).trans c2,(cso (by omega)).trans d1,(cso (by omega)).trans e1,(cso (by omega)).trans e2,(cso (by omega)).trans e3,(cso (by omega)).trans e4⟩|exact⟨(cso (by omega)).trans ((cso (by omega)).trans c0),(cso (by omega)).trans ((cso (by omega)).trans c1),(cso (by omega)).trans ((cso (by omega)).trans c2),(cso (by omega)).trans ((cso (by omega)).trans d1),(cso (by omega)).trans ((cso (by omega)).trans e1),(cso (by omega)).trans ((cso (by omega)).trans e2),(cso (by omega)).trans ((cso (by omega)).trans e3),(cso (by omega)).trans ((cso (by omega)).trans e4)⟩) (fail)
 all_goals
  go_wp2
  go_end0
  exact⟨rfl,rfl,rfl,rfl,rfl⟩
theorem v2j(bp be bf s o n A i j:Nat)(x2:Int)(f2:Bool)(w:World)(hn:n<=400)(hi:(i:Int)<n)(B:(i:Int)+1<n)(hj:(j:Int)<n)(_hij:i+1<j)(h1:bp≠be)(h2:bp≠bf)(h3:be≠bf)(h4:s≠be)(h5:s≠bf)
  (c0:w.cell? ⟨bp,0,none⟩=some (.slice (some ⟨s,o,none⟩) n A)) (c1:w.cell? ⟨bp,1,none⟩=some (.slice (some ⟨be,0,none⟩) n n)) (c2:w.cell? ⟨bp,2,none⟩=some (.slice (some ⟨bf,0,none⟩) n n))
  (d1:w.cell? ⟨s,o+i*3,none⟩=some (.int .i64 6))
  (e1:w.cell? ⟨be,i+1,none⟩=some (.int .i64 (j:Int)))
  (e2:w.cell? ⟨be,j,none⟩=some (.int .i64 x2))
  (e3:w.cell? ⟨bf,i+1,none⟩=some (.bool false))
  (_e4:w.cell? ⟨bf,j,none⟩=some (.bool f2))
  (y1 y2:Value) (e5:w.cell? ⟨be,i,none⟩=some y1) (e6:w.cell? ⟨bf,i,none⟩=some y2) (z1:w.frozen? ⟨be,i,none⟩=false) (z2:w.frozen? ⟨bf,i,none⟩=false):
  Calls prog 278 #[.pointer (some ⟨bp,0,none⟩),.int .i64 i] w fun e w'=>e=.returned (.tuple #[])/\z1k be bf i (.int .i64 x2) (.bool false) w w':=by
 have H:=j0l hn hi;have D:(0:Int)<=(i:Int)+1:=by omega
 have C:(0:Int)<=(i:Int):=by omega
 have G:((i:Int)+1).toNat=i+1:=by omega
 have E:(0:Int)<=(j:Int):=by omega
 have I:=(cso (W:=w) (v:=.int .i64 x2) (b:=be) (o:=i) (by omega)).trans c0;have J:=(cso (W:=w) (v:=.int .i64 x2) (b:=be) (o:=i) (by omega)).trans c1;have K:=(cso (W:=w) (v:=.int .i64 x2) (b:=be) (o:=i) (by omega)).trans c2;have L:=(cso (W:=w) (v:=.int .i64 x2) (b:=be) (o:=i) (by omega)).trans e3;have M:=(cso (W:=w) (v:=.int .i64 x2) (b:=be) (o:=i) (by omega)).trans e6;have N:=(csf (W:=w) (v:=.int .i64 x2) (a:=⟨be,i,none⟩)).trans z2;go_in;go_wp2_with fail
 go_region
 all_goals
  go_wp2
  go_end0
  exact⟨rfl,rfl,rfl,rfl,rfl⟩
theorem y5o{op:Int}{tx:ByteArray}{n:Int}(_h0:op<1):q0l ⟨op,tx,n⟩=1:=by
 unfold q0l
 (repeat' split)<;>first|rfl|(exfalso;omega)|(exfalso;simp_all;done)|(exfalso;simp_all<;>omega)|(simp_all;done)
theorem y5p{op:Int}{tx:ByteArray}{n:Int}(_h0:¬op<1)(_h1:9<op):q0l ⟨op,tx,n⟩=1:=by
 unfold q0l
 (repeat' split)<;>first|rfl|(exfalso;omega)|(exfalso;simp_all;done)|(exfalso;simp_all<;>omega)|(simp_all;done)
theorem y5q{tx:ByteArray}{n:Int}(_h0:n<0):q0l ⟨1,tx,n⟩=1:=by
 have A:q2c 1=false:=rfl;unfold q0l
 (repeat' split)<;>first|rfl|(exfalso;omega)|(exfalso;simp_all;done)|(exfalso;simp_all<;>omega)|(simp_all;done)
theorem y5r{tx:ByteArray}{n:Int}(_h0:¬n<0)(_h1:999999<n):q0l ⟨1,tx,n⟩=1:=by
 have A:q2c 1=false:=rfl;unfold q0l
 (repeat' split)<;>first|rfl|(exfalso;omega)|(exfalso;simp_all;done)|(exfalso;simp_all<;>omega)|(simp_all;done)
theorem y5s{tx:ByteArray}{n:Int}(_h0:¬n<0)(_h1:¬999999<n)(_h2:0<(tx.size:Int)):q0l ⟨1,tx,n⟩=2:=by
 have A:q2c 1=false:=rfl;unfold q0l
 (repeat' split)<;>first|rfl|(exfalso;omega)|(exfalso;simp_all;done)|(exfalso;simp_all<;>omega)|(simp_all;done)
theorem y5t{tx:ByteArray}{n:Int}(_h0:¬n<0)(_h1:¬999999<n)(_h2:¬0<(tx.size:Int)):q0l ⟨1,tx,n⟩=0:=by
 have A:q2c 1=false:=rfl;unfold q0l
 (repeat' split)<;>first|rfl|(exfalso;omega)|(exfalso;simp_all;done)|(exfalso;simp_all<;>omega)|(simp_all;done)
theorem y5u{tx:ByteArray}{n:Int}(_h0:¬n=0):q0l ⟨2,tx,n⟩=2:=by
 have A:q2c 2=true:=rfl;unfold q0l
 (repeat' split)<;>first|rfl|(exfalso;omega)|(exfalso;simp_all;done)|(exfalso;simp_all<;>omega)|(simp_all;done)
theorem y5v{tx:ByteArray}{n:Int}(_h0:n=0)(_h1:q1f tx=true):q0l ⟨2,tx,n⟩=0:=by
 have A:q2c 2=true:=rfl;unfold q0l
 (repeat' split)<;>first|rfl|(exfalso;omega)|(exfalso;simp_all;done)|(exfalso;simp_all<;>omega)|(simp_all;done)
theorem y5w{tx:ByteArray}{n:Int}(_h0:n=0)(_h1:q1f tx=false):q0l ⟨2,tx,n⟩=5:=by
 have A:q2c 2=true:=rfl;unfold q0l
 (repeat' split)<;>first|rfl|(exfalso;omega)|(exfalso;simp_all;done)|(exfalso;simp_all<;>omega)|(simp_all;done)
theorem y5x{tx:ByteArray}{n:Int}(_h0:n<0):q0l ⟨3,tx,n⟩=1:=by
 have A:q2c 3=true:=rfl;unfold q0l
 (repeat' split)<;>first|rfl|(exfalso;omega)|(exfalso;simp_all;done)|(exfalso;simp_all<;>omega)|(simp_all;done)
theorem y1f{tx:ByteArray}{n:Int}(_h0:¬n<0)(_h1:6<n):q0l ⟨3,tx,n⟩=1:=by
 have A:q2c 3=true:=rfl;unfold q0l
 (repeat' split)<;>first|rfl|(exfalso;omega)|(exfalso;simp_all;done)|(exfalso;simp_all<;>omega)|(simp_all;done)
theorem y1g{tx:ByteArray}{n:Int}(_h0:¬n<0)(_h1:¬6<n)(_h2:q1f tx=true):q0l ⟨3,tx,n⟩=0:=by
 have A:q2c 3=true:=rfl;unfold q0l
 (repeat' split)<;>first|rfl|(exfalso;omega)|(exfalso;simp_all;done)|(exfalso;simp_all<;>omega)|(simp_all;done)
theorem y1h{tx:ByteArray}{n:Int}(_h0:¬n<0)(_h1:¬6<n)(_h2:q1f tx=false):q0l ⟨3,tx,n⟩=5:=by
 have A:q2c 3=true:=rfl;unfold q0l
 (repeat' split)<;>first|rfl|(exfalso;omega)|(exfalso;simp_all;done)|(exfalso;simp_all<;>omega)|(simp_all;done)
theorem y1i{tx:ByteArray}{n:Int}(_h0:n<0):q0l ⟨4,tx,n⟩=1:=by
 have A:q2c 4=false:=rfl;unfold q0l
 (repeat' split)<;>first|rfl|(exfalso;omega)|(exfalso;simp_all;done)|(exfalso;simp_all<;>omega)|(simp_all;done)
theorem y1j{tx:ByteArray}{n:Int}(_h0:¬n<0)(_h1:6<n):q0l ⟨4,tx,n⟩=1:=by
 have A:q2c 4=false:=rfl;unfold q0l
 (repeat' split)<;>first|rfl|(exfalso;omega)|(exfalso;simp_all;done)|(exfalso;simp_all<;>omega)|(simp_all;done)
theorem y1k{tx:ByteArray}{n:Int}(_h0:¬n<0)(_h1:¬6<n)(_h2:0<(tx.size:Int)):q0l ⟨4,tx,n⟩=2:=by
 have A:q2c 4=false:=rfl;unfold q0l
 (repeat' split)<;>first|rfl|(exfalso;omega)|(exfalso;simp_all;done)|(exfalso;simp_all<;>omega)|(simp_all;done)
theorem y1l{tx:ByteArray}{n:Int}(_h0:¬n<0)(_h1:¬6<n)(_h2:¬0<(tx.size:Int)):q0l ⟨4,tx,n⟩=0:=by
 have A:q2c 4=false:=rfl;unfold q0l
 (repeat' split)<;>first|rfl|(exfalso;omega)|(exfalso;simp_all;done)|(exfalso;simp_all<;>omega)|(simp_all;done)
theorem y1m{tx:ByteArray}{n:Int}(_h0:¬n=0):q0l ⟨5,tx,n⟩=2:=by
 have A:q2c 5=false:=rfl;unfold q0l
 (repeat' split)<;>first|rfl|(exfalso;omega)|(exfalso;simp_all;done)|(exfalso;simp_all<;>omega)|(simp_all;done)
theorem y1n{tx:ByteArray}{n:Int}(_h0:n=0)(_h1:0<(tx.size:Int)):q0l ⟨5,tx,n⟩=2:=by
 have A:q2c 5=false:=rfl;unfold q0l
 (repeat' split)<;>first|rfl|(exfalso;omega)|(exfalso;simp_all;done)|(exfalso;simp_all<;>omega)|(simp_all;done)
theorem y1o{tx:ByteArray}{n:Int}(_h0:n=0)(_h1:¬0<(tx.size:Int)):q0l ⟨5,tx,n⟩=0:=by
 have A:q2c 5=false:=rfl;unfold q0l
 (repeat' split)<;>first|rfl|(exfalso;omega)|(exfalso;simp_all;done)|(exfalso;simp_all<;>omega)|(simp_all;done)
theorem y1p{tx:ByteArray}{n:Int}(_h0:¬n=0):q0l ⟨6,tx,n⟩=2:=by
 have A:q2c 6=false:=rfl;unfold q0l
 (repeat' split)<;>first|rfl|(exfalso;omega)|(exfalso;simp_all;done)|(exfalso;simp_all<;>omega)|(simp_all;done)
theorem y1q{tx:ByteArray}{n:Int}(_h0:n=0)(_h1:0<(tx.size:Int)):q0l ⟨6,tx,n⟩=2:=by
 have A:q2c 6=false:=rfl;unfold q0l
 (repeat' split)<;>first|rfl|(exfalso;omega)|(exfalso;simp_all;done)|(exfalso;simp_all<;>omega)|(simp_all;done)
theorem y1r{tx:ByteArray}{n:Int}(_h0:n=0)(_h1:¬0<(tx.size:Int)):q0l ⟨6,tx,n⟩=0:=by
 have A:q2c 6=false:=rfl;unfold q0l
 (repeat' split)<;>first|rfl|(exfalso;omega)|(exfalso;simp_all;done)|(exfalso;simp_all<;>omega)|(simp_all;done)
theorem y1s{tx:ByteArray}{n:Int}(_h0:¬n=0):q0l ⟨7,tx,n⟩=2:=by
 have A:q2c 7=true:=rfl;unfold q0l
 (repeat' split)<;>first|rfl|(exfalso;omega)|(exfalso;simp_all;done)|(exfalso;simp_all<;>omega)|(simp_all;done)
theorem y1t{tx:ByteArray}{n:Int}(_h0:n=0)(_h1:q1f tx=true):q0l ⟨7,tx,n⟩=0:=by
 have A:q2c 7=true:=rfl;unfold q0l
 (repeat' split)<;>first|rfl|(exfalso;omega)|(exfalso;simp_all;done)|(exfalso;simp_all<;>omega)|(simp_all;done)
theorem y1u{tx:ByteArray}{n:Int}(_h0:n=0)(_h1:q1f tx=false):q0l ⟨7,tx,n⟩=5:=by
 have A:q2c 7=true:=rfl;unfold q0l
 (repeat' split)<;>first|rfl|(exfalso;omega)|(exfalso;simp_all;done)|(exfalso;simp_all<;>omega)|(simp_all;done)
theorem y1v{tx:ByteArray}{n:Int}(_h0:¬n=0):q0l ⟨8,tx,n⟩=2:=by
 have A:q2c 8=false:=rfl;unfold q0l
 (repeat' split)<;>first|rfl|(exfalso;omega)|(exfalso;simp_all;done)|(exfalso;simp_all<;>omega)|(simp_all;done)
theorem y1w{tx:ByteArray}{n:Int}(_h0:n=0)(_h1:0<(tx.size:Int)):q0l ⟨8,tx,n⟩=2:=by
 have A:q2c 8=false:=rfl;unfold q0l
 (repeat' split)<;>first|rfl|(exfalso;omega)|(exfalso;simp_all;done)|(exfalso;simp_all<;>omega)|(simp_all;done)
theorem y1x{tx:ByteArray}{n:Int}(_h0:n=0)(_h1:¬0<(tx.size:Int)):q0l ⟨8,tx,n⟩=0:=by
 have A:q2c 8=false:=rfl;unfold q0l
 (repeat' split)<;>first|rfl|(exfalso;omega)|(exfalso;simp_all;done)|(exfalso;simp_all<;>omega)|(simp_all;done)
theorem y1y{tx:ByteArray}{n:Int}(_h0:¬n=0):q0l ⟨9,tx,n⟩=2:=by
 have A:q2c 9=true:=rfl;unfold q0l
 (repeat' split)<;>first|rfl|(exfalso;omega)|(exfalso;simp_all;done)|(exfalso;simp_all<;>omega)|(simp_all;done)
theorem y1z{tx:ByteArray}{n:Int}(_h0:n=0)(_h1:q3k tx=0):q0l ⟨9,tx,n⟩=0:=by
 have A:q2c 9=true:=rfl;unfold q0l
 (repeat' split)<;>first|rfl|(exfalso;omega)|(exfalso;simp_all;done)|(exfalso;simp_all<;>omega)|(simp_all;done)
theorem y2a{tx:ByteArray}{n:Int}(_h0:n=0)(_h1:¬q3k tx=0):q0l ⟨9,tx,n⟩=q3k tx:=by
 have A:q2c 9=true:=rfl;unfold q0l
 (repeat' split)<;>first|rfl|(exfalso;omega)|(exfalso;simp_all;done)|(exfalso;simp_all<;>omega)|(simp_all;done)
theorem j0b{ds:List Td}(h:40<ds.length):q0c ds=3:=by rw[q0c,if_pos h]
theorem j0c{ds:List Td}{k:Nat}(hl:ds.length<=40)(hk:k<ds.length)(ha:∀x∈ds.take k,q0l x=0)(h:q0l ds[k]≠0):q0c ds=q0l ds[k]:=by
 have e:=j4b ds k hk ha h;rw[q0c,if_neg (by omega),if_pos (by rw[e];exact h),e]
theorem j8h{ds:List Td}(hl:ds.length<=40)(ha:∀x∈ds,q0l x=0):q0c ds=if z1n ds 0 1=some ds.length/\j8g ds=true then 0 else 2:=by
 rw[q0c,if_neg (by omega),if_neg (by rw[k5j ds ha];simp)]
theorem k9x{ds:List Td}{k:Nat}(h:k<ds.length)(ha:∀x∈ds.take k,q0l x=0)(h0:q0l ds[k]=0):∀x∈ds.take (k+1),q0l x=0:=by
 intro x A;rw[List.take_succ_eq_append_getElem h]at A;rcases List.mem_append.1 A with A|A
 ·exact ha x A
 ·simp at A;subst A;exact h0
end Go.Proofs.YtelcnplcpboonaaGreatDoor
