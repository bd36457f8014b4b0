import Derived.Test.YtelcnplcpboonaaGreatDoorPe04
import Derived.Test.YtelcnplcpboonaaGreatDoorPe01
open Go.Proofs.Tryz
open Option renaming some->À
open Go.Value renaming slice->Á
namespace Go.Proofs.YtelcnplcpboonaaGreatDoor
open Go Go.RowKit
def eL(be bf i:Nat)(e f:Value)(w w':World):Prop:=
 w'.os=w.os/\w'.tape=w.tape/\w'.output=w.output/\w'.heap=((w.setCell ⟨be,i,none⟩ e).setCell ⟨bf,i,none⟩ f).heap
theorem nX{i n:Nat}(A:n<=400)(hi:(i:Int)<n):IntKind.i64.wrap ((i:Int)+1)=(i:Int)+1:=by
 rw[IntKind.wrap_i64];omega
set_option maxRecDepth 100000
set_option maxHeartbeats 16000000
theorem sB(H:Int)(M:H=1\/H=2\/H=3\/H=5)(D E G s o n J i:Nat)(w)(L:n<=400)(hi:(i:Int)<n)(S:D≠E)(U:D≠G)(V:E≠G)(W:s≠E)(X:s≠G)
  (c0:w.cell? D=À (Á (À ↑(s,o)) n J)) (c1:w.cell? (D,1)=À (Á E n n)) (c2:w.cell? (D,2)=À (Á G n n))
  (K:w.cell? (s,o+i*3)=À ↑H)
  (N O) (P:w.cell? (E,i)=À N) (R:w.cell? (G,i)=À O) (Y:w.frozen? (E,i)=false) (Z:w.frozen? (G,i)=false):
  Calls prog 278 #[.pointer ↑D,↑i] w λe I=>e=.returned (.tuple #[])/\eL E G i ↑((i:Int)+1) (.bool true) w I:=by
 have C:nE H:=.mk;rcases M with rfl|rfl|rfl|rfl
 all_goals
  have B:=nX L hi;have A:((i:Int)+1).toNat=i+1:=by omega
  go_in;go_wp2_with fail
  go_region_held3 (λI=>I.cell? D=À (Á (À ↑(s,o)) n J)/\I.cell? (D,1)=À (Á E n n)/\I.cell? (D,2)=À (Á G n n)/\I.cell? (s,o+i*3)=À (.int .i64 ↑C))
   (first|exact⟨c0,c1,c2,K⟩|exact⟨(af (by omega)).trans c0,(af (by omega)).trans c1,(af (by omega)).trans c2,(af (by omega)).trans K⟩|exact⟨(af (by omega)).trans ((af (by omega)).trans c0),(af (by omega)).trans ((af (by omega)).trans c1),(af (by omega)).trans ((af (by omega)).trans c2),(af (by omega)).trans ((af (by omega)).trans K)⟩) (fail)
  all_goals
   go_wp2
   go_end0
   exact⟨rfl,rfl,rfl,rfl,rfl⟩
theorem KK(D E G s o n I i:Nat)(w)(K:n<=400)(hi:(i:Int)<n)(P:D≠E)(R:D≠G)(S:E≠G)(U:s≠E)(V:s≠G)
  (c0:w.cell? D=À (Á (À ↑(s,o)) n I)) (c1:w.cell? (D,1)=À (Á E n n)) (c2:w.cell? (D,2)=À (Á G n n))
  (J:w.cell? (s,o+i*3)=À (.int .i64 4))
  (L M) (N:w.cell? (E,i)=À L) (O:w.cell? (G,i)=À M) (W:w.frozen? (E,i)=false) (X:w.frozen? (G,i)=false):
  Calls prog 278 #[.pointer ↑D,↑i] w λe H=>e=.returned (.tuple #[])/\eL E G i ↑((i:Int)+1) (.bool false) w H:=by
 have C:=nX K hi;have A:(0:Int)<=(i:Int):=by omega
 have B:((i:Int)+1).toNat=i+1:=by omega
 go_in;go_wp2_with fail
 go_region_held3 (λH=>H.cell? D=À (Á (À ↑(s,o)) n I)/\H.cell? (D,1)=À (Á E n n)/\H.cell? (D,2)=À (Á G n n)/\H.cell? (s,o+i*3)=À (.int .i64 4))
  (first|exact⟨c0,c1,c2,J⟩|exact⟨(af (by omega)).trans c0,(af (by omega)).trans c1,(af (by omega)).trans c2,(af (by omega)).trans J⟩|exact⟨(af (by omega)).trans ((af (by omega)).trans c0),(af (by omega)).trans ((af (by omega)).trans c1),(af (by omega)).trans ((af (by omega)).trans c2),(af (by omega)).trans ((af (by omega)).trans J)⟩) (fail)
 all_goals
  go_wp2
  go_end0
  exact⟨rfl,rfl,rfl,rfl,rfl⟩
