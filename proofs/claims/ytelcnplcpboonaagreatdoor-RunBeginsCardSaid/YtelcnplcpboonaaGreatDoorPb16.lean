import Derived.Test.YtelcnplcpboonaaGreatDoorPb09
import Derived.Test.YtelcnplcpboonaaGreatDoorPb02
import Derived.Test.YtelcnplcpboonaaGreatDoorPb10
import Derived.Test.YtelcnplcpboonaaGreatDoorPb14
open Go.Proofs.Tryz
namespace Go.Proofs.YtelcnplcpboonaaGreatDoor
open Go Go.RowKit
set_option maxRecDepth 100000
set_option maxHeartbeats 16000000
theorem q7e(oq:Int)(ho:oq=1\/oq=2\/oq=3\/oq=5)(bp be bf s o n A i:Nat)(w:World)(hn:n<=400)(hi:(i:Int)<n)(h1:bp≠be)(h2:bp≠bf)(h3:be≠bf)(h4:s≠be)(h5:s≠bf)
  (c0:w.cell? ⟨bp,0,none⟩=some (.slice (some ⟨s,o,none⟩) n A)) (c1:w.cell? ⟨bp,1,none⟩=some (.slice (some ⟨be,0,none⟩) n n)) (c2:w.cell? ⟨bp,2,none⟩=some (.slice (some ⟨bf,0,none⟩) n n))
  (d1:w.cell? ⟨s,o+i*3,none⟩=some (.int .i64 oq))
  (y1 y2:Value) (e5:w.cell? ⟨be,i,none⟩=some y1) (e6:w.cell? ⟨bf,i,none⟩=some y2) (z1:w.frozen? ⟨be,i,none⟩=false) (z2:w.frozen? ⟨bf,i,none⟩=false):
  Calls prog 278 #[.pointer (some ⟨bp,0,none⟩),.int .i64 i] w fun e w'=>e=.returned (.tuple #[])/\z1k be bf i (.int .i64 ((i:Int)+1)) (.bool true) w w':=by
 have G:y3r oq:=.mk;rcases ho with rfl|rfl|rfl|rfl
 all_goals
  have E:=j0l hn hi;have C:(0:Int)<=(i:Int)+1:=by omega
  have B:(0:Int)<=(i:Int):=by omega
  have D:((i:Int)+1).toNat=i+1:=by omega
  go_in;go_wp2_with fail
  go_region_held3 (fun w'=>w'.cell? ⟨bp,0,none⟩=some (.slice (some ⟨s,o,none⟩) n A)/\w'.cell? ⟨bp,1,none⟩=some (.slice (some ⟨be,0,none⟩) n n)/\w'.cell? ⟨bp,2,none⟩=some (.slice (some ⟨bf,0,none⟩) n n)/\w'.cell? ⟨s,o+i*3,none⟩=some (.int .i64 ↑G))
   (first|exact⟨c0,c1,c2,d1⟩|exact⟨(cso (by omega)).trans c0,(cso (by omega)).trans c1,(cso (by omega)).trans c2,(cso (by omega)).trans d1⟩|exact⟨(cso (by omega)).trans ((cso (by omega)).trans c0),(cso (by omega)).trans ((cso (by omega)).trans c1),(cso (by omega)).trans ((cso (by omega)).trans c2),(cso (by omega)).trans ((cso (by omega)).trans d1)⟩) (fail)
  all_goals
   go_wp2
   go_end0
   exact⟨rfl,rfl,rfl,rfl,rfl⟩
theorem y0c(bp be bf s o n A i:Nat)(w:World)(hn:n<=400)(hi:(i:Int)<n)(h1:bp≠be)(h2:bp≠bf)(h3:be≠bf)(h4:s≠be)(h5:s≠bf)
  (c0:w.cell? ⟨bp,0,none⟩=some (.slice (some ⟨s,o,none⟩) n A)) (c1:w.cell? ⟨bp,1,none⟩=some (.slice (some ⟨be,0,none⟩) n n)) (c2:w.cell? ⟨bp,2,none⟩=some (.slice (some ⟨bf,0,none⟩) n n))
  (d1:w.cell? ⟨s,o+i*3,none⟩=some (.int .i64 4))
  (y1 y2:Value) (e5:w.cell? ⟨be,i,none⟩=some y1) (e6:w.cell? ⟨bf,i,none⟩=some y2) (z1:w.frozen? ⟨be,i,none⟩=false) (z2:w.frozen? ⟨bf,i,none⟩=false):
  Calls prog 278 #[.pointer (some ⟨bp,0,none⟩),.int .i64 i] w fun e w'=>e=.returned (.tuple #[])/\z1k be bf i (.int .i64 ((i:Int)+1)) (.bool false) w w':=by
 have E:=j0l hn hi;have C:(0:Int)<=(i:Int)+1:=by omega
 have B:(0:Int)<=(i:Int):=by omega
 have D:((i:Int)+1).toNat=i+1:=by omega
 go_in;go_wp2_with fail
 go_region_held3 (fun w'=>w'.cell? ⟨bp,0,none⟩=some (.slice (some ⟨s,o,none⟩) n A)/\w'.cell? ⟨bp,1,none⟩=some (.slice (some ⟨be,0,none⟩) n n)/\w'.cell? ⟨bp,2,none⟩=some (.slice (some ⟨bf,0,none⟩) n n)/\w'.cell? ⟨s,o+i*3,none⟩=some (.int .i64 4))
  (first|exact⟨c0,c1,c2,d1⟩|exact⟨(cso (by omega)).trans c0,(cso (by omega)).trans c1,(cso (by omega)).trans c2,(cso (by omega)).trans d1⟩|exact⟨(cso (by omega)).trans ((cso (by omega)).trans c0),(cso (by omega)).trans ((cso (by omega)).trans c1),(cso (by omega)).trans ((cso (by omega)).trans c2),(cso (by omega)).trans ((cso (by omega)).trans d1)⟩) (fail)
 all_goals
  go_wp2
  go_end0
  exact⟨rfl,rfl,rfl,rfl,rfl⟩
theorem k9r(s:ByteArray)(w:World):
  Calls prog 56 #[.string s,.string ⟨#[32]⟩] w fun e w'=>e=.returned (.int .i64 (Lib.indexByte s.data.toList 32))/\w=w':=by
 go_in;go_wp2_with(go_at_call 74;refine(q5r _ _ _).mono ?_;rintro e w'⟨rfl,rfl⟩)
 ·have h:([32]==s.toList)=true:=by assumption
  go_ret;refine⟨?_,rfl⟩;have e:s.data.toList=[32]:=by rw[<-Lib.toList_data];exact(beq_iff_eq.1 h).symm
  rw[e];simp[Lib.indexByte]
 ·go_ret;exact⟨rfl,rfl⟩
theorem q8t(s:ByteArray)(w:World):
  Calls prog 269 #[.string s,.string ⟨#[32]⟩] w fun e w'=>e=.returned (.int .i64 (Lib.indexByte s.data.toList 32))/\w=w':=by
 go_in;go_wp2_with fail;refine(k9r _ _).mono ?_;rintro e A⟨rfl,rfl⟩;go_wp2;go_ret;exact⟨rfl,rfl⟩
theorem k8p(s:ByteArray)(N:Nat)(w:World)(hs:s.size<=140737488351232)(hN:N=min 61 (s.size+1)):
  Calls prog 243 #[.string s,.string ⟨#[32]⟩,.int .i64 0,.int .i64 61] w fun e w'=>
   e=.returned (.slice (some ⟨w,0,none⟩) (spK (N-1) s).length N)/\w'=w.alloc (.cells (Lib.cellsOf (spK (N-1) s) N) 9):=by
 have S:min (61:Int) ((s.size:Int)+1)=(N:Int):=by omega
 have j:(N:Int)<=(s.size:Int)+1:=by omega
 have f:(1:Int)<=(N:Int):=by omega
 have g:N<=61:=by omega
 clear hN;by_cases d:(s.size:Int)+1<61
 ·have Q:((N:Nat):Int)=(s.size:Int)+1:=by omega
  have I:=run_make_row' (P:=prog) 72 9 (.string ByteArray.empty) 16 Tryz.underlying72 z3r rfl .i64 .i64 N (by omega) (by omega);rw[Q]at I;go_in;go_wp2_with fail;clear I S
  go_loopw [0,10] (fun s0 i wr=>∃(A:List ByteArray)(B:ByteArray),s0=.string B/\i=.int .i64 (A.length:Nat)/\A.length<=N-1/\B.size<=s.size/\
    wr=w.alloc (.cells (Lib.cellsOf A N) 9)/\A++spK (N-1-A.length) B=spK (N-1) s) (fun _ i _=>N-1-(intOf i).toNat)
  case atStart=>exact⟨[],s,rfl,rfl,Nat.zero_le _,Nat.le_refl _,by rw[Lib.cellsOf_nil],rfl⟩
  case round=>
   obtain⟨A,B,rfl,rfl,k,W,rfl,J⟩:=hrel;have M:(Lib.cellsOf A N)[A.length]?=some (.string ByteArray.empty):=Lib.cellsOf_next (by omega);have R:Hid (A++spK (N-1-A.length) B=spK (N-1) s):=J;clear J
   have C:spK (N-1-A.length) B=[B]->(spK (N-1) s).length=A.length+1/\(Lib.cellsOf A N).setIfInBounds A.length (.string B)=Lib.cellsOf (spK (N-1) s) N:=fun h=>by
    have e:=R.o;rw[h]at e;rw[<-e];exact⟨by simp,Lib.cellsOf_set (by omega) B⟩
   by_cases V:A.length<N-1
   ·have H:((A.length:Nat):Int)<(s.size:Int):=by omega
    rcases q6t B with D|⟨i,D,O⟩
    ·obtain⟨E,G⟩:=C (q9j _ D);have K:Hid ((spK (N-1) s).length=A.length+1):=E;have L:=(show Hid (_=_)from G);clear E G C;go_wp2_with fail;refine(q8t B _).mono ?_;rintro e X⟨rfl,rfl⟩;rw[D];go_wp2;go_ret;rw[K.o,<-L.o];exact⟨by first|rfl|(congr 2<;>omega),rfl⟩
    ·have Y:¬((i:Int)<0):=by omega
     have Z:(0:Int)<=↑i:=by omega
     have a:(↑i:Int)<=↑B.size:=by omega
     have b:(0:Int)<=↑i+1:=by omega
     have c:(↑i+1:Int)<=↑B.size:=by omega
     have U:Hid (A++[B.extract 0 i]++spK (N-1-(A.length+1)) (B.extract (i+1) B.size)=spK (N-1) s):=by
      show _=_;rw[<-R.o,show N-1-A.length=(N-1-(A.length+1))+1 by omega,z3q _ D];simp
     clear C;go_wp2_with fail;refine(q8t B _).mono ?_;rintro e X⟨rfl,rfl⟩;rw[D];go_wp2
     go_roundw
     case rel=>exact⟨A++[B.extract 0 i],B.extract (i+1) B.size,rfl,by simp,by simp;omega,by rw[ByteArray.size_extract];omega,by rw[<-Lib.cellsOf_set (by omega)],by rw[List.length_append];exact U.o⟩
     case measure=>simp[intOf];omega
   ·have H:¬(((A.length:Nat):Int)<(s.size:Int)):=by omega
    obtain⟨E,G⟩:=C (by rw[show N-1-A.length=0 by omega];rfl);have K:Hid ((spK (N-1) s).length=A.length+1):=E;have L:=(show Hid (_=_)from G);clear E G C;go_wp2;go_ret;rw[K.o,<-L.o];exact⟨by first|rfl|(congr 2<;>omega),rfl⟩
 ·have Q:((N:Nat):Int)=61:=by omega
  have I:=run_make_row' (P:=prog) 72 9 (.string ByteArray.empty) 16 Tryz.underlying72 z3r rfl .i64 .i64 N (by omega) (by omega);rw[Q]at I;go_in;go_wp2_with fail;clear I S
  go_loopw [0,10] (fun s0 i wr=>∃(A:List ByteArray)(B:ByteArray),s0=.string B/\i=.int .i64 (A.length:Nat)/\A.length<=N-1/\B.size<=s.size/\
    wr=w.alloc (.cells (Lib.cellsOf A N) 9)/\A++spK (N-1-A.length) B=spK (N-1) s) (fun _ i _=>N-1-(intOf i).toNat)
  case atStart=>exact⟨[],s,rfl,rfl,Nat.zero_le _,Nat.le_refl _,by rw[Lib.cellsOf_nil],rfl⟩
  case round=>
   obtain⟨A,B,rfl,rfl,k,W,rfl,J⟩:=hrel;have M:(Lib.cellsOf A N)[A.length]?=some (.string ByteArray.empty):=Lib.cellsOf_next (by omega);have R:Hid (A++spK (N-1-A.length) B=spK (N-1) s):=J;clear J
   have C:spK (N-1-A.length) B=[B]->(spK (N-1) s).length=A.length+1/\(Lib.cellsOf A N).setIfInBounds A.length (.string B)=Lib.cellsOf (spK (N-1) s) N:=fun h=>by
    have e:=R.o;rw[h]at e;rw[<-e];exact⟨by simp,Lib.cellsOf_set (by omega) B⟩
   by_cases V:A.length<N-1
   ·have H:((A.length:Nat):Int)<60:=by omega
    rcases q6t B with D|⟨i,D,O⟩
    ·obtain⟨E,G⟩:=C (q9j _ D);have K:Hid ((spK (N-1) s).length=A.length+1):=E;have L:=(show Hid (_=_)from G);clear E G C;go_wp2_with fail;refine(q8t B _).mono ?_;rintro e X⟨rfl,rfl⟩;rw[D];go_wp2;go_ret;rw[K.o,<-L.o];exact⟨by first|rfl|(congr 2<;>omega),rfl⟩
    ·have Y:¬((i:Int)<0):=by omega
     have Z:(0:Int)<=↑i:=by omega
     have a:(↑i:Int)<=↑B.size:=by omega
     have b:(0:Int)<=↑i+1:=by omega
     have c:(↑i+1:Int)<=↑B.size:=by omega
     have U:Hid (A++[B.extract 0 i]++spK (N-1-(A.length+1)) (B.extract (i+1) B.size)=spK (N-1) s):=by
      show _=_;rw[<-R.o,show N-1-A.length=(N-1-(A.length+1))+1 by omega,z3q _ D];simp
     clear C;go_wp2_with fail;refine(q8t B _).mono ?_;rintro e X⟨rfl,rfl⟩;rw[D];go_wp2
     go_roundw
     case rel=>exact⟨A++[B.extract 0 i],B.extract (i+1) B.size,rfl,by simp,by simp;omega,by rw[ByteArray.size_extract];omega,by rw[<-Lib.cellsOf_set (by omega)],by rw[List.length_append];exact U.o⟩
     case measure=>simp[intOf];omega
   ·have H:¬(((A.length:Nat):Int)<60):=by omega
    obtain⟨E,G⟩:=C (by rw[show N-1-A.length=0 by omega];rfl);have K:Hid ((spK (N-1) s).length=A.length+1):=E;have L:=(show Hid (_=_)from G);clear E G C;go_wp2;go_ret;rw[K.o,<-L.o];exact⟨by first|rfl|(congr 2<;>omega),rfl⟩
theorem k9t(s:ByteArray)(N:Nat)(w:World)(hs:s.size<=140737488351232)(hN:N=min 61 (s.size+1)):
  Calls prog 220 #[.string s,.string ⟨#[32]⟩,.int .i64 61] w fun e w'=>
   e=.returned (.slice (some ⟨w,0,none⟩) (spK (N-1) s).length N)/\w'=w.alloc (.cells (Lib.cellsOf (spK (N-1) s) N) 9):=by
 have A:Hid (N=min 61 (s.size+1)):=hN;clear hN;go_in;go_wp2_with fail;refine(k8p s N _ hs A.o).mono ?_;rintro e B⟨rfl,rfl⟩;go_wp2;go_ret;exact⟨rfl,rfl⟩
theorem v0y{ws:List ByteArray}{N i:Nat}(h:i<ws.length):(Lib.cellsOf ws N)[i]?=some (.string ws[i]):=by
 unfold Lib.cellsOf;rw[List.getElem?_toArray,List.getElem?_append_left (by rw[List.length_map];exact h),List.getElem?_map,List.getElem?_eq_getElem h];rfl
theorem j2c(w:World)(ws:List ByteArray)(N:Nat):Wds (w.alloc (.cells (Lib.cellsOf ws N) 9)) (some ⟨w,0,none⟩) ws:=by
 intro i A;refine⟨w.heap.size,0,rfl,by rw[World.size_alloc];omega,?_⟩
 have h:(w.alloc (.cells (Lib.cellsOf ws N) 9)).heap[w.heap.size]?=some (.cells (Lib.cellsOf ws N) 9):=by
  show(w.heap.push _)[w.heap.size]?=_
  simp
 simp only[World.cell?,Option.isSome_none,Bool.false_eq_true,if_false,h,Nat.zero_add];exact v0y A
theorem q7j{t:ByteArray}(h0:0<(t.size:Int)):(t.toList==[])=false:=by
 rw[Lib.toList_data]
 have:=(show t.data.toList.length=t.size from q0b t)
 cases h:t.data.toList with
 | nil=>rw[h]at this;simp at this;omega
 | cons a b=>rfl
theorem q5h{t:ByteArray}(h0:¬0<(t.size:Int)):t=⟨#[]⟩:=by
 obtain⟨d⟩:=t
 have A:d.size=0:=by
  have:(d.size:Int)=((⟨d⟩:ByteArray).size:Int):=rfl
  omega
 rw[Array.eq_empty_of_size_eq_zero A]
theorem k9w(s:ByteArray)(w:World)(hs:s.size<=140737488351232):Calls prog 190 #[.string s] w fun e w'=>∃(A:Option Addr)(ws:List ByteArray)(c:Nat),e=.returned (.slice A ws.length c)/\Wds w' A ws/\q1h ws=q3k s/\Below w w w':=by
 by_cases B:0<(s.size:Int)
 ·have E:=q7j B;have C:Hid (q1h (spK (min 61 (s.size+1)-1) s)=q3k s):=v3f (by omega) _ (by omega);go_in;go_wp2_with fail;refine(k9t s _ _ hs rfl).mono ?_;rintro e G⟨rfl,rfl⟩;generalize spK (min 61 (s.size+1)-1) s=ws at C⊢;generalize min 61 (s.size+1)=N;go_wp2;go_ret;exact⟨_,ws,N,rfl,j2c w ws N,C.o,Zb.alloc Zl _⟩
 ·have D:Hid (q3k s=0):=j6d (by omega);have e:=q5h B;subst e;clear B;go_in;go_wp2;go_ret;exact⟨none,[],0,rfl,fun i hi=>by simp at hi,by rw[D.o];rfl,Below.refl _ _⟩
end Go.Proofs.YtelcnplcpboonaaGreatDoor
