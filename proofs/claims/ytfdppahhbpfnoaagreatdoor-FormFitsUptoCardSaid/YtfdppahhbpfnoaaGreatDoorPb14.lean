import Derived.Test.YtfdppahhbpfnoaaGreatDoorPb07
import Derived.Test.YtfdppahhbpfnoaaGreatDoorPb04
import Derived.Test.YtfdppahhbpfnoaaGreatDoorPb10
open Go.Proofs.Tryz
namespace Go.Proofs.YtfdppahhbpfnoaaGreatDoor
open Go Go.RowKit
set_option maxRecDepth 100000
set_option maxHeartbeats 4000000
theorem y2i(bp be bf s o n cap i j:Nat)(x2:Int)(f1:Bool)(w:World)(hn:n<=400)(hi:(i:Int)<n)(A:(i:Int)+1<n)(hj:(j:Int)<n)(B:i+1<j)(h1:bp≠be)(h2:bp≠bf)(h3:be≠bf)(h4:s≠be)(h5:s≠bf)
  (c0:w.cell? ⟨bp,0,none⟩=some (.slice (some ⟨s,o,none⟩) n cap)) (c1:w.cell? ⟨bp,1,none⟩=some (.slice (some ⟨be,0,none⟩) n n)) (c2:w.cell? ⟨bp,2,none⟩=some (.slice (some ⟨bf,0,none⟩) n n))
  (d1:w.cell? ⟨s,o+i*3,none⟩=some (.int .i64 9))
  (e1:w.cell? ⟨be,i+1,none⟩=some (.int .i64 (j:Int)))
  (e2:w.cell? ⟨be,j,none⟩=some (.int .i64 x2))
  (e3:w.cell? ⟨bf,i+1,none⟩=some (.bool f1))
  (y1 y2:Value) (e5:w.cell? ⟨be,i,none⟩=some y1) (e6:w.cell? ⟨bf,i,none⟩=some y2) (z1:w.frozen? ⟨be,i,none⟩=false) (z2:w.frozen? ⟨bf,i,none⟩=false):
  Calls prog 90 #[.pointer (some ⟨bp,0,none⟩),.int .i64 i] w fun e w'=>e=.returned (.tuple #[])/\z2l be bf i (.int .i64 x2) (.bool f1) w w':=by
 have H:=j1z hn hi;have D:(0:Int)<=(i:Int)+1:=by omega
 have C:(0:Int)<=(i:Int):=by omega
 have G:((i:Int)+1).toNat=i+1:=by omega
 have E:(0:Int)<=(j:Int):=by omega
 go_in;go_wp2_with fail
 go_region_held3 (fun w'=>w'.cell? ⟨bp,0,none⟩=some (.slice (some ⟨s,o,none⟩) n cap)/\w'.cell? ⟨bp,1,none⟩=some (.slice (some ⟨be,0,none⟩) n n)/\w'.cell? ⟨bp,2,none⟩=some (.slice (some ⟨bf,0,none⟩) n n)/\w'.cell? ⟨s,o+i*3,none⟩=some (.int .i64 9)/\w'.cell? ⟨be,i+1,none⟩=some (.int .i64 (j:Int))/\w'.cell? ⟨be,j,none⟩=some (.int .i64 x2)/\w'.cell? ⟨bf,i+1,none⟩=some (.bool f1))
  (first|exact⟨c0,c1,c2,d1,e1,e2,e3⟩|exact⟨(cso (by omega)).trans c0,(cso (by omega)).trans c1,(cso (by omega)).trans c2,(cso (by omega)).trans d1,(cso (by omega)).trans e1,(cso (by omega)).trans e2,(cso (by omega)).trans e3⟩|exact⟨(cso (by omega)).trans ((cso (by omega)).trans c0),(cso (by omega)).trans ((cso (by omega)).trans c1),(cso (by omega)).trans ((cso (by omega)).trans c2),(cso (by omega)).trans ((cso (by omega)).trans d1),(cso (by omega)).trans ((cso (by omega)).trans e1),(cso (by omega)).trans ((cso (by omega)).trans e2),(cso (by omega)).trans ((cso (by omega)).trans e3)⟩) (fail)
 all_goals
  go_wp2
  go_end0
  exact⟨rfl,rfl,rfl,rfl,rfl⟩
theorem z5c(s:ByteArray)(w:World):Calls prog 152 #[.string s] w fun e w'=>e=.returned (.bool (okW s))/\w=w':=by
 by_cases L:(s.size:Int)<1
 ·have e:okW s=false:=by simp[okW];omega
  rw[e];clear e;go_in;go_wp2;go_ret;exact⟨rfl,rfl⟩
 by_cases M:20<(s.size:Int)
 ·have e:okW s=false:=by simp[okW];omega
  rw[e];clear e;go_in;go_wp2;go_ret;exact⟨rfl,rfl⟩
 go_in;go_wp2
 go_loopw [14] (fun i wr=>wr=w/\∃k:Nat,k<=s.size/\i=.int .i64 k/\∀j(h:j<s.size),j<k->q5g s[j]=true) (fun i _=>s.size-(intOf i).toNat)
 case atStart=>exact⟨rfl,0,Nat.zero_le _,rfl,fun j _ K=>by omega⟩
 case round=>
  obtain⟨rfl,k,N,rfl,A⟩:=hrel;have H:Hid (∀j(h:j<s.size),j<k->q5g s[j]=true):=A;clear A;by_cases G:k<s.size
  ·cases B:q5g s[k]with
   | false=>
    have C:Hid (okW s=false):=j8f G B;have D:=z4y B;clear B;rcases D with D|⟨D,J⟩
    ·go_wp2;go_ret;exact⟨by rw[C.o];rfl,rfl⟩
    ·go_wp2;go_ret;exact⟨by rw[C.o];rfl,rfl⟩
   | true=>
    have I:Hid (q5g s[k]=true):=B;obtain⟨D,J⟩:=z7e B;clear B;go_wp2
    go_roundw
    case rel=>
     refine⟨by trivial,k+1,by omega,by go_num,?_⟩;intro j h K;by_cases E:j=k
     ·subst E;exact I.o
     ·exact H.o j h (by omega)
    case measure=>simp[intOf];omega
  ·have C:Hid (okW s=true):=k8q (by omega) (by omega) fun j h=>H.o j h (by omega)
   go_wp2;go_ret;exact⟨by rw[C.o];rfl,rfl⟩
theorem q5v(ws:List ByteArray)(a:Option Addr)(cap:Nat)(w:World)(hW:Wds w a ws):
  Calls prog 97 #[.slice a ws.length cap] w fun e w'=>e=.returned (q1m (q0s ws))/\w=w':=by
 have K:Hid (Wds w a ws):=hW;clear hW;by_cases P:60<(ws.length:Int)
 ·have D:Hid (q0s ws=3):=q6v (by omega);go_in;go_wp2;go_ret;exact⟨by rw[D.o];rfl,rfl⟩
 go_in;go_wp2
 go_loopw [11] (fun i wr=>wr=w/\∃k:Nat,k<=ws.length/\i=.int .i64 k/\∀j(h:j<ws.length),j<k->okW ws[j]=true) (fun i _=>ws.length-(intOf i).toNat)
 case atStart=>exact⟨rfl,0,Nat.zero_le _,rfl,fun j _ hj=>by omega⟩
 case round=>
  obtain⟨rfl,k,Q,rfl,A⟩:=hrel;have I:Hid (∀j(h:j<ws.length),j<k->okW ws[j]=true):=A;clear A;by_cases E:k<ws.length
  ·obtain⟨O,R,L,M,J⟩:=K.o k E;subst L;cases B:okW ws[k]with
   | false=>
    have D:Hid (q0s ws=5):=z7g (by omega) E B;have C:Hid (okW ws[k]=false):=B;generalize ws[k]=x at J C;clear B;go_wp2_with fail;refine(z5c _ _).mono ?_;rintro e N⟨rfl,rfl⟩;rw[C.o];go_wp2;go_ret;exact⟨by rw[D.o];rfl,rfl⟩
   | true=>
    have C:Hid (okW ws[k]=true):=B
    have G:Hid (∀j(h:j<ws.length),j<k+1->okW ws[j]=true):=fun j h hj=>by
     by_cases H:j=k
     ·subst H;exact B
     ·exact I.o j h (by omega)
    generalize ws[k]=x at J C;clear B;go_wp2_with fail;refine(z5c _ _).mono ?_;rintro e N⟨rfl,rfl⟩;rw[C.o];go_wp2
    go_roundw
    case rel=>exact⟨by trivial,k+1,by omega,by go_num,G.o⟩
    case measure=>simp[intOf];omega
  ·have D:Hid (q0s ws=0):=z7f (by omega) fun j h=>I.o j h (by omega)
   go_wp2;go_ret;exact⟨by rw[D.o];rfl,rfl⟩
theorem j1p(s:ByteArray)(w:World):
  Calls prog 198 #[.string s,.string ⟨#[32]⟩] w fun e w'=>e=.returned (.int .i64 (Lib.indexByte s.data.toList 32))/\w=w':=by
 go_in;go_wp2_with(go_at_call 168;refine(q6d _ _ _).mono ?_;rintro e w'⟨rfl,rfl⟩)
 ·have h:([32]==s.toList)=true:=by assumption
  go_ret;refine⟨?_,rfl⟩;have e:s.data.toList=[32]:=by rw[<-Lib.toList_data];exact(beq_iff_eq.1 h).symm
  rw[e];simp[Lib.indexByte]
 ·go_ret;exact⟨rfl,rfl⟩
theorem q9u(s:ByteArray)(w:World):
  Calls prog 214 #[.string s,.string ⟨#[32]⟩] w fun e w'=>e=.returned (.int .i64 (Lib.indexByte s.data.toList 32))/\w=w':=by
 go_in;go_wp2_with fail;refine(j1p _ _).mono ?_;rintro e A⟨rfl,rfl⟩;go_wp2;go_ret;exact⟨rfl,rfl⟩
theorem j0q(s:ByteArray)(N:Nat)(w:World)(hs:s.size<=140737488351232)(hN:N=min 61 (s.size+1)):
  Calls prog 190 #[.string s,.string ⟨#[32]⟩,.int .i64 0,.int .i64 61] w fun e w'=>
   e=.returned (.slice (some ⟨w,0,none⟩) (spK (N-1) s).length N)/\w'=w.alloc (.cells (Lib.cellsOf (spK (N-1) s) N) 9):=by
 have S:min (61:Int) ((s.size:Int)+1)=(N:Int):=by omega
 have j:(N:Int)<=(s.size:Int)+1:=by omega
 have f:(1:Int)<=(N:Int):=by omega
 have g:N<=61:=by omega
 clear hN;by_cases d:(s.size:Int)+1<61
 ·have Q:((N:Nat):Int)=(s.size:Int)+1:=by omega
  have I:=run_make_row' (P:=prog) 58 9 (.string ByteArray.empty) 16 Tryz.underlying58 z4p rfl .i64 .i64 N (by omega) (by omega);rw[Q]at I;go_in;go_wp2_with fail;clear I S
  go_loopw [0,10] (fun s0 i wr=>∃(A:List ByteArray)(B:ByteArray),s0=.string B/\i=.int .i64 (A.length:Nat)/\A.length<=N-1/\B.size<=s.size/\
    wr=w.alloc (.cells (Lib.cellsOf A N) 9)/\A++spK (N-1-A.length) B=spK (N-1) s) (fun _ i _=>N-1-(intOf i).toNat)
  case atStart=>exact⟨[],s,rfl,rfl,Nat.zero_le _,Nat.le_refl _,by rw[Lib.cellsOf_nil],rfl⟩
  case round=>
   obtain⟨A,B,rfl,rfl,k,W,rfl,J⟩:=hrel;have M:(Lib.cellsOf A N)[A.length]?=some (.string ByteArray.empty):=Lib.cellsOf_next (by omega);have R:Hid (A++spK (N-1-A.length) B=spK (N-1) s):=J;clear J
   have C:spK (N-1-A.length) B=[B]->(spK (N-1) s).length=A.length+1/\(Lib.cellsOf A N).setIfInBounds A.length (.string B)=Lib.cellsOf (spK (N-1) s) N:=fun h=>by
    have e:=R.o;rw[h]at e;rw[<-e];exact⟨by simp,Lib.cellsOf_set (by omega) B⟩
   by_cases V:A.length<N-1
   ·have H:((A.length:Nat):Int)<(s.size:Int):=by omega
    rcases q7o B with D|⟨i,D,O⟩
    ·obtain⟨E,G⟩:=C (z0k _ D);have K:Hid ((spK (N-1) s).length=A.length+1):=E;have L:=(show Hid (_=_)from G);clear E G C;go_wp2_with fail;refine(q9u B _).mono ?_;rintro e X⟨rfl,rfl⟩;rw[D];go_wp2;go_ret;rw[K.o,<-L.o];exact⟨by first|rfl|(congr 2<;>omega),rfl⟩
    ·have Y:¬((i:Int)<0):=by omega
     have Z:(0:Int)<=↑i:=by omega
     have a:(↑i:Int)<=↑B.size:=by omega
     have b:(0:Int)<=↑i+1:=by omega
     have c:(↑i+1:Int)<=↑B.size:=by omega
     have U:Hid (A++[B.extract 0 i]++spK (N-1-(A.length+1)) (B.extract (i+1) B.size)=spK (N-1) s):=by
      show _=_;rw[<-R.o,show N-1-A.length=(N-1-(A.length+1))+1 by omega,z4o _ D];simp
     clear C;go_wp2_with fail;refine(q9u B _).mono ?_;rintro e X⟨rfl,rfl⟩;rw[D];go_wp2
     go_roundw
     case rel=>exact⟨A++[B.extract 0 i],B.extract (i+1) B.size,rfl,by simp,by simp;omega,by rw[ByteArray.size_extract];omega,by rw[<-Lib.cellsOf_set (by omega)],by rw[List.length_append];exact U.o⟩
     case measure=>simp[intOf];omega
   ·have H:¬(((A.length:Nat):Int)<(s.size:Int)):=by omega
    obtain⟨E,G⟩:=C (by rw[show N-1-A.length=0 by omega];rfl);have K:Hid ((spK (N-1) s).length=A.length+1):=E;have L:=(show Hid (_=_)from G);clear E G C;go_wp2;go_ret;rw[K.o,<-L.o];exact⟨by first|rfl|(congr 2<;>omega),rfl⟩
 ·have Q:((N:Nat):Int)=61:=by omega
  have I:=run_make_row' (P:=prog) 58 9 (.string ByteArray.empty) 16 Tryz.underlying58 z4p rfl .i64 .i64 N (by omega) (by omega);rw[Q]at I;go_in;go_wp2_with fail;clear I S
  go_loopw [0,10] (fun s0 i wr=>∃(A:List ByteArray)(B:ByteArray),s0=.string B/\i=.int .i64 (A.length:Nat)/\A.length<=N-1/\B.size<=s.size/\
    wr=w.alloc (.cells (Lib.cellsOf A N) 9)/\A++spK (N-1-A.length) B=spK (N-1) s) (fun _ i _=>N-1-(intOf i).toNat)
  case atStart=>exact⟨[],s,rfl,rfl,Nat.zero_le _,Nat.le_refl _,by rw[Lib.cellsOf_nil],rfl⟩
  case round=>
   obtain⟨A,B,rfl,rfl,k,W,rfl,J⟩:=hrel;have M:(Lib.cellsOf A N)[A.length]?=some (.string ByteArray.empty):=Lib.cellsOf_next (by omega);have R:Hid (A++spK (N-1-A.length) B=spK (N-1) s):=J;clear J
   have C:spK (N-1-A.length) B=[B]->(spK (N-1) s).length=A.length+1/\(Lib.cellsOf A N).setIfInBounds A.length (.string B)=Lib.cellsOf (spK (N-1) s) N:=fun h=>by
    have e:=R.o;rw[h]at e;rw[<-e];exact⟨by simp,Lib.cellsOf_set (by omega) B⟩
   by_cases V:A.length<N-1
   ·have H:((A.length:Nat):Int)<60:=by omega
    rcases q7o B with D|⟨i,D,O⟩
    ·obtain⟨E,G⟩:=C (z0k _ D);have K:Hid ((spK (N-1) s).length=A.length+1):=E;have L:=(show Hid (_=_)from G);clear E G C;go_wp2_with fail;refine(q9u B _).mono ?_;rintro e X⟨rfl,rfl⟩;rw[D];go_wp2;go_ret;rw[K.o,<-L.o];exact⟨by first|rfl|(congr 2<;>omega),rfl⟩
    ·have Y:¬((i:Int)<0):=by omega
     have Z:(0:Int)<=↑i:=by omega
     have a:(↑i:Int)<=↑B.size:=by omega
     have b:(0:Int)<=↑i+1:=by omega
     have c:(↑i+1:Int)<=↑B.size:=by omega
     have U:Hid (A++[B.extract 0 i]++spK (N-1-(A.length+1)) (B.extract (i+1) B.size)=spK (N-1) s):=by
      show _=_;rw[<-R.o,show N-1-A.length=(N-1-(A.length+1))+1 by omega,z4o _ D];simp
     clear C;go_wp2_with fail;refine(q9u B _).mono ?_;rintro e X⟨rfl,rfl⟩;rw[D];go_wp2
     go_roundw
     case rel=>exact⟨A++[B.extract 0 i],B.extract (i+1) B.size,rfl,by simp,by simp;omega,by rw[ByteArray.size_extract];omega,by rw[<-Lib.cellsOf_set (by omega)],by rw[List.length_append];exact U.o⟩
     case measure=>simp[intOf];omega
   ·have H:¬(((A.length:Nat):Int)<60):=by omega
    obtain⟨E,G⟩:=C (by rw[show N-1-A.length=0 by omega];rfl);have K:Hid ((spK (N-1) s).length=A.length+1):=E;have L:=(show Hid (_=_)from G);clear E G C;go_wp2;go_ret;rw[K.o,<-L.o];exact⟨by first|rfl|(congr 2<;>omega),rfl⟩
theorem j1r(s:ByteArray)(N:Nat)(w:World)(hs:s.size<=140737488351232)(hN:N=min 61 (s.size+1)):
  Calls prog 153 #[.string s,.string ⟨#[32]⟩,.int .i64 61] w fun e w'=>
   e=.returned (.slice (some ⟨w,0,none⟩) (spK (N-1) s).length N)/\w'=w.alloc (.cells (Lib.cellsOf (spK (N-1) s) N) 9):=by
 have A:Hid (N=min 61 (s.size+1)):=hN;clear hN;go_in;go_wp2_with fail;refine(j0q s N _ hs A.o).mono ?_;rintro e B⟨rfl,rfl⟩;go_wp2;go_ret;exact⟨rfl,rfl⟩
theorem v2s{ws:List ByteArray}{N i:Nat}(h:i<ws.length):(Lib.cellsOf ws N)[i]?=some (.string ws[i]):=by
 unfold Lib.cellsOf;rw[List.getElem?_toArray,List.getElem?_append_left (by rw[List.length_map];exact h),List.getElem?_map,List.getElem?_eq_getElem h];rfl
theorem j3n(w:World)(ws:List ByteArray)(N:Nat):Wds (w.alloc (.cells (Lib.cellsOf ws N) 9)) (some ⟨w,0,none⟩) ws:=by
 intro i A;refine⟨w.heap.size,0,rfl,by rw[World.size_alloc];omega,?_⟩
 have h:(w.alloc (.cells (Lib.cellsOf ws N) 9)).heap[w.heap.size]?=some (.cells (Lib.cellsOf ws N) 9):=by
  show(w.heap.push _)[w.heap.size]?=_
  simp
 simp only[World.cell?,Option.isSome_none,Bool.false_eq_true,if_false,h,Nat.zero_add];exact v2s A
theorem q8j{t:ByteArray}(h0:0<(t.size:Int)):(t.toList==[])=false:=by
 rw[Lib.toList_data]
 have:=(show t.data.toList.length=t.size from q0c t)
 cases h:t.data.toList with
 | nil=>rw[h]at this;simp at this;omega
 | cons a b=>rfl
theorem q5s{t:ByteArray}(h0:¬0<(t.size:Int)):t=⟨#[]⟩:=by
 obtain⟨d⟩:=t
 have A:d.size=0:=by
  have:(d.size:Int)=((⟨d⟩:ByteArray).size:Int):=rfl
  omega
 rw[Array.eq_empty_of_size_eq_zero A]
theorem j1v(s:ByteArray)(w:World)(hs:s.size<=140737488351232):Calls prog 98 #[.string s] w fun e w'=>∃(A:Option Addr)(ws:List ByteArray)(c:Nat),e=.returned (.slice A ws.length c)/\Wds w' A ws/\q0s ws=q1x s/\Below w w w':=by
 by_cases B:0<(s.size:Int)
 ·have E:=q8j B;have C:Hid (q0s (spK (min 61 (s.size+1)-1) s)=q1x s):=v4r (by omega) _ (by omega);go_in;go_wp2_with fail;refine(j1r s _ _ hs rfl).mono ?_;rintro e G⟨rfl,rfl⟩;generalize spK (min 61 (s.size+1)-1) s=ws at C⊢;generalize min 61 (s.size+1)=N;go_wp2;go_ret;exact⟨_,ws,N,rfl,j3n w ws N,C.o,Zb.alloc Zl _⟩
 ·have D:Hid (q1x s=0):=j7w (by omega);have e:=q5s B;subst e;clear B;go_in;go_wp2;go_ret;exact⟨none,[],0,rfl,fun i hi=>by simp at hi,by rw[D.o];rfl,Below.refl _ _⟩
def NdV(w:World)(v:Value)(xs:List Nd):Prop:=∃A c,v=.slice A xs.length c/\q2e w A xs/\(A=none->xs.length=0/\c=0)
theorem NdV.W{w w':World}{v:Value}{xs:List Nd}(h:NdV w v xs)(hb:Below w w w'):NdV w' v xs:=by
 obtain⟨A,c,e,B,C⟩:=h;exact⟨A,c,e,B.W hb,C⟩
theorem q5j.val{B:Nat}{w:World}{A:Option Addr}{c:Nat}{xs:List Nd}(h:q5j B (.slice A xs.length c) xs w):NdV w (.slice A xs.length c) xs:=⟨A,c,rfl,h.nods,h.none.2⟩
def NdR(w:World)(xs:List Nd)(e:Ending)(w':World):Prop:=∃A c,e=.returned (.slice A xs.length c)/\q5j w.heap.size (.slice A xs.length c) xs w'/\Below w w w'
theorem NdR.val{w:World}{xs:List Nd}{e:Ending}{w':World}(h:NdR w xs e w'):∃v,e=.returned v/\NdV w' v xs/\Below w w w':=by
 obtain⟨A,c,e,B,C⟩:=h;exact⟨_,e,B.val,C⟩
theorem NdR.from{w w0:World}{xs:List Nd}{e:Ending}{w':World}(h:NdR w xs e w')(hb:Below w0 w0 w):NdR w0 xs e w':=by
 obtain⟨A,c,e,B,C⟩:=h;exact⟨A,c,e,B.down hb.size,q0d hb Zl C⟩
theorem q1f(s:ByteArray)(w:World):Calls prog 57 #[.string s] w fun e w'=>NdR w [⟨1,s,0⟩] e w':=by
 have B:=hid (q5j.one w ⟨1,s,0⟩);have A:Hid (∀O:Obj,Below w w (w.alloc O)):=fun O=>(Below.refl _ w).alloc Zl O
 go_in;go_wp2;go_ret;exact⟨_,1,rfl,B.o,A.o _⟩
theorem q2w(x:Nd){xs:List Nd}{v:Value}(w:World)(hx:NdV w v xs)(hl:xs.length<=100000):Calls prog 60 #[.agg #[.int .i64 x.op,.string x.tx,.int .i64 x.n],v] w fun e w'=>NdR w (x::xs) e w':=by
 obtain⟨A,c,rfl,U,E⟩:=hx;obtain⟨C,D,B⟩:=x;have X:Hid (q2e w A xs):=U;have I:Hid (A=none->xs.length=0/\c=0):=E;clear U E;generalize V:xs.length=n at hl I⊢;have H:Hid (xs.length=n):=V;clear V
 have R:Hid (q5j w.heap.size (.slice (some ⟨w.heap.size+1,0,none⟩) 1 1) [⟨C,D,B⟩] ((w.alloc (.cells #[.int .i64 C,.string D,.int .i64 B] 107)).alloc (.cells #[.int .i64 C,.string D,.int .i64 B] 107))):=by
  have h:=(q5j.one (w.alloc (.cells #[.int .i64 C,.string D,.int .i64 B] 107)) ⟨C,D,B⟩).down (B':=w.heap.size) (by rw[World.size_alloc];omega);rw[World.size_alloc]at h;exact h
 have G:Hid (Below w w ((w.alloc (.cells #[.int .i64 C,.string D,.int .i64 B] 107)).alloc (.cells #[.int .i64 C,.string D,.int .i64 B] 107))):=((Below.refl _ w).alloc Zl _).alloc (by rw[World.size_alloc];omega) _;have N:Hid (q2e ((w.alloc (.cells #[.int .i64 C,.string D,.int .i64 B] 107)).alloc (.cells #[.int .i64 C,.string D,.int .i64 B] 107)) A xs):=X.o.W G.o;simp only;go_in;go_wp2_with(at_builtin;refine z7q rfl _ _ rfl w.heap.size _ [⟨C,D,B⟩] rfl R.o A n xs H.o c rfl N.o I.o (1+n) rfl (by omega) (by simp only[World.size_alloc];omega) ?_);intro Q S P J L;have K:Below w w P:=G.o.grown L (by simp only[World.size_alloc];omega) (fun k hk=>(World.ownsRow.lt R.o k hk).1);have O:Hid (q5j w.heap.size (.slice Q (1+n) S) (⟨C,D,B⟩::xs) P):=J;have M:Hid (Below w w P):=K;clear J L K;go_wp2;go_ret;have e:(⟨C,D,B⟩::xs:List Nd).length=1+n:=by rw[List.length_cons,H.o];omega
 exact⟨Q,S,by rw[e];rfl,by rw[e];exact O.o,M.o⟩
theorem q0u{xs ys:List Nd}{v u:Value}(w:World)(hx:NdV w v xs)(hy:NdV w u ys)(hl:xs.length+ys.length<=100000):Calls prog 61 #[v,u] w fun e w'=>NdR w (⟨6,⟨#[]⟩,0⟩::(xs++ys)) e w':=by
 obtain⟨A,c,rfl,i,D⟩:=hx;obtain⟨R,f,rfl,h,B⟩:=hy;have q:Hid (q2e w A xs):=i;have p:Hid (q2e w R ys):=h;have K:Hid (A=none->xs.length=0/\c=0):=D;have I:Hid (R=none->ys.length=0/\f=0):=B;clear i D h B;generalize l:xs.length=n at hl K⊢;generalize j:ys.length=m at hl I⊢;have G:Hid (xs.length=n):=l;have H:Hid (ys.length=m):=j;clear l j;have Z:Hid (q5j w.heap.size (.slice (some ⟨w,0,none⟩) 1 1) [⟨6,⟨#[]⟩,0⟩] (w.alloc (.cells #[.int .i64 6,.string ⟨#[]⟩,.int .i64 0] 107))):=q5j.one w ⟨6,⟨#[]⟩,0⟩;have E:Hid (Below w w (w.alloc (.cells #[.int .i64 6,.string ⟨#[]⟩,.int .i64 0] 107))):=(Below.refl _ w).alloc Zl _;have J:Hid (q2e (w.alloc (.cells #[.int .i64 6,.string ⟨#[]⟩,.int .i64 0] 107)) A xs):=q.o.W E.o;go_in;go_wp2_with(at_builtin;refine z7q rfl _ _ rfl w.heap.size _ [⟨6,⟨#[]⟩,0⟩] rfl Z.o A n xs G.o c rfl J.o K.o (1+n) rfl (by omega) (by simp only[World.size_alloc];omega) ?_);intro o r S M P;have C:Below w w S:=E.o.grown P (by simp only[World.size_alloc];omega) (fun k hk=>(World.ownsRow.lt Z.o k hk).1);have L:Hid (q5j w.heap.size (.slice o (1+n) r) (⟨6,⟨#[]⟩,0⟩::xs) S):=M;have U:Hid (Below w w S):=C;have Y:Hid (q2e S R ys):=p.o.W C;have s:=C.size
 have X:Hid ((⟨6,⟨#[]⟩,0⟩::xs:List Nd).length+m=1+n+m):=by
  show _=_;rw[List.length_cons,G.o];omega
 clear M P C Z E J;go_wp2_with(at_builtin;refine z7q rfl _ _ rfl w.heap.size _ (⟨6,⟨#[]⟩,0⟩::xs) rfl L.o R m ys H.o f rfl Y.o I.o (1+n+m) X.o (by omega) (by omega) ?_);intro d g b N Q;have O:Below w w b:=U.o.grown Q (by omega) (fun k hk=>(World.ownsRow.lt L.o k hk).1);have a:Hid (q5j w.heap.size (.slice d (1+n+m) g) (⟨6,⟨#[]⟩,0⟩::(xs++ys)) b):=N;have V:Hid (Below w w b):=O;clear N Q O;go_wp2;go_ret;have e:(⟨6,⟨#[]⟩,0⟩::(xs++ys):List Nd).length=1+n+m:=by rw[List.length_cons,List.length_append,G.o,H.o];omega
 exact⟨d,g,by rw[e];rfl,by rw[e];exact a.o,V.o⟩
theorem y2u(tx:ByteArray)(n:Int)(A C:List Nd)(tA tC:List UInt8)(kA kC:Bool)(hA:k0i A tA kA)(hC:k0i C tC kC):k0i (⟨9,tx,n⟩::(A++C)) (tA) (kA):=by
 intro B b s ds H a u l k w hd X S U hc hW M hl;generalize Y:(A++C)++H=r;have j:Hid ((A++C)++H=r):=Y;have o:Hid (r.length=((A++C):List Nd).length+H.length):=(show _=_ by rw[<-Y,List.length_append]);obtain rfl:ds=⟨9,tx,n⟩::r:=by rw[hd,<-Y];rfl
 clear hd Y;obtain⟨o0,ea,c1,c2,c3⟩:=X 0 (by simp);subst ea;simp only[List.length_cons]at hc hl⊢;have i:Hid (q0z s w (some ⟨s,o0+3,none⟩) r):=X.rest
 have J:Hid (u=1->q0z s w (some ⟨s,o0,none⟩) r):=fun h=>by
  have h1:=X.slid hc;rw[if_pos h]at h1;exact h1
 have HW:Hid (Ln B b l k w):=hW;simp only[Nat.zero_mul,Nat.add_zero,List.getElem_cons_zero]at c1 c2 c3;have Ae:s<w.heap.size:=by omega
 have Ag:(1:Int)<=(r.length:Int)+1:=by omega
 have W:Hid (∀O:Obj,q0p B b w (w.alloc O).drew):=fun O=>q0p.drew ((q0p.refl B b w).alloc M O)
 have HK:Hid (∀O:Obj,Lib.OthersKept 5 (some b) w (w.alloc O).drew):=fun O=>((Lib.OthersKept.refl _ _ w).alloc O).drew
 have D:Hid (s<B/\s≠b):=⟨S,U⟩;clear X hW S U;go_in
 go_upto_region 1 with fail
 go_cut [0,1,5,6] (fun t _ p q wx=>k4a B b s w.heap.size ⟨9,tx,n⟩ r l k w t p q wx)
 case first=>
  go_region
  all_goals (go_wp2_with fail)
  all_goals
   go_meet
   refine⟨rfl,rfl,⟨_,_,rfl,?_,by omega⟩,by simp[go_sem],by simp[go_sem],by simp[go_sem],IsX.drew (IsX.alloc HW.o _),W.o _,HK.o _⟩
   first
    | exact i.o.kept ((W.o _).block s D.o.1 D.o.2)
    | exact(J.o (by assumption)).kept ((W.o _).block s D.o.1 D.o.2)
    | exact(J.o rfl).kept ((W.o _).block s D.o.1 D.o.2)
 case rest=>
  obtain⟨rfl,rfl,⟨a',Aa,rfl,hn,v⟩,e1,e2,e3,hw,E,R⟩:=hcut;dsimp only at e1 e2 e3;have g:Hid (q0z s wc a' r):=hn;have K:Hid (Ln B b l k wc):=hw;have I:Hid (q0p B b w wc):=E;have d:Hid (Lib.OthersKept 5 (some b) w wc):=R;have L:B<=wc.heap.size:=Nat.le_trans M E.size;clear hn hw E R;rw[List.append_assoc]at j;generalize G:C++H=rc at j;have m:Hid (C++H=rc):=G;have f:Hid (rc.length=C.length+H.length):=(show _=_ by rw[<-G,List.length_append]);have Z:Hid ((A++C).length=A.length+C.length):=(show _=_ from List.length_append);clear G;have HA:Hid (k0i A tA kA):=hA;have HC:Hid (k0i C tC kC):=hC;clear hA hC;go_wp2_with fail;refine(HA.o B b s r rc _ _ l k _ j.o.symm (g.o.kept (Below.heap_alloc _ _ _ (by have:=D.o;omega))) D.o.1 D.o.2 v (IsX.alloc K.o _) (by simp;omega) (by omega)).mono ?_;rintro e w3⟨⟨a3,Ab,rfl,n3,x⟩,h3,N,Q⟩;have Af:b<wc.heap.size:=IsX.lt K.o;have hx:=Q wc.heap.size _ (heap_alloc_new wc _) (by simp;omega) (by intro c fz h;cases h);have V:=N.size;have Ad:wc.heap.size+1<=w3.heap.size:=by simpa using V
  have HX:Hid (w3.heap[wc.heap.size]?=_):=hx;clear V hx;go_wp2_with fail;refine(HC.o w3.heap.size wc.heap.size s rc H _ _ [] false _ m.o.symm n3 (by have:=D.o;omega) (by have:=D.o;omega) x (IsX.unused _ _ _ _ _ HX.o) Zl (by have q1:=o.o;have q2:=f.o;have q3:=Z.o;simp;omega)).mono ?_;rintro e w4⟨⟨a4,Ac,rfl,n4,y⟩,h4,P,z⟩;go_wp2;go_ret;refine⟨⟨_,_,rfl,n4,y⟩,IsX.far h3 P (by omega) HX.o (by decide),(I.o.trans (((q0p.refl _ _ _).alloc L _).trans N)).trans (P.weak (by omega) L),?_⟩;exact v3v (d.o.trans (((Lib.OthersKept.refl _ _ _).alloc _).trans Q)) z I.o.size
def OAt(T:TypeId)(B b:Nat)(pre:List Value)(p:Value)(bs R:List Value)(w:World):Prop:=
 ∃v,w.heap[b]?=some (.cells (pre++p::v::R).toArray T (0,0))/\w.ownsRowF B 5 1 v bs.length bs/\v.ownBlock≠some b/\(bs=[]->v=.slice none 0 0)
def IsO(T:TypeId)(B b:Nat)(pre bs R:List Value)(w:World):Prop:=
 OAt T B b pre (.pointer none) bs R w\/OAt T B b pre (.pointer (some ⟨b,pre.length,none⟩)) bs R w
section
variable {T:TypeId} {B b:Nat} {p v:Value} {pre bs R:List Value} {w:World}
theorem v4v(hb:w.heap[b]?=some (.cells (pre++p::v::R).toArray T (0,0)))(i:Nat):w.cell? ⟨b,i,none⟩=(pre++p::v::R)[i]?:=by
 simp[World.cell?,hb]
theorem j8e(hb:w.heap[b]?=some (.cells (pre++p::v::R).toArray T (0,0))):w.cell? ⟨b,pre.length,none⟩=some p:=by
 rw[v4v hb,List.getElem?_append_right Zl,Nat.sub_self];rfl
theorem k8p(hb:w.heap[b]?=some (.cells (pre++p::v::R).toArray T (0,0))):w.cell? ⟨b,pre.length+1,none⟩=some v:=by
 rw[v4v hb,List.getElem?_append_right (Nat.le_add_right _ _),Nat.add_sub_cancel_left];rfl
theorem olt(hb:w.heap[b]?=some (.cells (pre++p::v::R).toArray T (0,0))):b<w.heap.size:=by
 rcases Nat.lt_or_ge b w.heap.size with A|A
 ·exact A
 ·simp[Array.getElem?_eq_none A]at hb
theorem OAt.cell0(h:OAt T B b pre p bs R w):w.cell? ⟨b,pre.length,none⟩=some p:=by
 obtain⟨v,A,_⟩:=h;exact j8e A
theorem OAt.cellP(h:OAt T B b pre p bs R w)(i:Nat)(hi:i<pre.length):w.cell? ⟨b,i,none⟩=pre[i]?:=by
 obtain⟨v,A,_⟩:=h;rw[v4v A,List.getElem?_append_left hi]
theorem OAt.cellR(h:OAt T B b pre p bs R w)(i:Nat):w.cell? ⟨b,pre.length+(i+2),none⟩=R[i]?:=by
 obtain⟨v,A,_⟩:=h;rw[v4v A,List.getElem?_append_right (Nat.le_add_right _ _),Nat.add_sub_cancel_left];rfl
theorem OAt.shape(h:OAt T B b pre p bs R w):w.shape? b=some (T,pre.length+(R.length+2)):=by
 obtain⟨v,A,_⟩:=h;simp[World.shape?,A]
theorem OAt.lt(h:OAt T B b pre p bs R w):b<w.heap.size:=by
 obtain⟨v,A,_⟩:=h;exact olt A
theorem g0w(hb:w.heap[b]?=some (.cells (pre++p::v::R).toArray T (0,0)))(i:Nat)(q:Value):(w.setCell ⟨b,i,none⟩ q).heap[b]?=some (.cells ((pre++p::v::R).set i q).toArray T (0,0)):=by
 simp[World.setCell,Array.getElem?_modify,hb]
theorem OAt.used(h:OAt T B b pre p bs R w)(q:Value):OAt T B b pre q bs R (w.setCell ⟨b,pre.length,none⟩ q):=by
 obtain⟨v,E,C,A,D⟩:=h;refine⟨v,?_,?_,A,D⟩
 ·rw[g0w E,List.set_append_right _ _ Zl,Nat.sub_self];rfl
 ·exact C.kept (row:=some b) ⟨rfl,rfl,rfl,by simp[World.setCell],fun k _ hk=>Below.heap_setCell _ _ _ _ (fun e=>hk (by simp[e]))⟩ (Or.inr A)
theorem OAt.stored(h:OAt T B b pre p bs R w)(i:Nat)(q:Value):OAt T B b pre p bs (R.set i q) (w.setCell ⟨b,pre.length+(i+2),none⟩ q):=by
 obtain⟨v,E,C,A,D⟩:=h;refine⟨v,?_,?_,A,D⟩
 ·rw[g0w E,List.set_append_right _ _ (Nat.le_add_right _ _),Nat.add_sub_cancel_left];rfl
 ·exact C.kept (row:=some b) ⟨rfl,rfl,rfl,by simp[World.setCell],fun k _ hk=>Below.heap_setCell _ _ _ _ (fun e=>hk (by simp[e]))⟩ (Or.inr A)
theorem OAt.frozen(h:OAt T B b pre p bs R w)(i:Nat):w.frozen? ⟨b,i,none⟩=false:=by
 obtain⟨v,A,_⟩:=h;simp[World.frozen?,A]
theorem OAt.put{v':Value}{bs':List Value}(hb:w.heap[b]?=some (.cells (pre++p::v::R).toArray T (0,0)))(A:w.ownsRowF B 5 1 v' bs'.length bs')(D:T≠5)(h0:bs'=[]->v'=.slice none 0 0):
  OAt T B b pre p bs' R (w.setCell ⟨b,pre.length+1,none⟩ v'):=by
 have C:=Lib.ownBlock_neF A hb D;refine⟨v',?_,?_,C,h0⟩
 ·rw[g0w hb,List.set_append_right _ _ (Nat.le_add_right _ _),Nat.add_sub_cancel_left];rfl
 ·exact A.kept (row:=some b) ⟨rfl,rfl,rfl,by simp[World.setCell],fun k _ hk=>Below.heap_setCell _ _ _ _ (fun e=>hk (by simp[e]))⟩ (Or.inr C)
theorem OAt.alloc(h:OAt T B b pre p bs R w)(o:Obj):OAt T B b pre p bs R (w.alloc o):=by
 have C:=h.lt;obtain⟨v,G,A,D,E⟩:=h;exact⟨v,(Lib.alloc_old w o b C).trans G,A.kept (World.grownBy_alloc w o none) (by cases H:v.ownBlock<;>simp),D,E⟩
theorem OAt.W{w':World}(h:OAt T B b pre p bs R w)(hx:Below w w w'):OAt T B b pre p bs R w':=by
 have C:=h.lt;obtain⟨v,G,A,D,E⟩:=h;exact⟨v,(hx.block b C).trans G,A.kept (row:=none) ⟨hx.os,hx.tape,hx.output,hx.size,fun k hk _=>hx.block k hk⟩ (by cases H:v.ownBlock<;>simp),D,E⟩
theorem IsO.at(h:IsO T B b pre bs R w):∃p,OAt T B b pre p bs R w:=by
 rcases h with h|h
 ·exact⟨_,h⟩
 ·exact⟨_,h⟩
theorem IsO.lt(h:IsO T B b pre bs R w):b<w.heap.size:=h.at.elim fun _ h=>h.lt
theorem IsO.cellP(h:IsO T B b pre bs R w)(i:Nat)(hi:i<pre.length):w.cell? ⟨b,i,none⟩=pre[i]?:=h.at.elim fun _ h=>h.cellP i hi
theorem IsO.cellR(h:IsO T B b pre bs R w)(i:Nat):w.cell? ⟨b,pre.length+(i+2),none⟩=R[i]?:=h.at.elim fun _ h=>h.cellR i
theorem IsO.frozen(h:IsO T B b pre bs R w)(i:Nat):w.frozen? ⟨b,i,none⟩=false:=h.at.elim fun _ h=>h.frozen i
theorem IsO.alloc(h:IsO T B b pre bs R w)(o:Obj):IsO T B b pre bs R (w.alloc o):=h.imp (·.alloc o) (·.alloc o)
theorem IsO.W{w':World}(h:IsO T B b pre bs R w)(hx:Below w w w'):IsO T B b pre bs R w':=h.imp (·.W hx) (·.W hx)
theorem IsO.stored(h:IsO T B b pre bs R w)(i:Nat)(q:Value):IsO T B b pre bs (R.set i q) (w.setCell ⟨b,pre.length+(i+2),none⟩ q):=h.imp (·.stored i q) (·.stored i q)
theorem IsO.drew(h:IsO T B b pre bs R w):IsO T B b pre bs R w.drew:=h
theorem IsO.unused(T:TypeId)(B b:Nat)(w:World)(pre R:List Value)(h:w.heap[b]?=some (.cells (pre++.pointer none::.slice none 0 0::R).toArray T (0,0))):IsO T B b pre [] R w:=
 Or.inl ⟨.slice none 0 0,h,World.ownsRowF_nil _ _ _ _,by simp[Value.ownBlock],fun _=>rfl⟩
end
theorem k6d(b o:Nat)(w:World)(h0:w.cell? ⟨b,o,none⟩=some (.pointer (some ⟨b,o,none⟩))):
  Calls prog 75 #[.pointer (some ⟨b,o,none⟩)] w fun e w'=>e=.returned (.tuple #[])/\w'=w:=by
 obtain⟨j,A,_⟩:=Option.map_eq_some_iff.1 v6v;go_in;go_wp2;rw[Lib.run_neq_ptr_same w _ Tryz.underlying78 A];go_wp2
 go_end0
 exact⟨rfl,rfl⟩
theorem k2s(T n b o:Nat)(w:World)(hl:liesAt prog prog.depth T (n / prog.cellsOf T) o 81 1=true)(h0:w.cell? ⟨b,o,none⟩=some (.pointer none))(B:w.shape? b=some (T,n))(hn:o<n)(H:w.frozen? ⟨b,o,none⟩=false):
  Calls prog 75 #[.pointer (some ⟨b,o,none⟩)] w fun e w'=>e=.returned (.tuple #[])/\w'=w.setCell ⟨b,o,none⟩ (.pointer (some ⟨b,o,none⟩)):=by
 obtain⟨j,D,A⟩:=Option.map_eq_some_iff.1 v6v;have G:Hid (liesAt prog prog.depth T (n / prog.cellsOf T) o 81 1=true):=hl;have C:Hid (w.shape? b=some (T,n)):=B;have E:Hid (j.size≠0):=(show j.size≠0 by rw[A];decide);clear hl B A;go_in;go_wp2;rw[Lib.run_to_unsafe w ⟨b,o,none⟩ Tryz.underlying78 Tryz.underlying178 D E.o C.o hn];simp only[Result.andThen];rw[Oper.upon_value];go_wp2;rw[run_callFunc_extern func117 (by kernel_rfl) (by kernel_rfl) (by kernel_rfl) (e:=Extern.AbiNoEscape.same) (by kernel_rfl)];rw[Lib.run_noEscape];simp only[Result.andThen];rw[Oper.upon_value];go_wp2;rw[Lib.run_from_unsafe w ⟨b,o,none⟩ Tryz.underlying178 Tryz.underlying78 D C.o G.o];simp only[Result.andThen];rw[Oper.upon_value];go_wp2
 go_end0
 exact⟨rfl,rfl⟩
def j2i(T n o:Nat):Prop:=liesAt prog prog.depth T (n / prog.cellsOf T) o 81 1=true
theorem j1c(T B b o:Nat)(A bs R:List Value)(w:World)(ho:A.length=o)(hl:j2i T (o+(R.length+2)) o)(h:IsO T B b A bs R w):
  Calls prog 75 #[.pointer (some ⟨b,o,none⟩)] w fun e w'=>e=.returned (.tuple #[])/\(OAt T B b A (.pointer (some ⟨b,A.length,none⟩)) bs R w'/\q0p B b w w'/\Lib.OthersKept 5 (some b) w w'):=by
 subst ho;rcases h with h|h
 ·refine(k2s T (A.length+(R.length+2)) b A.length w hl h.cell0 h.shape (by omega) (h.frozen _)).mono ?_;rintro e w'⟨rfl,rfl⟩;exact⟨rfl,h.used _,(q0p.refl B b w).setCell (p:=⟨b,A.length,none⟩) (.inl rfl) _,(Lib.OthersKept.refl _ _ w).setCell ⟨b,A.length,none⟩ rfl _⟩
 ·refine(k6d b A.length w h.cell0).mono ?_;rintro e w'⟨rfl,rfl⟩;exact⟨rfl,h,q0p.refl B b _,Lib.OthersKept.refl _ _ _⟩
theorem k6h(T B b o:Nat)(A bs R:List Value)(s:ByteArray)(w:World)(ho:A.length=o)(hl:j2i T (o+(R.length+2)) o)(hT:T≠5)(h:IsO T B b A bs R w)(f:bs.length+s.size<=140737488355328)(u:B<=w.heap.size):
  Calls prog 38 #[.pointer (some ⟨b,o,none⟩),.string s] w fun e w'=>e=.returned (.tuple #[.int .i64 s.size,.nilIface])/\(IsO T B b A (bs++Lib.strCells s) R w'/\q0p B b w w'/\Lib.OthersKept 5 (some b) w w'):=by
 obtain⟨y,x,Y,Z,a⟩:=info_parts v6r;have m:Hid (j2i T (o+(R.length+2)) o):=hl;have n:Hid (T≠5):=hT;have M:Hid (A.length=o):=ho;have H:Hid (IsO T B b A bs R w):=h;clear hl hT h ho;go_in;go_wp2_with(go_at_call 75;refine(j1c T B b o A bs R _ M.o m.o H.o).mono ?_);rintro e P⟨rfl,S,L,U⟩;obtain⟨v,I,E,W,d⟩:=S;have l:Hid (bs=[]->v=.slice none 0 0):=d;have N:Hid (P.heap[b]?=some (.cells (A++.pointer (some ⟨b,A.length,none⟩)::v::R).toArray T (0,0))):=I;clear d;have z:P.cell? ⟨b,o,none⟩=some (.pointer (some ⟨b,o,none⟩)):=by have:=j8e I;rw[M.o]at this;exact this
 have c1:P.cell? ⟨b,o+1,none⟩=some v:=by have:=k8p I;rw[M.o]at this;exact this
 clear I;go_wp2_with(at_builtin;refine Lib.wpList_append_own_stringF _ rfl _ _ 79 9 rfl B 5 y Tryz.underlying79 Tryz.underlying9 x Y Z a _ _ _ rfl E s rfl ?c3 ?c4 ?c5 ?_)
 case c3=>unfold maxLen;omega
 case c4=>omega
 case c5=>have:=L.size;omega
 intro j O G C J;have q:Hid (j=.slice none 0 0↔v=.slice none 0 0/\s.size=0):=(show _↔_ by simpa using J);clear J;have V:b<P.heap.size:=olt N.o
 have D:O.heap[b]?=some (.cells (A++.pointer (some ⟨b,A.length,none⟩)::v::R).toArray T (0,0)):=by
  rw[C.block b V (fun e=>W e.symm)];exact N.o
 have Q:Hid (O.heap[b]?=some (.cells (A++.pointer (some ⟨b,A.length,none⟩)::v::R).toArray T (0,0))):=D;have d0:O.cell? ⟨b,o,none⟩=some (.pointer (some ⟨b,o,none⟩)):=by have:=j8e D;rw[M.o]at this;exact this
 have d1:O.cell? ⟨b,o+1,none⟩=some v:=by have:=k8p D;rw[M.o]at this;exact this
 have f1:O.frozen? ⟨b,o+1,none⟩=false:=Lib.frozen_of_heap D (o+1);clear D
 obtain⟨c,i,K,rfl⟩:∃c i K,j=.slice c i K:=by
  rcases G.2 with⟨X,_⟩|⟨g,K,r,fz,X,_⟩
  ·exact⟨_,_,_,X⟩
  ·exact⟨_,_,_,X⟩
 go_wp2;go_ret2;refine⟨rfl,.inr ?_,?_,(U.grown C (Lib.ownsRowF_kind E)).setCell ⟨b,o+1,none⟩ rfl _⟩
 ·rw[<-M.o];refine OAt.put Q.o (bs':=bs++Lib.strCells s) (by simpa[Lib.strCells_length]using G) n.o (fun h=>?_);obtain⟨S,t⟩:=List.append_eq_nil_iff.1 h;refine q.o.2 ⟨l.o S,?_⟩;rw[<-Lib.strCells_length,t];rfl
 ·exact(L.grown C (by have:=L.size;omega) (fun k hk=>(E.lt k hk).1)).setCell (p:=⟨b,o+1,none⟩) (.inl rfl) _
theorem j8k(T B b o:Nat)(E:List Value)(l:List UInt8)(R:List Value)(w:World)(ho:E.length=o)(h:IsO T B b E (Lib.byteCells l) R w)(h0:l≠[]):
  Calls prog 39 #[.pointer (some ⟨b,o,none⟩)] w fun e w'=>e=.returned (.string ⟨l.toArray⟩)/\Below B w w':=by
 obtain⟨p,I⟩:=h.at;obtain⟨v,H,D,W,_⟩:=I;have M:l.length≠0:=by simpa using h0
 rw[Lib.byteCells_length]at D
 obtain⟨g,A,C,G,rfl,J,U,S,V,K,Q,N⟩:∃g A C G,v=.slice (some ⟨g,0,none⟩) l.length A/\B<=g/\w.heap[g]?=some (.cells C 5 G)/\G.2<=l.length*1/\l.length<=A/\A<=maxLen/\C.size=A*1/\C.toList.take (l.length*1)=Lib.byteCells l:=by
  rcases D.2 with⟨_,Z⟩|⟨g,A,C,G,X,r⟩
  ·exact absurd Z M
  ·exact⟨g,A,C,G,X,r⟩
 have a:w.drew.cell? ⟨b,o+1,none⟩=some (.slice (some ⟨g,0,none⟩) l.length A):=by
  have:w.drew.heap[b]?=some (.cells (E++p::.slice (some ⟨g,0,none⟩) l.length A::R).toArray T (0,0)):=H
  have:=k8p this
  rw[ho]at this;exact this
 have O:(Builtin.unsafeSliceData_ #[79] 130 #[.slice (some ⟨g,0,none⟩) l.length A]).run prog w.drew=.ok (.pointer (some ⟨g,0,none⟩)) w.drew:=
  Lib.run_unsafeSliceData_row _ _ _ _ _ _ (by omega)
 have P:(Builtin.unsafeString_ #[130,3] 9 #[.pointer (some ⟨g,0,none⟩),.int .i64 l.length]).run prog w.drew=.ok (.string ⟨l.toArray⟩) (w.drew.freeze ⟨g,0,none⟩ l.length):=by
  refine Lib.run_unsafeString_row w.drew 130 3 9 5 Tryz.underlying130 v9o g C.size (by have L:w.drew.heap[g]?=some (.cells C 5 G):=U;simp[World.shape?,L]) l h0 (by omega) (by unfold maxLen at K;omega) ?_;intro j x Y
  have:=D.cells (g:=g) rfl j (.int .u8 x.toNat) (by simp[Lib.byteCells,Y])
  exact this
 clear H;go_in;go_wp2
 go_region
 all_goals (go_wp2;go_ret;exact⟨rfl,Lib.below_freeze (Below.drew (Below.refl B w)) (p:=⟨g,0,none⟩) J _⟩)
theorem j8j(T B b o:Nat)(A R:List Value)(w:World)(ho:A.length=o)(h:IsO T B b A [] R w):
  Calls prog 39 #[.pointer (some ⟨b,o,none⟩)] w fun e w'=>e=.returned (.string ⟨#[]⟩)/\Below B w w':=by
 obtain⟨p,E⟩:=h.at;obtain⟨v,C,D,G,H⟩:=E;obtain rfl:=H rfl;clear D G H;have J:∀(W:World)(q:Option Addr),(Builtin.unsafeString_ #[130,3] 9 #[.pointer q,.int .i64 0]).run prog W=.ok (.string .empty) W:=fun W q=>Lib.run_unsafeString_none W _ _ _ q
 have K:w.drew.cell? ⟨b,o+1,none⟩=some (.slice none 0 0):=by
  have:w.drew.heap[b]?=some (.cells (A++p::.slice none 0 0::R).toArray T (0,0)):=C
  have:=k8p this
  rw[ho]at this;exact this
 have I:(Builtin.unsafeSliceData_ #[79] 130 #[.slice none 0 0]).run prog w.drew=.ok (.pointer none) w.drew:=rfl;clear C;go_in;go_wp2
 go_region
 all_goals (go_wp2;go_ret;exact⟨rfl,Below.drew (Below.refl B w)⟩)
theorem v4y(T B b o:Nat)(A:List Value)(l:List UInt8)(R:List Value)(w:World)(ho:A.length=o)(h:IsO T B b A (Lib.byteCells l) R w):
  Calls prog 39 #[.pointer (some ⟨b,o,none⟩)] w fun e w'=>e=.returned (.string ⟨l.toArray⟩)/\Below B w w':=by
 by_cases C:l=[]
 ·subst C;exact j8j T B b o A R w ho h
 ·exact j8k T B b o A l R w ho h C
end Go.Proofs.YtfdppahhbpfnoaaGreatDoor
