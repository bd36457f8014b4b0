import Derived.Test.YtfdppahhbpfnoaaGreatDoorPi20
import Derived.Lib.Atoi
import Derived.Lib.AtoiErrMem
open Go.Proofs.Tryz
namespace Go.Proofs.YtfdppahhbpfnoaaGreatDoor
open Go Go.RowKit
set_option maxRecDepth 100000
set_option maxHeartbeats 4000000
theorem y0s(tx:ByteArray)(n:Int)(ht:tx.size<=20):z9t (⟨1,tx,n⟩::[]) (tx.data.toList) (false):=by
 intro B b s ds N a V l k w g L I J f d E hl;generalize M:[]++N=r;have u:Hid ([]++N=r):=M;have v:Hid (r.length=([]:List Nd).length+N.length):=(show _=_ by rw[<-M,List.length_append]);obtain rfl:ds=⟨1,tx,n⟩::r:=by rw[g,<-M];rfl
 clear g M;obtain⟨m,ea,c1,c2,c3⟩:=L 0 (by simp);subst ea;simp only[List.length_cons]at f hl⊢;have S:Hid (q1i s w (some ⟨s,m+3,none⟩) r):=L.rest
 have D:Hid (V=1->q1i s w (some ⟨s,m,none⟩) r):=fun h=>by
  have c:=L.slid f;rw[if_pos h]at c;exact c
 have x:Hid (Ln B b l k w):=d;simp only[Nat.zero_mul,Nat.add_zero,List.getElem_cons_zero]at c1 c2 c3;have Aa:s<w.heap.size:=by omega
 have Ab:(1:Int)<=(r.length:Int)+1:=by omega
 have K:Hid (∀O:Obj,q0v B b w (w.alloc O).drew):=fun O=>q0v.drew ((q0v.refl B b w).alloc E O)
 have o:Hid (∀O:Obj,Lib.OthersKept 5 (some b) w (w.alloc O).drew):=fun O=>((Lib.OthersKept.refl _ _ w).alloc O).drew
 have A:Hid (s<B/\s≠b):=⟨I,J⟩;clear L d I J;go_in
 go_upto_region 1 with fail
 go_cut [0,1,5,6] (fun t _ p q wx=>k2x B b s w.heap.size ⟨1,tx,n⟩ r l k w t p q wx)
 case first=>
  go_region
  all_goals (go_wp2_with fail)
  all_goals
   go_meet
   refine⟨rfl,rfl,⟨_,_,rfl,?_,by omega⟩,by simp[go_sem],by simp[go_sem],by simp[go_sem],IsX.drew (IsX.alloc x.o _),K.o _,o.o _⟩
   first
    | exact S.o.kept ((K.o _).block s A.o.1 A.o.2)
    | exact(D.o (by assumption)).kept ((K.o _).block s A.o.1 A.o.2)
    | exact(D.o rfl).kept ((K.o _).block s A.o.1 A.o.2)
 case rest=>
  obtain⟨rfl,rfl,⟨y,Z,rfl,i,X⟩,e1,e2,e3,j,C,H⟩:=hcut;dsimp only at e1 e2 e3;have R:Hid (q1i s wc y r):=i;have U:Hid (Ln B b l k wc):=j;have P:Hid (q0v B b w wc):=C;have Q:Hid (Lib.OthersKept 5 (some b) w wc):=H;have W:B<=wc.heap.size:=Nat.le_trans E C.size;clear i j C H;go_wp2_with fail
  go_region_with (go_at_call 38;refine(y9c (w:=wc.drew) U.o W tx (by omega)).mono ?_;rintro e w2⟨⟨z,rfl⟩,h2,G,Y⟩)
  all_goals
   go_wp2;go_ret;obtain rfl:N=r:=u.o;rw[Bool.or_false];exact⟨⟨_,_,rfl,q1i.kept (w:=wc.drew) R.o (G.block s A.o.1 A.o.2),X⟩,h2,P.o.drew.trans G,Q.o.drew.trans Y⟩
theorem y0t(tx:ByteArray)(n:Int):z9t (⟨2,tx,n⟩::[]) ([32]) (false):=by
 intro B b s ds N a V l k w g L I J f d E hl;generalize M:[]++N=r;have u:Hid ([]++N=r):=M;have v:Hid (r.length=([]:List Nd).length+N.length):=(show _=_ by rw[<-M,List.length_append]);obtain rfl:ds=⟨2,tx,n⟩::r:=by rw[g,<-M];rfl
 clear g M;obtain⟨m,ea,z,c2,c3⟩:=L 0 (by simp);subst ea;simp only[List.length_cons]at f hl⊢;have S:Hid (q1i s w (some ⟨s,m+3,none⟩) r):=L.rest
 have D:Hid (V=1->q1i s w (some ⟨s,m,none⟩) r):=fun h=>by
  have c:=L.slid f;rw[if_pos h]at c;exact c
 have x:Hid (Ln B b l k w):=d;simp only[Nat.zero_mul,Nat.add_zero,List.getElem_cons_zero]at z c2 c3;have Aa:s<w.heap.size:=by omega
 have Ab:(1:Int)<=(r.length:Int)+1:=by omega
 have K:Hid (∀O:Obj,q0v B b w (w.alloc O).drew):=fun O=>q0v.drew ((q0v.refl B b w).alloc E O)
 have o:Hid (∀O:Obj,Lib.OthersKept 5 (some b) w (w.alloc O).drew):=fun O=>((Lib.OthersKept.refl _ _ w).alloc O).drew
 have A:Hid (s<B/\s≠b):=⟨I,J⟩;clear L d I J;go_in
 go_upto_region 1 with fail
 go_cut [0,1,5,6] (fun t _ p q wx=>k2x B b s w.heap.size ⟨2,tx,n⟩ r l k w t p q wx)
 case first=>
  go_region
  all_goals (go_wp2_with fail)
  all_goals
   go_meet
   refine⟨rfl,rfl,⟨_,_,rfl,?_,by omega⟩,by simp[go_sem],by simp[go_sem],by simp[go_sem],IsX.drew (IsX.alloc x.o _),K.o _,o.o _⟩
   first
    | exact S.o.kept ((K.o _).block s A.o.1 A.o.2)
    | exact(D.o (by assumption)).kept ((K.o _).block s A.o.1 A.o.2)
    | exact(D.o rfl).kept ((K.o _).block s A.o.1 A.o.2)
 case rest=>
  obtain⟨rfl,rfl,⟨y,Z,rfl,i,X⟩,e1,e2,e3,j,C,H⟩:=hcut;dsimp only at e1 e2 e3;have R:Hid (q1i s wc y r):=i;have U:Hid (Ln B b l k wc):=j;have P:Hid (q0v B b w wc):=C;have Q:Hid (Lib.OthersKept 5 (some b) w wc):=H;have W:B<=wc.heap.size:=Nat.le_trans E C.size;clear i j C H;go_wp2_with fail;refine(y7t U.o W 32 32 rfl (by omega)).mono ?_;rintro e w2⟨rfl,h2,G,Y⟩;go_wp2;go_ret;obtain rfl:N=r:=u.o;rw[Bool.or_false];exact⟨⟨_,_,rfl,R.o.kept (G.block s A.o.1 A.o.2),X⟩,h2,P.o.trans G,Q.o.trans Y⟩
theorem j0q(s:ByteArray)(w:World):
  Calls prog 198 #[.string s,.string ⟨#[32]⟩] w fun e w'=>e=.returned (.int .i64 (Lib.indexByte s.data.toList 32))/\w=w':=by
 go_in;go_wp2_with(go_at_call 168;refine(q6y _ _ _).mono ?_;rintro e w'⟨rfl,rfl⟩)
 ·have h:([32]==s.toList)=true:=by assumption
  go_ret;refine⟨?_,rfl⟩;have e:s.data.toList=[32]:=by rw[<-Lib.toList_data];exact(beq_iff_eq.1 h).symm
  rw[e];simp[Lib.indexByte]
 ·go_ret;exact⟨rfl,rfl⟩
theorem z0d(s:ByteArray)(w:World):
  Calls prog 214 #[.string s,.string ⟨#[32]⟩] w fun e w'=>e=.returned (.int .i64 (Lib.indexByte s.data.toList 32))/\w=w':=by
 go_in;go_wp2_with fail;refine(j0q _ _).mono ?_;rintro e A⟨rfl,rfl⟩;go_wp2;go_ret;exact⟨rfl,rfl⟩
theorem k9n(s:ByteArray)(N:Nat)(w:World)(hs:s.size<=140737488351232)(hN:N=min 61 (s.size+1)):
  Calls prog 190 #[.string s,.string ⟨#[32]⟩,.int .i64 0,.int .i64 61] w fun e w'=>
   e=.returned (.slice (some ⟨w,0,none⟩) (spK (N-1) s).length N)/\w'=w.alloc (.cells (Lib.cellsOf (spK (N-1) s) N) 9):=by
 have S:min (61:Int) ((s.size:Int)+1)=(N:Int):=by omega
 have j:(N:Int)<=(s.size:Int)+1:=by omega
 have f:(1:Int)<=(N:Int):=by omega
 have g:N<=61:=by omega
 clear hN;by_cases d:(s.size:Int)+1<61
 ·have Q:((N:Nat):Int)=(s.size:Int)+1:=by omega
  have I:=run_make_row' (P:=prog) 58 9 (.string ByteArray.empty) 16 Tryz.underlying58 z0t rfl .i64 .i64 N (by omega) (by omega);rw[Q]at I;go_in;go_wp2_with fail;clear I S
  go_loopw [0,10] (fun s0 i wr=>∃(A:List ByteArray)(B:ByteArray),s0=.string B/\i=.int .i64 (A.length:Nat)/\A.length<=N-1/\B.size<=s.size/\
    wr=w.alloc (.cells (Lib.cellsOf A N) 9)/\A++spK (N-1-A.length) B=spK (N-1) s) (fun _ i _=>N-1-(intOf i).toNat)
  case atStart=>exact⟨[],s,rfl,rfl,Nat.zero_le _,Nat.le_refl _,by rw[Lib.cellsOf_nil],rfl⟩
  case round=>
   obtain⟨A,B,rfl,rfl,k,W,rfl,J⟩:=hrel;have M:(Lib.cellsOf A N)[A.length]?=some (.string ByteArray.empty):=Lib.cellsOf_next (by omega);have R:Hid (A++spK (N-1-A.length) B=spK (N-1) s):=J;clear J
   have C:spK (N-1-A.length) B=[B]->(spK (N-1) s).length=A.length+1/\(Lib.cellsOf A N).setIfInBounds A.length (.string B)=Lib.cellsOf (spK (N-1) s) N:=fun h=>by
    have e:=R.o;rw[h]at e;rw[<-e];exact⟨by simp,Lib.cellsOf_set (by omega) B⟩
   by_cases V:A.length<N-1
   ·have H:((A.length:Nat):Int)<(s.size:Int):=by omega
    rcases q8f B with D|⟨i,D,O⟩
    ·obtain⟨E,G⟩:=C (z0s _ D);have K:Hid ((spK (N-1) s).length=A.length+1):=E;have L:=(show Hid (_=_)from G);clear E G C;go_wp2_with fail;refine(z0d B _).mono ?_;rintro e X⟨rfl,rfl⟩;rw[D];go_wp2;go_ret;rw[K.o,<-L.o];exact⟨by first|rfl|(congr 2<;>omega),rfl⟩
    ·have Y:¬((i:Int)<0):=by omega
     have Z:(0:Int)<=↑i:=by omega
     have a:(↑i:Int)<=↑B.size:=by omega
     have b:(0:Int)<=↑i+1:=by omega
     have c:(↑i+1:Int)<=↑B.size:=by omega
     have U:Hid (A++[B.extract 0 i]++spK (N-1-(A.length+1)) (B.extract (i+1) B.size)=spK (N-1) s):=by
      show _=_;rw[<-R.o,show N-1-A.length=(N-1-(A.length+1))+1 by omega,z4w _ D];simp
     clear C;go_wp2_with fail;refine(z0d B _).mono ?_;rintro e X⟨rfl,rfl⟩;rw[D];go_wp2
     go_roundw
     case rel=>exact⟨A++[B.extract 0 i],B.extract (i+1) B.size,rfl,by simp,by simp;omega,by rw[ByteArray.size_extract];omega,by rw[<-Lib.cellsOf_set (by omega)],by rw[List.length_append];exact U.o⟩
     case measure=>simp[intOf];omega
   ·have H:¬(((A.length:Nat):Int)<(s.size:Int)):=by omega
    obtain⟨E,G⟩:=C (by rw[show N-1-A.length=0 by omega];rfl);have K:Hid ((spK (N-1) s).length=A.length+1):=E;have L:=(show Hid (_=_)from G);clear E G C;go_wp2;go_ret;rw[K.o,<-L.o];exact⟨by first|rfl|(congr 2<;>omega),rfl⟩
 ·have Q:((N:Nat):Int)=61:=by omega
  have I:=run_make_row' (P:=prog) 58 9 (.string ByteArray.empty) 16 Tryz.underlying58 z0t rfl .i64 .i64 N (by omega) (by omega);rw[Q]at I;go_in;go_wp2_with fail;clear I S
  go_loopw [0,10] (fun s0 i wr=>∃(A:List ByteArray)(B:ByteArray),s0=.string B/\i=.int .i64 (A.length:Nat)/\A.length<=N-1/\B.size<=s.size/\
    wr=w.alloc (.cells (Lib.cellsOf A N) 9)/\A++spK (N-1-A.length) B=spK (N-1) s) (fun _ i _=>N-1-(intOf i).toNat)
  case atStart=>exact⟨[],s,rfl,rfl,Nat.zero_le _,Nat.le_refl _,by rw[Lib.cellsOf_nil],rfl⟩
  case round=>
   obtain⟨A,B,rfl,rfl,k,W,rfl,J⟩:=hrel;have M:(Lib.cellsOf A N)[A.length]?=some (.string ByteArray.empty):=Lib.cellsOf_next (by omega);have R:Hid (A++spK (N-1-A.length) B=spK (N-1) s):=J;clear J
   have C:spK (N-1-A.length) B=[B]->(spK (N-1) s).length=A.length+1/\(Lib.cellsOf A N).setIfInBounds A.length (.string B)=Lib.cellsOf (spK (N-1) s) N:=fun h=>by
    have e:=R.o;rw[h]at e;rw[<-e];exact⟨by simp,Lib.cellsOf_set (by omega) B⟩
   by_cases V:A.length<N-1
   ·have H:((A.length:Nat):Int)<60:=by omega
    rcases q8f B with D|⟨i,D,O⟩
    ·obtain⟨E,G⟩:=C (z0s _ D);have K:Hid ((spK (N-1) s).length=A.length+1):=E;have L:=(show Hid (_=_)from G);clear E G C;go_wp2_with fail;refine(z0d B _).mono ?_;rintro e X⟨rfl,rfl⟩;rw[D];go_wp2;go_ret;rw[K.o,<-L.o];exact⟨by first|rfl|(congr 2<;>omega),rfl⟩
    ·have Y:¬((i:Int)<0):=by omega
     have Z:(0:Int)<=↑i:=by omega
     have a:(↑i:Int)<=↑B.size:=by omega
     have b:(0:Int)<=↑i+1:=by omega
     have c:(↑i+1:Int)<=↑B.size:=by omega
     have U:Hid (A++[B.extract 0 i]++spK (N-1-(A.length+1)) (B.extract (i+1) B.size)=spK (N-1) s):=by
      show _=_;rw[<-R.o,show N-1-A.length=(N-1-(A.length+1))+1 by omega,z4w _ D];simp
     clear C;go_wp2_with fail;refine(z0d B _).mono ?_;rintro e X⟨rfl,rfl⟩;rw[D];go_wp2
     go_roundw
     case rel=>exact⟨A++[B.extract 0 i],B.extract (i+1) B.size,rfl,by simp,by simp;omega,by rw[ByteArray.size_extract];omega,by rw[<-Lib.cellsOf_set (by omega)],by rw[List.length_append];exact U.o⟩
     case measure=>simp[intOf];omega
   ·have H:¬(((A.length:Nat):Int)<60):=by omega
    obtain⟨E,G⟩:=C (by rw[show N-1-A.length=0 by omega];rfl);have K:Hid ((spK (N-1) s).length=A.length+1):=E;have L:=(show Hid (_=_)from G);clear E G C;go_wp2;go_ret;rw[K.o,<-L.o];exact⟨by first|rfl|(congr 2<;>omega),rfl⟩
theorem j0w(s:ByteArray)(N:Nat)(w:World)(hs:s.size<=140737488351232)(hN:N=min 61 (s.size+1)):
  Calls prog 153 #[.string s,.string ⟨#[32]⟩,.int .i64 61] w fun e w'=>
   e=.returned (.slice (some ⟨w,0,none⟩) (spK (N-1) s).length N)/\w'=w.alloc (.cells (Lib.cellsOf (spK (N-1) s) N) 9):=by
 have A:Hid (N=min 61 (s.size+1)):=hN;clear hN;go_in;go_wp2_with fail;refine(k9n s N _ hs A.o).mono ?_;rintro e B⟨rfl,rfl⟩;go_wp2;go_ret;exact⟨rfl,rfl⟩
theorem v1y{ws:List ByteArray}{N i:Nat}(h:i<ws.length):(Lib.cellsOf ws N)[i]?=some (.string ws[i]):=by
 unfold Lib.cellsOf;rw[List.getElem?_toArray,List.getElem?_append_left (by rw[List.length_map];exact h),List.getElem?_map,List.getElem?_eq_getElem h];rfl
theorem j3a(w:World)(ws:List ByteArray)(N:Nat):Wds (w.alloc (.cells (Lib.cellsOf ws N) 9)) (some ⟨w,0,none⟩) ws:=by
 intro i A;refine⟨w.heap.size,0,rfl,by rw[World.size_alloc];omega,?_⟩
 have h:(w.alloc (.cells (Lib.cellsOf ws N) 9)).heap[w.heap.size]?=some (.cells (Lib.cellsOf ws N) 9):=by
  show(w.heap.push _)[w.heap.size]?=_
  simp
 simp only[World.cell?,Option.isSome_none,Bool.false_eq_true,if_false,h,Nat.zero_add];exact v1y A
theorem q8w{t:ByteArray}(h0:0<(t.size:Int)):(t.toList==[])=false:=by
 rw[Lib.toList_data]
 have:=(show t.data.toList.length=t.size from q0c t)
 cases h:t.data.toList with
 | nil=>rw[h]at this;simp at this;omega
 | cons a b=>rfl
theorem q6k{t:ByteArray}(h0:¬0<(t.size:Int)):t=⟨#[]⟩:=by
 obtain⟨d⟩:=t
 have A:d.size=0:=by
  have:(d.size:Int)=((⟨d⟩:ByteArray).size:Int):=rfl
  omega
 rw[Array.eq_empty_of_size_eq_zero A]
theorem j0z(s:ByteArray)(w:World)(hs:s.size<=140737488351232):Calls prog 98 #[.string s] w fun e w'=>∃(A:Option Addr)(ws:List ByteArray)(c:Nat),e=.returned (.slice A ws.length c)/\Wds w' A ws/\q1b ws=q2x s/\Below w w w':=by
 by_cases B:0<(s.size:Int)
 ·have E:=q8w B;have C:Hid (q1b (spK (min 61 (s.size+1)-1) s)=q2x s):=v3z (by omega) _ (by omega);go_in;go_wp2_with fail;refine(j0w s _ _ hs rfl).mono ?_;rintro e G⟨rfl,rfl⟩;generalize spK (min 61 (s.size+1)-1) s=ws at C⊢;generalize min 61 (s.size+1)=N;go_wp2;go_ret;exact⟨_,ws,N,rfl,j3a w ws N,C.o,Zb.alloc Zl _⟩
 ·have D:Hid (q2x s=0):=j7s (by omega);have e:=q6k B;subst e;clear B;go_in;go_wp2;go_ret;exact⟨none,[],0,rfl,fun i hi=>by simp at hi,by rw[D.o];rfl,Below.refl _ _⟩
def NdV(w:World)(v:Value)(xs:List Nd):Prop:=∃A c,v=.slice A xs.length c/\q1p w A xs/\(A=none->xs.length=0/\c=0)
theorem NdV.W{w w':World}{v:Value}{xs:List Nd}(h:NdV w v xs)(hb:Below w w w'):NdV w' v xs:=by
 obtain⟨A,c,e,B,C⟩:=h;exact⟨A,c,e,B.W hb,C⟩
theorem q6c.val{B:Nat}{w:World}{A:Option Addr}{c:Nat}{xs:List Nd}(h:q6c B (.slice A xs.length c) xs w):NdV w (.slice A xs.length c) xs:=⟨A,c,rfl,h.nods,h.none.2⟩
def NdR(w:World)(xs:List Nd)(e:Ending)(w':World):Prop:=∃A c,e=.returned (.slice A xs.length c)/\q6c w.heap.size (.slice A xs.length c) xs w'/\Below w w w'
theorem NdR.val{w:World}{xs:List Nd}{e:Ending}{w':World}(h:NdR w xs e w'):∃v,e=.returned v/\NdV w' v xs/\Below w w w':=by
 obtain⟨A,c,e,B,C⟩:=h;exact⟨_,e,B.val,C⟩
theorem NdR.from{w w0:World}{xs:List Nd}{e:Ending}{w':World}(h:NdR w xs e w')(hb:Below w0 w0 w):NdR w0 xs e w':=by
 obtain⟨A,c,e,B,C⟩:=h;exact⟨A,c,e,B.down hb.size,q0d hb Zl C⟩
theorem q1q(s:ByteArray)(w:World):Calls prog 57 #[.string s] w fun e w'=>NdR w [⟨1,s,0⟩] e w':=by
 have B:=hid (q6c.one w ⟨1,s,0⟩);have A:Hid (∀O:Obj,Below w w (w.alloc O)):=fun O=>(Below.refl _ w).alloc Zl O
 go_in;go_wp2;go_ret;exact⟨_,1,rfl,B.o,A.o _⟩
theorem q3i(x:Nd){xs:List Nd}{v:Value}(w:World)(hx:NdV w v xs)(hl:xs.length<=100000):Calls prog 60 #[.agg #[.int .i64 x.op,.string x.tx,.int .i64 x.n],v] w fun e w'=>NdR w (x::xs) e w':=by
 obtain⟨A,c,rfl,U,E⟩:=hx;obtain⟨C,D,B⟩:=x;have X:Hid (q1p w A xs):=U;have I:Hid (A=none->xs.length=0/\c=0):=E;clear U E;generalize V:xs.length=n at hl I⊢;have H:Hid (xs.length=n):=V;clear V
 have R:Hid (q6c w.heap.size (.slice (some ⟨w.heap.size+1,0,none⟩) 1 1) [⟨C,D,B⟩] ((w.alloc (.cells #[.int .i64 C,.string D,.int .i64 B] 107)).alloc (.cells #[.int .i64 C,.string D,.int .i64 B] 107))):=by
  have h:=(q6c.one (w.alloc (.cells #[.int .i64 C,.string D,.int .i64 B] 107)) ⟨C,D,B⟩).down (B':=w.heap.size) (by rw[World.size_alloc];omega);rw[World.size_alloc]at h;exact h
 have G:Hid (Below w w ((w.alloc (.cells #[.int .i64 C,.string D,.int .i64 B] 107)).alloc (.cells #[.int .i64 C,.string D,.int .i64 B] 107))):=((Below.refl _ w).alloc Zl _).alloc (by rw[World.size_alloc];omega) _;have N:Hid (q1p ((w.alloc (.cells #[.int .i64 C,.string D,.int .i64 B] 107)).alloc (.cells #[.int .i64 C,.string D,.int .i64 B] 107)) A xs):=X.o.W G.o;simp only;go_in;go_wp2_with(at_builtin;refine z7s rfl _ _ rfl w.heap.size _ [⟨C,D,B⟩] rfl R.o A n xs H.o c rfl N.o I.o (1+n) rfl (by omega) (by simp only[World.size_alloc];omega) ?_);intro Q S P J L;have K:Below w w P:=G.o.grown L (by simp only[World.size_alloc];omega) (fun k hk=>(World.ownsRow.lt R.o k hk).1);have O:Hid (q6c w.heap.size (.slice Q (1+n) S) (⟨C,D,B⟩::xs) P):=J;have M:Hid (Below w w P):=K;clear J L K;go_wp2;go_ret;have e:(⟨C,D,B⟩::xs:List Nd).length=1+n:=by rw[List.length_cons,H.o];omega
 exact⟨Q,S,by rw[e];rfl,by rw[e];exact O.o,M.o⟩
theorem q0z{xs ys:List Nd}{v u:Value}(w:World)(hx:NdV w v xs)(hy:NdV w u ys)(hl:xs.length+ys.length<=100000):Calls prog 61 #[v,u] w fun e w'=>NdR w (⟨6,⟨#[]⟩,0⟩::(xs++ys)) e w':=by
 obtain⟨A,c,rfl,i,D⟩:=hx;obtain⟨R,f,rfl,h,B⟩:=hy;have q:Hid (q1p w A xs):=i;have p:Hid (q1p w R ys):=h;have K:Hid (A=none->xs.length=0/\c=0):=D;have I:Hid (R=none->ys.length=0/\f=0):=B;clear i D h B;generalize l:xs.length=n at hl K⊢;generalize j:ys.length=m at hl I⊢;have G:Hid (xs.length=n):=l;have H:Hid (ys.length=m):=j;clear l j;have Z:Hid (q6c w.heap.size (.slice (some ⟨w,0,none⟩) 1 1) [⟨6,⟨#[]⟩,0⟩] (w.alloc (.cells #[.int .i64 6,.string ⟨#[]⟩,.int .i64 0] 107))):=q6c.one w ⟨6,⟨#[]⟩,0⟩;have E:Hid (Below w w (w.alloc (.cells #[.int .i64 6,.string ⟨#[]⟩,.int .i64 0] 107))):=(Below.refl _ w).alloc Zl _;have J:Hid (q1p (w.alloc (.cells #[.int .i64 6,.string ⟨#[]⟩,.int .i64 0] 107)) A xs):=q.o.W E.o;go_in;go_wp2_with(at_builtin;refine z7s rfl _ _ rfl w.heap.size _ [⟨6,⟨#[]⟩,0⟩] rfl Z.o A n xs G.o c rfl J.o K.o (1+n) rfl (by omega) (by simp only[World.size_alloc];omega) ?_);intro o r S M P;have C:Below w w S:=E.o.grown P (by simp only[World.size_alloc];omega) (fun k hk=>(World.ownsRow.lt Z.o k hk).1);have L:Hid (q6c w.heap.size (.slice o (1+n) r) (⟨6,⟨#[]⟩,0⟩::xs) S):=M;have U:Hid (Below w w S):=C;have Y:Hid (q1p S R ys):=p.o.W C;have s:=C.size
 have X:Hid ((⟨6,⟨#[]⟩,0⟩::xs:List Nd).length+m=1+n+m):=by
  show _=_;rw[List.length_cons,G.o];omega
 clear M P C Z E J;go_wp2_with(at_builtin;refine z7s rfl _ _ rfl w.heap.size _ (⟨6,⟨#[]⟩,0⟩::xs) rfl L.o R m ys H.o f rfl Y.o I.o (1+n+m) X.o (by omega) (by omega) ?_);intro d g b N Q;have O:Below w w b:=U.o.grown Q (by omega) (fun k hk=>(World.ownsRow.lt L.o k hk).1);have a:Hid (q6c w.heap.size (.slice d (1+n+m) g) (⟨6,⟨#[]⟩,0⟩::(xs++ys)) b):=N;have V:Hid (Below w w b):=O;clear N Q O;go_wp2;go_ret;have e:(⟨6,⟨#[]⟩,0⟩::(xs++ys):List Nd).length=1+n+m:=by rw[List.length_cons,List.length_append,G.o,H.o];omega
 exact⟨d,g,by rw[e];rfl,by rw[e];exact a.o,V.o⟩
set_option maxHeartbeats 8000000
theorem k6v(k:Nat){o:Int}(hk:k=0/\o=3\/k=1/\o=5)(tx:ByteArray)(n:Int):z9t (⟨o,tx,n⟩::[]) ([]) (false):=by
 have g:Tag k:=.mk;rcases hk with⟨rfl,rfl⟩|⟨rfl,rfl⟩
 all_goals
  intro B b s ds M a U l k w c K H I Z Y E hl;generalize L:[]++M=r;have j:Hid ([]++M=r):=L;have m:Hid (r.length=([]:List Nd).length+M.length):=(show _=_ by rw[<-L,List.length_append]);obtain rfl:ds=⟨↑(sel g (3:Int) 5),tx,n⟩::r:=by rw[c,<-L];rfl
  clear c L;obtain⟨f,ea,x,y,z⟩:=K 0 (by simp);subst ea;simp only[List.length_cons]at Z hl⊢;have R:Hid (q1i s w (some ⟨s,f+3,none⟩) r):=K.rest
  have D:Hid (U=1->q1i s w (some ⟨s,f,none⟩) r):=fun h=>by
   have X:=K.slid Z;rw[if_pos h]at X;exact X
  have u:Hid (Ln B b l k w):=Y;simp only[Nat.zero_mul,Nat.add_zero,List.getElem_cons_zero]at x y z;have Ab:s<w.heap.size:=by omega
  have Ac:(1:Int)<=(r.length:Int)+1:=by omega
  have J:Hid (∀O:Obj,q0v B b w (w.alloc O).drew):=fun O=>q0v.drew ((q0v.refl B b w).alloc E O)
  have i:Hid (∀O:Obj,Lib.OthersKept 5 (some b) w (w.alloc O).drew):=fun O=>((Lib.OthersKept.refl _ _ w).alloc O).drew
  have C:Hid (s<B/\s≠b):=⟨H,I⟩;clear K Y H I;go_in
  go_upto_region 1 with fail
  go_cut [0,1,5,6] (fun t _ p q wx=>k2x B b s w.heap.size ⟨↑(sel g (3:Int) 5),tx,n⟩ r l k w t p q wx)
  case first=>
   go_region
   all_goals (go_wp2_with fail)
   all_goals
    go_meet
    refine⟨rfl,rfl,⟨_,_,rfl,?_,by omega⟩,by simp[go_sem],by simp[go_sem],by simp[go_sem],IsX.drew (IsX.alloc u.o _),J.o _,i.o _⟩
    first
     | exact R.o.kept ((J.o _).block s C.o.1 C.o.2)
     | exact(D.o (by assumption)).kept ((J.o _).block s C.o.1 C.o.2)
     | exact(D.o rfl).kept ((J.o _).block s C.o.1 C.o.2)
  case rest=>
   obtain⟨rfl,rfl,⟨v,W,rfl,d,V⟩,e1,e2,e3,e,A,G⟩:=hcut;dsimp only at e1 e2 e3;have Q:Hid (q1i s wc v r):=d;have S:Hid (Ln B b l k wc):=e;have N:Hid (q0v B b w wc):=A;have P:Hid (Lib.OthersKept 5 (some b) w wc):=G;have Aa:B<=wc.heap.size:=Nat.le_trans E A.size;clear d e A G;go_wp2;go_ret;obtain rfl:M=r:=j.o;rw[Bool.or_false,List.append_nil];exact⟨⟨_,_,rfl,Q.o,V⟩,S.o,N.o,P.o⟩
theorem y0u(tx:ByteArray)(n:Int):z9t (⟨4,tx,n⟩::[]) ([]) (true):=by
 intro B b s y N a U l k w c L I J Z Y G hl;generalize M:[]++N=r;have i:Hid ([]++N=r):=M;have j:Hid (r.length=([]:List Nd).length+N.length):=(show _=_ by rw[<-M,List.length_append]);obtain rfl:y=⟨4,tx,n⟩::r:=by rw[c,<-M];rfl
 clear c M;obtain⟨f,ea,u,v,x⟩:=L 0 (by simp);subst ea;simp only[List.length_cons]at Z hl⊢;have S:Hid (q1i s w (some ⟨s,f+3,none⟩) r):=L.rest
 have E:Hid (U=1->q1i s w (some ⟨s,f,none⟩) r):=fun h=>by
  have X:=L.slid Z;rw[if_pos h]at X;exact X
 have m:Hid (Ln B b l k w):=Y;simp only[Nat.zero_mul,Nat.add_zero,List.getElem_cons_zero]at u v x;have Ab:s<w.heap.size:=by omega
 have Ac:(1:Int)<=(r.length:Int)+1:=by omega
 have K:Hid (∀O:Obj,q0v B b w (w.alloc O).drew):=fun O=>q0v.drew ((q0v.refl B b w).alloc G O)
 have g:Hid (∀O:Obj,Lib.OthersKept 5 (some b) w (w.alloc O).drew):=fun O=>((Lib.OthersKept.refl _ _ w).alloc O).drew
 have A:Hid (s<B/\s≠b):=⟨I,J⟩;clear L Y I J;go_in
 go_upto_region 1 with fail
 go_cut [0,1,5,6] (fun t _ p q wx=>k2x B b s w.heap.size ⟨4,tx,n⟩ r l k w t p q wx)
 case first=>
  go_region
  all_goals (go_wp2_with fail)
  all_goals
   go_meet
   refine⟨rfl,rfl,⟨_,_,rfl,?_,by omega⟩,by simp[go_sem],by simp[go_sem],by simp[go_sem],IsX.drew (IsX.alloc m.o _),K.o _,g.o _⟩
   first
    | exact S.o.kept ((K.o _).block s A.o.1 A.o.2)
    | exact(E.o (by assumption)).kept ((K.o _).block s A.o.1 A.o.2)
    | exact(E.o rfl).kept ((K.o _).block s A.o.1 A.o.2)
 case rest=>
  obtain⟨rfl,rfl,⟨o,W,rfl,d,V⟩,z,e2,e3,e,D,H⟩:=hcut;dsimp only at z e2 e3;have R:Hid (q1i s wc o r):=d;have C:Hid (Ln B b l k wc):=e;have P:Hid (q0v B b w wc):=D;have Q:Hid (Lib.OthersKept 5 (some b) w wc):=H;have Aa:B<=wc.heap.size:=Nat.le_trans G D.size;clear d e D H;have g1:=C.o.cell;have g2:=C.o.frozen;go_wp2;go_ret;obtain rfl:N=r:=i.o;rw[Bool.or_true,List.append_nil];refine⟨⟨_,_,rfl,R.o.kept (Below.heap_setCell _ _ _ _ A.o.2),V⟩,C.o.stored true,P.o.setCell (.inl rfl) _,Q.o.setCell _ rfl _⟩
theorem k6b:∀(w:Wd)(a:Nat),(∀b∈w,q1w b=true)->Lib.decFrom a w=some (w.foldl (fun a c=>a*10+(c.toNat-48)) a)
 | [],a,_=>rfl
 | c::r,a,h=>by
  have hc:=h c (by simp);simp only[q1w,Bool.and_eq_true,decide_eq_true_eq]at hc;have e:Lib.digitVal c=some (c.toNat-48):=by rw[Lib.digitVal,if_pos hc]
  rw[Lib.decFrom,e];exact k6b r _ fun b hb=>h b (by simp[hb])
theorem v1k{w:Wd}(h:∀b∈w,q1w b=true)(h0:w≠[]):Lib.atoi w=some ((z8x w:Nat):Int):=by
 cases w with
 | nil=>exact absurd rfl h0
 | cons c r=>
  have A:=h c (by simp);simp only[q1w,Bool.and_eq_true,decide_eq_true_eq]at A
  have B:(c==45)=false:=by
   rw[beq_eq_false_iff_ne];rintro rfl;revert A;decide
  have C:(c==43)=false:=by
   rw[beq_eq_false_iff_ne];rintro rfl;revert A;decide
  have D:Lib.decNat (c::r)=some (z8x (c::r)):=by
   rw[Lib.decNat];exact k6b (c::r) 0 h
  simp only[Lib.atoi,B,C,D];rfl
theorem v1j(w:Wd)(h:∀b∈w,q1w b=true)(h0:w≠[])(hl:w.length<=6)(W:World):Calls prog 228 #[.string (wbS w)] W fun e w'=>e=.returned (.tuple #[.int .i64 ((z8x w:Nat):Int),.nilIface])/\Below W W w':=by
 refine(atoi_sh (wbS w) ((z8x w:Nat):Int) (by rw[<-q0c];show w.length<=18;omega) (v1k h h0) W).mono ?_;rintro e w'⟨rfl,t,rfl⟩;exact⟨rfl,Lib.bytesWorld_below _ _ _⟩
section
variable {K:LwK} {ws:List Wd} {pl:Nat→Nat} {b p:Nat} {w:World}
theorem q4j.lev2{e:Ending}{w':World}(h:q4j K ws pl b .single p w e w'):q4j K ws pl b (.level 2) p w e w':=by
 cases h with
 | ok h=>exact .ok ⟨.lev2 h.pr,h.o,h.n,h.rd,h.bt⟩
 | bad pr bt=>exact .bad (.lev2 pr) bt
theorem v0x{j:Job}{q:Nat}{w':World}(hq:q<=ws.length)(pr:PR j (ws.drop p) (.bad (ws.drop q)))(bt:But w b w w'):q4j K ws pl b j p w (.panicked [q4u (pl q)]) w':=by
 have A:=q4j.bad (K:=K) (pl:=pl) pr bt;rw[q0h,show ws.length-(ws.length-q)=q by omega]at A;exact A
theorem q4p(h:p<ws.length):ws.drop p=ws[p]::ws.drop (p+1):=List.drop_eq_getElem_cons h
theorem j1j(hS:∀q,p<q->q<=ws.length->j1w K ws pl b q)(hp:p<ws.length)(hn:nmW ws[p]=true)(h:Ry K ws pl b p w):
  Calls prog 229 #[.pointer (some ⟨b,0,none⟩)] w fun e w'=>q4j K ws pl b .single p w e w':=by
 have D:Hid (Calls prog 175 #[.pointer (some ⟨b,0,none⟩)] w fun e w'=>e=.returned (.string (wbS ws[p]))/\Ry K ws pl b (p+1) w'/\But w b w w'):=q8l h hp;have P:Hid (ws.drop p=ws[p]::ws.drop (p+1)):=q4p hp;have g:b<w.heap.size:=h.row.lt;clear h;by_cases G:ws[p+1]?=some [40]
 ·obtain⟨J,I⟩:=List.getElem?_eq_some_iff.1 G
  have H:Hid (ws.drop (p+1)=[40]::ws.drop (p+2)):=by
   show _=_;rw[q4p J,I]
  have Q:Hid (∀W,Ry K ws pl b (p+2) W->But w b w W->Calls prog 230 #[.pointer (some ⟨b,0,none⟩),.agg #[.int .i64 3,.string (wbS ws[p]),.int .i64 0],.string ⟨#[41]⟩] W fun r w'=>q4j K ws pl b .single p w r w'):=fun W hW hB=>by
   refine(k2s (e:=[41]) (op:=3) (tx:=wbS ws[p]) (by simp) (by decide) (fun q C N=>hS q (by omega) N) hW).mono ?_;intro r w' X;have Y:=hB.size;cases X with
   | bad pr bt=>exact .bad (by rw[P.o,H.o];exact .sCB hn pr) (hB.trans (bt.mono Y))
   | @ok n ns u A c _ hg=>
    have i:=hg.n;rw[q0h]at i;refine q4j.ok (m:=0) (ns:=clT ws[p] n::ns) (u:=u) ⟨by rw[P.o,H.o];exact .sCO hn hg.pr,hg.o.down Y,?_,hg.rd,hB.trans (hg.bt.mono Y)⟩;rw[q0h,List.length_cons];omega
  generalize wbS ws[p]=S at D Q;go_in;go_wp2_with fail;refine D.o.mono ?_;rintro e B⟨rfl,C,E⟩;have O:Hid (But w b w B):=E;have Z:=E.size;have M:Hid (Calls prog 127 #[.pointer (some ⟨b,0,none⟩),.string ⟨#[40]⟩] B fun e w'=>e=.returned (.bool true)/\Ry K ws pl b (p+2) w'/\But B b B w'):=q7n C [40] G;clear C E D G I;go_wp2_with fail;refine M.o.mono ?_;rintro e a⟨rfl,N,d⟩;have R:Hid (Calls prog 230 #[.pointer (some ⟨b,0,none⟩),.agg #[.int .i64 3,.string S,.int .i64 0],.string ⟨#[41]⟩] a fun r w'=>q4j K ws pl b .single p w r w'):=Q.o a N (O.o.trans (d.mono Z));clear N d M Q;go_wp2_with fail;refine R.o.mono ?_;intro r f X;cases X with
  | @bad u _ pr bt=>
   have L:Hid (q4j K ws pl b .single p w (.panicked [q4u (pl (ws.length-u.length))]) f):=.bad pr bt;clear pr bt;go_wp2;exact⟨rfl,L.o⟩
  | @ok m ns u A c _ hg=>
   have L:Hid (q4j K ws pl b .single p w (.returned (.slice A ns.length c)) f):=.ok hg;clear hg;generalize ns.length=nl at L⊢;go_wp2;go_ret;exact L.o
 ·have U:Hid (∀W,Ry K ws pl b (p+1) W->But w b w W->q4j K ws pl b .single p w (.returned (.slice (some ⟨W,0,none⟩) 1 1)) (W.alloc (.cells #[.int .i64 2,.string (wbS ws[p]),.int .i64 0] 47))):=fun W hW hB=>by
   refine q4j.ok (m:=0) (ns:=[nmT ws[p]]) (u:=ws.drop (p+1)) ⟨by rw[P.o];exact .sName hn (by rw[q2m];exact G),(q0w.one W (nmT ws[p])).down hB.size,?_,?_,hB.alloc hB.size _⟩
   ·rw[q0h,q0h];simp only[List.length_cons,List.length_nil];omega
   ·rw[q0h,show ws.length-(ws.length-(p+1))=p+1 by omega];exact hW.keep (q4b W _)
  generalize wbS ws[p]=S at D U;go_in;go_wp2_with fail;refine D.o.mono ?_;rintro e B⟨rfl,C,E⟩;have V:=hid (U.o B C E);have M:Hid (Calls prog 127 #[.pointer (some ⟨b,0,none⟩),.string ⟨#[40]⟩] B fun e w'=>e=.returned (.bool false)/\w'=B):=q8k C [40] (by simp) G;clear C E D G U;go_wp2_with fail;refine M.o.mono ?_;rintro e a⟨rfl,rfl⟩;go_wp2;go_ret;exact V.o
end
theorem k0i(bp g n i c:Nat)(tx:ByteArray)(nn en:Int)(nx dp:Nat)(lg:Int)(x:Int)(w:World)(hn:n<=400)(hi:(i:Int)<n)(E:(i:Int)+1<n)(dx:w.cell? ⟨g,(i+1)*7+3,none⟩=some (.int .i64 x))
  (c0:w.cell? ⟨bp,0,none⟩=some (.slice (some ⟨g,0,none⟩) n n))
  (d0:w.cell? ⟨g,i*7,none⟩=some (.int .i64 9)) (d1:w.cell? ⟨g,i*7+1,none⟩=some (.string tx)) (d2:w.cell? ⟨g,i*7+2,none⟩=some (.int .i64 nn)) (d3:w.cell? ⟨g,i*7+3,none⟩=some (.int .i64 en)) (d4:w.cell? ⟨g,i*7+4,none⟩=some (.int .i64 nx)) (d5:w.cell? ⟨g,i*7+5,none⟩=some (.int .i64 dp)) (d6:w.cell? ⟨g,i*7+6,none⟩=some (.int .i64 lg)):
  Calls prog 217 #[.pointer (some ⟨bp,0,none⟩),.agg #[.int .i64 i,.int .i64 c],.int .i64 1] w fun e w'=>e=.returned (.tuple #[.agg #[.int .i64 x,.int .i64 c],.agg #[.int .i64 0,.int .i64 0]])/\Below w w w':=by
 have H:(0:Int)<=(i:Int):=by omega
 have K:=z5s hn hi;have G:=World.block_lt_of_cell? w ⟨bp,0,none⟩ c0;have D:=World.block_lt_of_cell? w ⟨g,i*7,none⟩ d0;have A:∀O2 O3,(((w.alloc (.cells #[.int .i64 i,.int .i64 c] 172)).alloc O2).alloc O3).cell? ⟨w,0,none⟩=some (.int .i64 i):=fun O2 O3=>by simp[go_sem]
 have B:∀O2 O3 O4,((((w.alloc (.cells #[.int .i64 i,.int .i64 c] 172)).alloc O2).alloc O3).alloc O4).cell? ⟨w,0,none⟩=some (.int .i64 i):=fun O2 O3 O4=>ka (A O2 O3) O4
 have C:∀O2 O3 O4,((((w.alloc (.cells #[.int .i64 i,.int .i64 c] 172)).alloc O2).alloc O3).alloc O4).cell? ⟨w,1,none⟩=some (.int .i64 c):=fun O2 O3 O4=>by simp[go_sem]
 have I:(0:Int)<=(i:Int)+1:=by omega
 have J:((i:Int)+1).toNat=i+1:=by omega
 go_in;go_wp2_with fail
 go_region_held3 (fun w'=>w'.cell? ⟨bp,0,none⟩=some (.slice (some ⟨g,0,none⟩) n n)/\w'.cell? ⟨w,0,none⟩=some (.int .i64 i)/\w'.cell? ⟨g,i*7,none⟩=some (.int .i64 9)/\w'.cell? ⟨g,i*7+1,none⟩=some (.string tx)/\w'.cell? ⟨g,i*7+2,none⟩=some (.int .i64 nn)/\w'.cell? ⟨g,i*7+3,none⟩=some (.int .i64 en)/\w'.cell? ⟨g,i*7+4,none⟩=some (.int .i64 nx)/\w'.cell? ⟨g,i*7+5,none⟩=some (.int .i64 dp)/\w'.cell? ⟨g,i*7+6,none⟩=some (.int .i64 lg))
  (first|exact⟨k3 c0 _ _ _,A _ _,k3 d0 _ _ _,k3 d1 _ _ _,k3 d2 _ _ _,k3 d3 _ _ _,k3 d4 _ _ _,k3 d5 _ _ _,k3 d6 _ _ _⟩|exact⟨k4 c0 _ _ _ _,B _ _ _,k4 d0 _ _ _ _,k4 d1 _ _ _ _,k4 d2 _ _ _ _,k4 d3 _ _ _ _,k4 d4 _ _ _ _,k4 d5 _ _ _ _,k4 d6 _ _ _ _⟩) (fail)
 all_goals
  go_wp2_with fail
  go_region_held3 (fun w'=>w'.cell? ⟨bp,0,none⟩=some (.slice (some ⟨g,0,none⟩) n n)/\w'.cell? ⟨w,0,none⟩=some (.int .i64 i)/\w'.cell? ⟨w,1,none⟩=some (.int .i64 c)/\w'.cell? ⟨g,(i+1)*7+3,none⟩=some (.int .i64 x))
   (exact⟨k4 c0 _ _ _ _,B _ _ _,C _ _ _,k4 dx _ _ _ _⟩) (fail)
  all_goals
   go_wp2;exact bodyPost_ret (v:=.tuple #[.agg #[.int .i64 x,.int .i64 c],.agg #[.int .i64 0,.int .i64 0]]) (by simp[results,Tryz.results217,go_sem]) rfl ⟨rfl,(v6u w _ _ _ _).drew.drew⟩
theorem k6w(k:Nat){o:Int}(hk:k=0/\o=7\/k=1/\o=8)(tx:ByteArray)(n:Int)(A:List Nd)(tA:List UInt8)(kA:Bool)(hA:z9t A tA kA):z9t (⟨o,tx,n⟩::A) (tA) (kA):=by
 have y:Tag k:=.mk;rcases hk with⟨rfl,rfl⟩|⟨rfl,rfl⟩
 all_goals
  intro B b s ds N a V l k w m L I J j i G hl;generalize M:A++N=r;have HR:Hid (A++N=r):=M;have Aa:Hid (r.length=(A:List Nd).length+N.length):=(show _=_ by rw[<-M,List.length_append]);obtain rfl:ds=⟨↑(sel y (7:Int) 8),tx,n⟩::r:=by rw[m,<-M];rfl
  clear m M;obtain⟨x,ea,c1,c2,c3⟩:=L 0 (by simp);subst ea;simp only[List.length_cons]at j hl⊢;have S:Hid (q1i s w (some ⟨s,x+3,none⟩) r):=L.rest
  have E:Hid (V=1->q1i s w (some ⟨s,x,none⟩) r):=fun h=>by
   have g:=L.slid j;rw[if_pos h]at g;exact g
  have HW:Hid (Ln B b l k w):=i;simp only[Nat.zero_mul,Nat.add_zero,List.getElem_cons_zero]at c1 c2 c3;have Ab:s<w.heap.size:=by omega
  have Ac:(1:Int)<=(r.length:Int)+1:=by omega
  have K:Hid (∀O:Obj,q0v B b w (w.alloc O).drew):=fun O=>q0v.drew ((q0v.refl B b w).alloc G O)
  have HK:Hid (∀O:Obj,Lib.OthersKept 5 (some b) w (w.alloc O).drew):=fun O=>((Lib.OthersKept.refl _ _ w).alloc O).drew
  have C:Hid (s<B/\s≠b):=⟨I,J⟩;clear L i I J;go_in
  go_upto_region 1 with fail
  go_cut [0,1,5,6] (fun t _ p q wx=>k2x B b s w.heap.size ⟨↑(sel y (7:Int) 8),tx,n⟩ r l k w t p q wx)
  case first=>
   go_region
   all_goals (go_wp2_with fail)
   all_goals
    go_meet
    refine⟨rfl,rfl,⟨_,_,rfl,?_,by omega⟩,by simp[go_sem],by simp[go_sem],by simp[go_sem],IsX.drew (IsX.alloc HW.o _),K.o _,HK.o _⟩
    first
     | exact S.o.kept ((K.o _).block s C.o.1 C.o.2)
     | exact(E.o (by assumption)).kept ((K.o _).block s C.o.1 C.o.2)
     | exact(E.o rfl).kept ((K.o _).block s C.o.1 C.o.2)
  case rest=>
   obtain⟨rfl,rfl,⟨a',d,rfl,u,Y⟩,e1,e2,e3,v,D,H⟩:=hcut;dsimp only at e1 e2 e3;have R:Hid (q1i s wc a' r):=u;have U:Hid (Ln B b l k wc):=v;have P:Hid (q0v B b w wc):=D;have Q:Hid (Lib.OthersKept 5 (some b) w wc):=H;have W:B<=wc.heap.size:=Nat.le_trans G D.size;clear u v D H;have z:Hid (z9t A tA kA):=hA;clear hA;go_wp2_with fail;refine(z.o B b s r N _ _ l k _ HR.o.symm R.o C.o.1 C.o.2 Y U.o W (by omega)).mono ?_;rintro e w3⟨⟨a3,f,rfl,n3,Z⟩,h3,X,c⟩;go_wp2;go_ret;exact⟨⟨_,_,rfl,n3,Z⟩,h3,P.o.trans X,Q.o.trans c⟩
theorem z6b(ds:List Nd)(a:Option Addr)(cap i0:Nat)(w:World)(hN:q1p w a ds)(hl:ds.length<=400)(hi:i0<=ds.length):
  Calls prog 88 #[.slice a ds.length cap,.int .i64 i0] w fun e w'=>((∃j:Nat,q0n ds i0 1=some j/\e=.returned (.tuple #[.int .i64 j,.bool true]))\/(q0n ds i0 1=none/\e=.returned (.tuple #[.int .i64 ds.length,.bool false])))/\w=w':=by
 have I:Hid (q1p w a ds):=hN;clear hN;go_in;go_wp2
 go_loopw [1,6] (fun i m wr=>wr=w/\∃k q:Nat,k<=ds.length/\q<=k+1/\i=.int .i64 k/\m=.int .i64 q/\q0n ds i0 1=q0n ds k q) (fun i _ _=>ds.length-(intOf i).toNat)
 case atStart=>exact⟨rfl,i0,1,hi,by omega,rfl,rfl,rfl⟩
 case round=>
  obtain⟨rfl,k,q,P,R,rfl,rfl,H⟩:=hrel;have D:Hid (q0n ds i0 1=q0n ds k q):=H;clear H;by_cases G:q=0
  ·subst G;have A:Hid (q0n ds i0 1=some k):=D.o.trans (z6e _ _);go_wp2;go_ret2;exact⟨.inl ⟨k,A.o,rfl⟩,rfl⟩
  ·obtain⟨C,rfl⟩:∃C,q=C+1:=⟨q-1,by omega⟩;by_cases B:k<ds.length
   ·obtain⟨b,o,M,O,N,K,L⟩:=I.o k B;have J:Hid (q0n ds i0 1=q0n ds (k+1) (pts ds[k].op+C)):=D.o.trans (z6d _ _ _ B);have Q:=j8t ds[k].op;subst M;clear K L G;go_wp2_with(go_at_call 142;refine(k8y _ _).mono ?_;rintro e w'⟨rfl,rfl⟩)
    go_roundw
    case rel=>
     exact⟨by trivial,k+1,pts ds[k].op+C,by omega,by omega,by go_num,by go_num,J.o⟩
    case measure=>simp[intOf];omega
   ·have E:k=ds.length:=by omega
    subst E;have A:Hid (q0n ds i0 1=none):=D.o.trans (k0p _ _ _ (by omega));go_wp2;go_ret2;exact⟨.inr ⟨A.o,rfl⟩,rfl⟩
theorem z3v{ds:List Nd}{i0 j:Nat}(a:Option Addr)(cap:Nat)(w:World)(hN:q1p w a ds)(hl:ds.length<=400)(hi:i0<=ds.length)(h:q0n ds i0 1=some j):
  Calls prog 88 #[.slice a ds.length cap,.int .i64 i0] w fun e w'=>e=.returned (.tuple #[.int .i64 j,.bool true])/\w=w':=
 (z6b ds a cap i0 w hN hl hi).mono fun e w'⟨h1,h2⟩=>⟨by
  rcases h1 with⟨j',e1,e2⟩|⟨e1,_⟩
  ·rw[h]at e1;cases e1;exact e2
  ·rw[h]at e1;(cases e1),h2⟩
theorem k3k{ds:List Nd}{i0:Nat}(a:Option Addr)(cap:Nat)(w:World)(hN:q1p w a ds)(hl:ds.length<=400)(hi:i0<=ds.length)(h:q0n ds i0 1=none):
  Calls prog 88 #[.slice a ds.length cap,.int .i64 i0] w fun e w'=>e=.returned (.tuple #[.int .i64 ds.length,.bool false])/\w=w':=
 (z6b ds a cap i0 w hN hl hi).mono fun e w'⟨h1,h2⟩=>⟨by
  rcases h1 with⟨j',e1,e2⟩|⟨_,e2⟩
  ·rw[h]at e1;cases e1
  ·exact e2,h2⟩
theorem y0w(tx:ByteArray)(n:Int)(A C:List Nd)(tA tC:List UInt8)(kA kC:Bool)(hA:z9t A tA kA)(hC:z9t C tC kC):z9t (⟨9,tx,n⟩::(A++C)) (tA) (kA):=by
 intro B b s ds H a u l k w hd X S U hc hW M hl;generalize Y:(A++C)++H=r;have j:Hid ((A++C)++H=r):=Y;have o:Hid (r.length=((A++C):List Nd).length+H.length):=(show _=_ by rw[<-Y,List.length_append]);obtain rfl:ds=⟨9,tx,n⟩::r:=by rw[hd,<-Y];rfl
 clear hd Y;obtain⟨o0,ea,c1,c2,c3⟩:=X 0 (by simp);subst ea;simp only[List.length_cons]at hc hl⊢;have i:Hid (q1i s w (some ⟨s,o0+3,none⟩) r):=X.rest
 have J:Hid (u=1->q1i s w (some ⟨s,o0,none⟩) r):=fun h=>by
  have h1:=X.slid hc;rw[if_pos h]at h1;exact h1
 have HW:Hid (Ln B b l k w):=hW;simp only[Nat.zero_mul,Nat.add_zero,List.getElem_cons_zero]at c1 c2 c3;have Ae:s<w.heap.size:=by omega
 have Ag:(1:Int)<=(r.length:Int)+1:=by omega
 have W:Hid (∀O:Obj,q0v B b w (w.alloc O).drew):=fun O=>q0v.drew ((q0v.refl B b w).alloc M O)
 have HK:Hid (∀O:Obj,Lib.OthersKept 5 (some b) w (w.alloc O).drew):=fun O=>((Lib.OthersKept.refl _ _ w).alloc O).drew
 have D:Hid (s<B/\s≠b):=⟨S,U⟩;clear X hW S U;go_in
 go_upto_region 1 with fail
 go_cut [0,1,5,6] (fun t _ p q wx=>k2x B b s w.heap.size ⟨9,tx,n⟩ r l k w t p q wx)
 case first=>
  go_region
  all_goals (go_wp2_with fail)
  all_goals
   go_meet
   refine⟨rfl,rfl,⟨_,_,rfl,?_,by omega⟩,by simp[go_sem],by simp[go_sem],by simp[go_sem],IsX.drew (IsX.alloc HW.o _),W.o _,HK.o _⟩
   first
    | exact i.o.kept ((W.o _).block s D.o.1 D.o.2)
    | exact(J.o (by assumption)).kept ((W.o _).block s D.o.1 D.o.2)
    | exact(J.o rfl).kept ((W.o _).block s D.o.1 D.o.2)
 case rest=>
  obtain⟨rfl,rfl,⟨a',Aa,rfl,hn,v⟩,e1,e2,e3,hw,E,R⟩:=hcut;dsimp only at e1 e2 e3;have g:Hid (q1i s wc a' r):=hn;have K:Hid (Ln B b l k wc):=hw;have I:Hid (q0v B b w wc):=E;have d:Hid (Lib.OthersKept 5 (some b) w wc):=R;have L:B<=wc.heap.size:=Nat.le_trans M E.size;clear hn hw E R;rw[List.append_assoc]at j;generalize G:C++H=rc at j;have m:Hid (C++H=rc):=G;have f:Hid (rc.length=C.length+H.length):=(show _=_ by rw[<-G,List.length_append]);have Z:Hid ((A++C).length=A.length+C.length):=(show _=_ from List.length_append);clear G;have HA:Hid (z9t A tA kA):=hA;have HC:Hid (z9t C tC kC):=hC;clear hA hC;go_wp2_with fail;refine(HA.o B b s r rc _ _ l k _ j.o.symm (g.o.kept (Below.heap_alloc _ _ _ (by have:=D.o;omega))) D.o.1 D.o.2 v (IsX.alloc K.o _) (by simp;omega) (by omega)).mono ?_;rintro e w3⟨⟨a3,Ab,rfl,n3,x⟩,h3,N,Q⟩;have Af:b<wc.heap.size:=IsX.lt K.o;have hx:=Q wc.heap.size _ (heap_alloc_new wc _) (by simp;omega) (by intro c fz h;cases h);have V:=N.size;have Ad:wc.heap.size+1<=w3.heap.size:=by simpa using V
  have HX:Hid (w3.heap[wc.heap.size]?=_):=hx;clear V hx;go_wp2_with fail;refine(HC.o w3.heap.size wc.heap.size s rc H _ _ [] false _ m.o.symm n3 (by have:=D.o;omega) (by have:=D.o;omega) x (IsX.unused _ _ _ _ _ HX.o) Zl (by have q1:=o.o;have q2:=f.o;have q3:=Z.o;simp;omega)).mono ?_;rintro e w4⟨⟨a4,Ac,rfl,n4,y⟩,h4,P,z⟩;go_wp2;go_ret;refine⟨⟨_,_,rfl,n4,y⟩,IsX.far h3 P (by omega) HX.o (by decide),(I.o.trans (((q0v.refl _ _ _).alloc L _).trans N)).trans (P.weak (by omega) L),?_⟩;exact v3g (d.o.trans (((Lib.OthersKept.refl _ _ _).alloc _).trans Q)) z I.o.size
end Go.Proofs.YtfdppahhbpfnoaaGreatDoor
