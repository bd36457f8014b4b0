import Derived.Test.YtelcnplcpboonaaGreatDoorPe04
open Go.Proofs.Tryz
open Go.Value renaming int->À,agg->Å,tuple->É,string->Ê,pointer->Ë,slice->Í
open Go.IntKind renaming i64->Á
open Option renaming none->Â,some->Ã
open Go.World renaming block_lt_of_cell?->Ä
open Go.RowKit.Below renaming refl->Æ
open Go renaming bodyPost_ret->Ç,World->È,results->Ì
namespace Go.Proofs.YtelcnplcpboonaaGreatDoor
open Go Go.RowKit
set_option maxRecDepth 100000
set_option maxHeartbeats 4000000
theorem wt(w:È)(A B C):Below w w (((w.alloc A).alloc B).alloc C):=(((Æ _ w).alloc Zl _).alloc (by simp) _).alloc (by simp;omega) _
theorem xx(M J p c k:Nat)(w:È)(S:J<=100)(P:c<=100)(R:k<=20000)
  (c1:w.cell? (M,1)=Ã ↑J):
  Cb 288 #[Ë M,Å #[p,c],k] w (É #[Å #[p,((min (c+k) J:Nat):Int)],Å #[((c+k-J:Nat):Int),À Á 0]]):=by
 unfold Cb;have H:IntKind.i64.wrap ((c:Int)+(k:Int))=(c:Int)+(k:Int):=by rw[IntKind.wrap_i64];omega
 have I:IntKind.i64.wrap ((c:Int)+(k:Int)-(J:Int))=(c:Int)+(k:Int)-(J:Int):=by rw[IntKind.wrap_i64];omega
 have D:=Ä w (M,1) c1;have A:=λN K L=>wt w N K L
 have C:∀N K L,(((w.alloc N).alloc K).alloc L).cell? (M,1)=Ã ↑J:=λN K L=>((A N K L).cell (p:=(M,1)) D).trans c1
 have B:∀K L,(((w.alloc (.cells #[p,c] 280)).alloc K).alloc L).cell? w.heap.size=Ã ↑p:=λK L=>by simp[go_sem]
 have E:((min (c+k) J:Nat):Int)=min ((c:Int)+k) J:=by omega
 have G:((c+k-J:Nat):Int)=max ((c:Int)+k-J) 0:=by omega
 rw[E,G];clear E G;go_in;go_wp2_with fail
 go_region_held3 (λO=>O.cell? (M,1)=Ã ↑J/\O.cell? w.heap.size=Ã ↑p) (exact⟨C _ _ _,B _ _⟩) (fail)
 all_goals
  go_wp2;exact Ç (v:=É #[Å #[↑p,↑(min ((c:Int)+k) J)],Å #[↑(max ((c:Int)+k-J) 0),À Á 0]]) (by simp[Ì,Tryz.results288,go_sem]) rfl ⟨rfl,(A _ _ _).drew⟩
theorem Pj(B A p k:Nat)(w:È)(D:A<=100)(C:k<=20000)(c1:w.cell? (B,1)=Ã ↑A):
  Cb 288 #[Ë B,Å #[p,À Á 0],k] w (É #[Å #[p,((min k A:Nat):Int)],Å #[((k-A:Nat):Int),À Á 0]]):=by
 unfold Cb;have h:=xx B A p 0 k w D (by omega) C c1;rw[Nat.zero_add]at h;exact h
theorem tj(op:Int)(tx)(a b c d e:Int)(w:È):
  Cb 232 #[Å #[op,Ê tx,a,b,c,d,e]] w (.bool (eu op)):=by
 unfold Cb;cases B:(op==8)with
 | true=>
  have A:eu op=true:=by simp[eu,beq_iff_eq.1 B]
  rw[A];go_in;go_wp2;go_ret;exact⟨rfl,Zb.alloc Zl _⟩
 | false=>
  cases C:(op==9)with
  | true=>
   have A:eu op=true:=by simp[eu,beq_iff_eq.1 C]
   rw[A];go_in;go_wp2;go_ret;exact⟨rfl,Zb.alloc Zl _⟩
  | false=>
   have A:eu op=false:=by simp[eu,beq_eq_false_iff_ne.1 B,beq_eq_false_iff_ne.1 C]
   rw[A];go_in;go_wp2;go_ret;exact⟨rfl,Zb.alloc Zl _⟩
theorem pM{a b:Nat}(A:a<=1000000)(B:b<=1000000):ff ((a:Int),(b:Int))=true:=by
 simp[ff,jG];omega
theorem Rk(a b c d:Nat)(D:a<=1000000)(E:b<=1000000)(G:c<=1000000)(H:d<=1000000)(w:È):
  Cb 257 #[Å #[a,b],Å #[c,d]] w (.bool (decide (dG (a,b) (c,d)))):=by
 unfold Cb;have B:decide (dG (a,b) (c,d))=kt ((a:Int),(b:Int)) ((c:Int),(d:Int)):=by
  rw[Bool.eq_iff_iff,decide_eq_true_eq];unfold kt dG;dsimp only
  split
  .rw[decide_eq_true_eq];omega
  .rw[decide_eq_true_eq];omega
 rw[B]
 have A:Hid (∀w,Cb 276 #[Å #[a,b],Å #[c,d]] w (É #[.bool (kt ((a:Int),(b:Int)) ((c:Int),(d:Int))),.nilIface])):=λw=>
  KN ((a:Int),(b:Int)) ((c:Int),(d:Int)) w (pM D E) (pM G H)
 generalize kt ((a:Int),(b:Int)) ((c:Int),(d:Int))=v at *;go_in;go_wp2_with fail;refine ai (A.o _) λI C=>?_
 go_wp2;go_ret;exact⟨rfl,(((Æ _ w).alloc Zl _).alloc (by simp) _).trans (C.mono (by simp;omega))⟩
theorem TU(a b c d:Nat)(R:a<=400000)(S:b<=400000)(U:c<=400000)(V:d<=400000)(w:È):
  Cb 275 #[Å #[a,b],Å #[c,d]] w (Å #[((a+c:Nat):Int),((b+d:Nat):Int)]):=by
 unfold Cb;have C:((a+c:Nat):Int)=(a:Int)+c:=by omega
 have D:((b+d:Nat):Int)=(b:Int)+d:=by omega
 have E:ff (sS ((a:Int),(b:Int)) ((c:Int),(d:Int)))=true:=by
  have:=pM (a:=a+c) (b:=b+d) (by omega) (by omega)
  rw[C,D]at this;exact this
 rw[C,D]
 have G:Hid (∀w,Cb 289 #[Å #[↑a,↑b],Å #[↑c,↑d]] w (É #[Å #[↑((a:Int)+c),↑((b:Int)+d)],.nilIface])):=λw=>
  L4 ((a:Int),(b:Int)) ((c:Int),(d:Int)) w (pM (by omega) (by omega)) (pM (by omega) (by omega)) E
 clear C D E
 generalize(a:Int)+c=v1 at *
 generalize(b:Int)+d=v2 at *
 go_in;go_wp2_with fail;refine ai (G.o _) λN P=>?_
 obtain⟨A,B⟩:=a9 P;have I:w.heap.size+1+1+1<=N.heap.size:=by have:=P.size;simpa using this
 have J:∀O,(N.alloc O).cell? ↑(w.heap.size+1+1)=Ã (À Á 0):=λO=>(((Æ _ N).alloc Zl O).cell (p:=↑(w.heap.size+1+1)) (by simp;omega)).trans ((A _ _ (by simp)).trans (by simp[go_sem]))
 have K:∀O,(N.alloc O).cell? (w.heap.size+1+1,1)=Ã (À Á 0):=λO=>(((Æ _ N).alloc Zl O).cell (p:=(w.heap.size+1+1,1)) (by simp;omega)).trans ((A _ _ (by simp)).trans (by simp[go_sem]))
 have L:∀O,(N.alloc O).frozen? ↑(w.heap.size+1+1)=false:=λO=>(((Æ _ N).alloc Zl O).frozen (p:=↑(w.heap.size+1+1)) (by simp;omega)).trans ((B _ _ (by simp)).trans (by simp[go_sem]))
 have M:∀O,(N.alloc O).frozen? ↑(w.heap.size+1+1,1)=false:=λO=>(((Æ _ N).alloc Zl O).frozen (p:=↑(w.heap.size+1+1,1)) (by simp;omega)).trans ((B _ _ (by simp)).trans (by simp[go_sem]))
 have H:Below w w N:=(wt w _ _ _).trans (P.mono (by simp;omega));clear A B P;go_wp2;exact Ç (v:=Å #[↑v1,↑v2]) (by simp[Ì,Tryz.results275,go_sem,J,K]) rfl ⟨rfl,((H.alloc (by omega) _).setCell (p:=↑(w.heap.size+1+1)) (by simp;omega) _).setCell (p:=↑(w.heap.size+1+1,1)) (by simp;omega) _⟩
theorem lS(w:È)(A B C D):Below w w ((((w.alloc A).alloc B).alloc C).alloc D):=(wt w A B C).alloc (by simp;omega) _
theorem k3{w:È}{b o:Nat}{v}(h:w.cell? (b,o)=Ã v)(A B C):(((w.alloc A).alloc B).alloc C).cell? (b,o)=Ã v:=ka (ka (ka h _) _) _
theorem k4{w:È}{b o:Nat}{v}(h:w.cell? (b,o)=Ã v)(A B C D):((((w.alloc A).alloc B).alloc C).alloc D).cell? (b,o)=Ã v:=ka (k3 h _ _ _) _
theorem vy{w:È}{b o:Nat}{v}(h:w.cell? (b,o)=Ã v)(A B C D):((((w.alloc A).alloc B).alloc C).alloc D).drew.cell? (b,o)=Ã v:=k4 h _ _ _ _
theorem Nk(Z g n W i c:Nat)(tx l en)(nx dp:Nat)(lg)(m:Nat)(w:È)(hi:(i:Int)<n)(r:W<=100)(o:c<=100)(q:tx.size<=20000)
  (c0:w.cell? ⟨Z,0,Â⟩=Ã (Í (Ã ⟨g,0,Â⟩) n n)) (c1:w.cell? ⟨Z,1,Â⟩=Ã (À Á W))
  (b:w.cell? ⟨g,i*7,Â⟩=Ã (À Á 1)) (d:w.cell? ⟨g,i*7+1,Â⟩=Ã (Ê tx)) (e:w.cell? ⟨g,i*7+2,Â⟩=Ã (À Á l)) (f:w.cell? ⟨g,i*7+3,Â⟩=Ã (À Á en)) (h:w.cell? ⟨g,i*7+4,Â⟩=Ã (À Á nx)) (j:w.cell? ⟨g,i*7+5,Â⟩=Ã (À Á dp)) (k:w.cell? ⟨g,i*7+6,Â⟩=Ã (À Á lg)):
  Cb 274 #[Ë (Ã ⟨Z,0,Â⟩),Å #[À Á i,À Á c],À Á m] w (É #[Å #[À Á nx,À Á ((min (c+tx.size) W:Nat):Int)],Å #[À Á ((c+tx.size-W:Nat):Int),À Á 0]]):=by
 unfold Cb;have M:(0:Int)<=(i:Int):=by omega
 have L:=Ä w ⟨Z,0,Â⟩ c0;have E:=Ä w ⟨g,i*7,Â⟩ b;have C:∀X Y,(((w.alloc (.cells #[À Á i,À Á c] 280)).alloc X).alloc Y).cell? ⟨w,0,Â⟩=Ã (À Á i):=λX Y=>by simp[go_sem]
 have D:∀X Y a,((((w.alloc (.cells #[À Á i,À Á c] 280)).alloc X).alloc Y).alloc a).cell? ⟨w,0,Â⟩=Ã (À Á i):=λX Y a=>ka (C X Y) a
 go_in;go_wp2_with fail
 go_region_held3 (λV=>V.cell? ⟨Z,0,Â⟩=Ã (Í (Ã ⟨g,0,Â⟩) n n)/\V.cell? ⟨w,0,Â⟩=Ã (À Á i)/\V.cell? ⟨g,i*7,Â⟩=Ã (À Á 1)/\V.cell? ⟨g,i*7+1,Â⟩=Ã (Ê tx)/\V.cell? ⟨g,i*7+2,Â⟩=Ã (À Á l)/\V.cell? ⟨g,i*7+3,Â⟩=Ã (À Á en)/\V.cell? ⟨g,i*7+4,Â⟩=Ã (À Á nx)/\V.cell? ⟨g,i*7+5,Â⟩=Ã (À Á dp)/\V.cell? ⟨g,i*7+6,Â⟩=Ã (À Á lg))
  (first|exact⟨k3 c0 _ _ _,C _ _,k3 b _ _ _,k3 d _ _ _,k3 e _ _ _,k3 f _ _ _,k3 h _ _ _,k3 j _ _ _,k3 k _ _ _⟩|exact⟨k4 c0 _ _ _ _,D _ _ _,k4 b _ _ _ _,k4 d _ _ _ _,k4 e _ _ _ _,k4 f _ _ _ _,k4 h _ _ _ _,k4 j _ _ _ _,k4 k _ _ _ _⟩) (fail)
 all_goals
  go_wp2_with fail;refine ai (xx Z W nx c tx.size _ r o q (vy c1 _ _ _ _)) λS U=>?_
  obtain⟨A,B⟩:=a9 U;have N:w.heap.size+1+1+1+1<=S.heap.size:=by have:=U.size;simpa using this
  have G:S.cell? ⟨w.heap.size+1,0,Â⟩=Ã (À Á 0):=(A _ _ (by simp)).trans (by simp[go_sem]);have H:S.cell? ⟨w.heap.size+1,1,Â⟩=Ã (À Á 0):=(A _ _ (by simp)).trans (by simp[go_sem]);have I:S.cell? ⟨w.heap.size+1+1,0,Â⟩=Ã (À Á 0):=(A _ _ (by simp)).trans (by simp[go_sem]);have J:S.cell? ⟨w.heap.size+1+1,1,Â⟩=Ã (À Á 0):=(A _ _ (by simp)).trans (by simp[go_sem]);have O:S.frozen? ⟨w.heap.size+1,0,Â⟩=false:=(B _ _ (by simp)).trans (by simp[go_sem]);have P:S.frozen? ⟨w.heap.size+1,1,Â⟩=false:=(B _ _ (by simp)).trans (by simp[go_sem]);have Q:S.frozen? ⟨w.heap.size+1+1,0,Â⟩=false:=(B _ _ (by simp)).trans (by simp[go_sem]);have R:S.frozen? ⟨w.heap.size+1+1,1,Â⟩=false:=(B _ _ (by simp)).trans (by simp[go_sem]);have K:Below w w S:=(lS w _ _ _ _).drew.trans (U.mono (by simp;omega));clear A B U;go_wp2;exact Ç (v:=É #[Å #[À Á nx,À Á ((min (c+tx.size) W:Nat):Int)],Å #[À Á ((c+tx.size-W:Nat):Int),À Á 0]]) (by simp[Ì,Tryz.results274,go_sem,G,H,I,J]) rfl ⟨rfl,(((K.setCell (p:=⟨w.heap.size+1,0,Â⟩) (by simp) _).setCell (p:=⟨w.heap.size+1,1,Â⟩) (by simp) _).setCell (p:=⟨w.heap.size+1+1,0,Â⟩) (by simp;omega) _).setCell (p:=⟨w.heap.size+1+1,1,Â⟩) (by simp;omega) _⟩
theorem Ni(Z g n W i c:Nat)(tx l en)(nx dp:Nat)(lg:Nat)(w:È)(hi:(i:Int)<n)(q:W<=100)(m:c<=100)(o:lg<=20000)
  (c0:w.cell? ⟨Z,0,Â⟩=Ã (Í (Ã ⟨g,0,Â⟩) n n)) (c1:w.cell? ⟨Z,1,Â⟩=Ã (À Á W))
  (b:w.cell? ⟨g,i*7,Â⟩=Ã (À Á 8)) (d:w.cell? ⟨g,i*7+1,Â⟩=Ã (Ê tx)) (e:w.cell? ⟨g,i*7+2,Â⟩=Ã (À Á l)) (f:w.cell? ⟨g,i*7+3,Â⟩=Ã (À Á en)) (h:w.cell? ⟨g,i*7+4,Â⟩=Ã (À Á nx)) (j:w.cell? ⟨g,i*7+5,Â⟩=Ã (À Á dp)) (k:w.cell? ⟨g,i*7+6,Â⟩=Ã (À Á lg)):
  Cb 274 #[Ë (Ã ⟨Z,0,Â⟩),Å #[À Á i,À Á c],À Á 0] w (É #[Å #[À Á nx,À Á ((min (c+lg) W:Nat):Int)],Å #[À Á ((c+lg-W:Nat):Int),À Á 0]]):=by
 unfold Cb;have M:(0:Int)<=(i:Int):=by omega
 have L:=Ä w ⟨Z,0,Â⟩ c0;have E:=Ä w ⟨g,i*7,Â⟩ b;have C:∀X Y,(((w.alloc (.cells #[À Á i,À Á c] 280)).alloc X).alloc Y).cell? ⟨w,0,Â⟩=Ã (À Á i):=λX Y=>by simp[go_sem]
 have D:∀X Y a,((((w.alloc (.cells #[À Á i,À Á c] 280)).alloc X).alloc Y).alloc a).cell? ⟨w,0,Â⟩=Ã (À Á i):=λX Y a=>ka (C X Y) a
 go_in;go_wp2_with fail
 go_region_held3 (λV=>V.cell? ⟨Z,0,Â⟩=Ã (Í (Ã ⟨g,0,Â⟩) n n)/\V.cell? ⟨w,0,Â⟩=Ã (À Á i)/\V.cell? ⟨g,i*7,Â⟩=Ã (À Á 8)/\V.cell? ⟨g,i*7+1,Â⟩=Ã (Ê tx)/\V.cell? ⟨g,i*7+2,Â⟩=Ã (À Á l)/\V.cell? ⟨g,i*7+3,Â⟩=Ã (À Á en)/\V.cell? ⟨g,i*7+4,Â⟩=Ã (À Á nx)/\V.cell? ⟨g,i*7+5,Â⟩=Ã (À Á dp)/\V.cell? ⟨g,i*7+6,Â⟩=Ã (À Á lg))
  (first|exact⟨k3 c0 _ _ _,C _ _,k3 b _ _ _,k3 d _ _ _,k3 e _ _ _,k3 f _ _ _,k3 h _ _ _,k3 j _ _ _,k3 k _ _ _⟩|exact⟨k4 c0 _ _ _ _,D _ _ _,k4 b _ _ _ _,k4 d _ _ _ _,k4 e _ _ _ _,k4 f _ _ _ _,k4 h _ _ _ _,k4 j _ _ _ _,k4 k _ _ _ _⟩) (fail)
 all_goals
  go_wp2_with fail;refine ai (xx Z W nx c lg _ q m o (vy c1 _ _ _ _)) λS U=>?_
  obtain⟨A,B⟩:=a9 U;have N:w.heap.size+1+1+1+1<=S.heap.size:=by have:=U.size;simpa using this
  have G:S.cell? ⟨w.heap.size+1,0,Â⟩=Ã (À Á 0):=(A _ _ (by simp)).trans (by simp[go_sem]);have H:S.cell? ⟨w.heap.size+1,1,Â⟩=Ã (À Á 0):=(A _ _ (by simp)).trans (by simp[go_sem]);have I:S.cell? ⟨w.heap.size+1+1,0,Â⟩=Ã (À Á 0):=(A _ _ (by simp)).trans (by simp[go_sem]);have J:S.cell? ⟨w.heap.size+1+1,1,Â⟩=Ã (À Á 0):=(A _ _ (by simp)).trans (by simp[go_sem]);have O:S.frozen? ⟨w.heap.size+1,0,Â⟩=false:=(B _ _ (by simp)).trans (by simp[go_sem]);have P:S.frozen? ⟨w.heap.size+1,1,Â⟩=false:=(B _ _ (by simp)).trans (by simp[go_sem]);have Q:S.frozen? ⟨w.heap.size+1+1,0,Â⟩=false:=(B _ _ (by simp)).trans (by simp[go_sem]);have R:S.frozen? ⟨w.heap.size+1+1,1,Â⟩=false:=(B _ _ (by simp)).trans (by simp[go_sem]);have K:Below w w S:=(lS w _ _ _ _).drew.trans (U.mono (by simp;omega));clear A B U;go_wp2;exact Ç (v:=É #[Å #[À Á nx,À Á ((min (c+lg) W:Nat):Int)],Å #[À Á ((c+lg-W:Nat):Int),À Á 0]]) (by simp[Ì,Tryz.results274,go_sem,G,H,I,J]) rfl ⟨rfl,(((K.setCell (p:=⟨w.heap.size+1,0,Â⟩) (by simp) _).setCell (p:=⟨w.heap.size+1,1,Â⟩) (by simp) _).setCell (p:=⟨w.heap.size+1+1,0,Â⟩) (by simp;omega) _).setCell (p:=⟨w.heap.size+1+1,1,Â⟩) (by simp;omega) _⟩
