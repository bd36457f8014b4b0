/- The law RunAnswers of package pargetrylaw2 answers true at every text: run.Run answers it, line by line, as the document does (where no statement of it has too many ways, as the law says). Its conditions: the listed package variables (errors.errorType, and Go's own strings.asciiSpace, internal/strconv.uint64pow10, math/bits.deBruijn32tab and deBruijn64tab, unicode/utf8.acceptRanges and first, unicode.White_Space, strconv.ErrRange and ErrSyntax) read as the program's text lays them, and the card ties that to the text. -/
import Derived.Test.YtelcnplcpboonaaGreatDoorTie
import Derived.Test.YtelcnplcpboonaaGreatDoorPe03
import Derived.Test.YtelcnplcpboonaaGreatDoorPe49
import Derived.OpenShut
open Go.Proofs.Tryz
namespace Go.Proofs.YtelcnplcpboonaaGreatDoor
open Go.ChangeShapes Go.WideShapes Go.ChangeAt Go.RowKit Go.Joins
open Go.WideMaps Go.WideElems
open Go.ChangeMaps (open_string shut_string)
set_option maxRecDepth 100000
theorem lifted(os)(A:os.Started)(H)(enc:TypeId × Value->H):
  ReturnsInHanded {} Tryz.checked os 3 .any (λw a=>(Rows.runAnswersSpec.pre enc prog Tryz.f3 [] false w a/\laidMetH prog Rows.runAnswersRow.laid w)/\sizedMet enc prog Tryz.f3 (OpenSpec.ofChange Rows.runAnswersSpec) false w a)
   (Rows.runAnswersSpec.post enc prog Tryz.f3 false true false false):=by
 refine returnsInHanded_of_change_and (C:=Tryz.checked) (X:=λw _=>laidMetH prog Rows.runAnswersRow.laid w) (λ_ _ _ k h=>h.of_heap k) Tryz.own A (by kernel_rfl) func3
  (ChangeSpec.witness_shaped (enc:=enc) (C:=Tryz.checked) (os:=os) (X:=λw _=>laidMetH prog Rows.runAnswersRow.laid w) false (qF prog os) #[.string ByteArray.empty] 8 (World.layVars_os _ _ _) (SZ os _) (by kernel_rfl) (by kernel_rfl) (by kernel_rfl) (LH os _)) ?_
 intro W M args c d I D O _ G S _;have L:=G;have B:=D;have E:=O;obtain⟨p,q,J,U,rfl,_,_⟩:=O;have N:=J;rw[Tryz.params3]at N B L;obtain⟨P,Z,b,Q,f,g,K,rfl,rfl,R,V⟩:=trodAll_cons N;obtain⟨rfl,rfl,rfl⟩:=trodAll_nil V;obtain rfl:args=#[P]:=by cases args;simp_all
 obtain⟨rfl,rfl⟩:=trodVars_none U;obtain⟨Y,rfl,rfl,rfl,a⟩:=open_string Tryz.underlying9 (B 0 9 P rfl rfl) R;simp only[List.append_nil]at E;refine(Wc Vj Vg Y W (LI S)).mono λe l⟨j,i⟩=>?_
 subst j;refine⟨_,rfl,_,_,_,[],[]++[],[],E,?_,?_,rfl,i.frame _,λh=>by cases h⟩
 .exact trodAll_cons_mk (shut_bool Tryz.underlying4 _) trodAll_mk0
 .exact trodAll_cons_mk (shut_string Tryz.underlying9 a) trodAll_mk0
theorem ON:(Rows.runAnswersRow.inPlace==Program.inPlace Tryz.pinned.checked.prog 3)=true:=by kernel_rfl
theorem OO:(Rows.runAnswersRow.unfollowed==Program.unfollowed Tryz.pinned.checked.prog 3)=true:=by kernel_rfl
theorem OP:(Rows.runAnswersRow.recurses==Program.recurses Tryz.pinned.checked.prog 3)=true:=by kernel_rfl
theorem OQ:(Rows.runAnswersRow.named==Program.varsNamed Tryz.pinned.checked.prog 3)=true:=by kernel_rfl
theorem OR:(Rows.runAnswersRow.lifted==Program.liftsFinal Tryz.pinned.checked.prog)=true:=by kernel_rfl
theorem OS:(Program.make Tryz.pinned.checked.prog==some Rows.runAnswersRow.make)=true:=by kernel_rfl
theorem V4:joinedFacts Tryz.pinned.checked.prog 3 Tryz.f3 Rows.runAnswersSpec Rows.runAnswersRow=true:=Ud Q2 Q3 Q4 QZ ON OO OP OQ OR OS (by kernel_rfl) (by kernel_rfl) (by kernel_rfl) (by kernel_rfl)
theorem V9:Rows.RunAnswersSaid:=
 OpenClaim.holds_of_wide 3 Tryz.f3 rfl rfl rfl rfl rfl rfl rfl ⟨rfl,rfl,rfl,rfl,rfl⟩ rfl rfl rfl rfl rfl (by kernel_rfl) func3 V4
  (of_decide_eq_true (by kernel_rfl)) (by unfold Func.isWrapper;first|(rw[if_pos (by decide +kernel)];kernel_rfl)|(rw[if_neg (by decide +kernel)];exact⟨rfl,rfl⟩))
  (λC A H B _=>lifted C A H B)
theorem OU:OpenClaim.wfByText (OpenSpec.ofChange Rows.runAnswersSpec) Rows.runAnswersRow=true:=by kernel_rfl
theorem V7:Program.mainIs Tryz.pinned.checked.prog=some (Rows.runAnswersCard.stood.harness.1,Rows.runAnswersCard.stood.harness.2.toList):=by kernel_rfl
theorem V8:Program.funcNamed prog Rows.runAnswersRow.func=some 3:=by kernel_rfl
theorem V6:false=Rows.runAnswersRow.goesBy Tryz.pinned.checked.prog:=by kernel_rfl
theorem OT:Program.wantsStandIn prog 9=false:=by kernel_rfl
theorem runAnswers_holds:Rows.RunAnswersCardSaid:=
 Claim7.holds_tied_plain_at .later [] _ _ _ _ V9 (λ_ h=>by cases h) OU (λ_ h=>by cases h) runAnswers_row_tie rfl ⟨rfl,rfl⟩ V7 rfl
  (λf fn D A=>by
   obtain rfl:f=3:=(Option.some.inj (V8.symm.trans D)).symm;obtain rfl:fn=Tryz.f3:=(Option.some.inj (func3.symm.trans A)).symm;refine⟨Q1,λj t B=>?_⟩;rw[Tryz.params3]at B
   have C:t=9:=by
    have:=Array.mem_of_getElem? B
    simp at this
    first|omega|(rcases this with h|h|h<;>simp[h])|(rcases this with h|h<;>simp[h])
   rcases C with rfl
   .exact OT)
  V6
#print axioms runAnswers_holds
