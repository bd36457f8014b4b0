/- The law RunBegins of package pargetrylaw2 answers true at every text and every number: run.Run's answers to so many first lines are the beginning of its answers to all, as far as the text is not too long. Its conditions: the listed package variables (errors.errorType, and Go's own strings.asciiSpace, internal/strconv.uint64pow10, math/bits.deBruijn32tab and deBruijn64tab, unicode/utf8.acceptRanges and first, unicode.White_Space, strconv.ErrRange and ErrSyntax) read as the program's text lays them, and the card ties that to the text. -/
import Derived.Test.YtelcnplcpboonaaGreatDoorTie
import Derived.Test.YtelcnplcpboonaaGreatDoorPb03
import Derived.Test.YtelcnplcpboonaaGreatDoorPb46
import Derived.OpenShut
open Go.Proofs.Tryz
namespace Go.Proofs.YtelcnplcpboonaaGreatDoor
open Go.ChangeShapes Go.WideShapes Go.ChangeAt Go.RowKit Go.Joins
open Go.WideMaps Go.WideElems
open Go.ChangeMaps (open_string shut_string)
set_option maxRecDepth 100000
theorem lifted(os:Os)(D:os.Started)(H:Type)(enc:TypeId × Value->H):
  ReturnsInHanded {} Tryz.checked os 4 .any (fun w args=>(Rows.runBeginsSpec.pre enc prog Tryz.f4 [] false w args/\laidMetH prog Rows.runBeginsRow.laid w)/\sizedMet enc prog Tryz.f4 (OpenSpec.ofChange Rows.runBeginsSpec) false w args)
   (Rows.runBeginsSpec.post enc prog Tryz.f4 false true false false):=by
 refine returnsInHanded_of_change_and (C:=Tryz.checked) (X:=fun w _=>laidMetH prog Rows.runBeginsRow.laid w) (fun _ _ _ hh h=>h.of_heap hh) Tryz.own D (by kernel_rfl) func4
  (ChangeSpec.witness_shaped (enc:=enc) (C:=Tryz.checked) (os:=os) (X:=fun w _=>laidMetH prog Rows.runBeginsRow.laid w) false (q9l prog os) #[.string ByteArray.empty,.int .i64 0] 8 (World.layVars_os _ _ _) (j7u os _) (by kernel_rfl) (by kernel_rfl) (by kernel_rfl) (y2q os _)) ?_
 intro W G args N Z K B P _ E c _;have M:(DataW.weightsEach prog (Tryz.f4.params.toList++Rows.runBeginsSpec.plain.varTypes prog) (N++Z)).all (·<=reachBytes)=true:=E;clear E;have A:∀(j:Nat)t v,Tryz.f4.params[j]?=some t->args[j]?=some v->Value.okWide prog W .any G t v:=B;have J:=P;obtain⟨p,q,I,d,rfl,_,_⟩:=P;have O:DataW.TrodAll enc prog W 0 (fun _=>true) true Tryz.f4.params.toList args.toList N p:=I;rw[Tryz.params4]at O A M;obtain⟨Q,l,n,V,r,u,L,rfl,rfl,a,g⟩:=trodAll_cons O;obtain⟨R,m,o,Y,s,x,rfl,rfl,rfl,b,i⟩:=trodAll_cons g;obtain⟨rfl,rfl,rfl⟩:=trodAll_nil i;obtain rfl:args=#[Q,R]:=by cases args;simp_all
 obtain⟨rfl,rfl⟩:=trodVars_none d;obtain⟨k,rfl,rfl,rfl,S⟩:=open_string Tryz.underlying9 (A 0 9 Q rfl rfl) a;obtain⟨f,rfl,rfl,rfl,U⟩:=open_int Tryz.underlying3 (A 1 3 R rfl rfl) b;clear I B;simp only[List.append_nil]at J;refine(z7u v3x k f (by have:=S;unfold maxLen at this;omega) (k3q U) W (y2r c)).mono fun e W'⟨he,hnx⟩=>?_
 subst he;refine⟨_,rfl,_,_,_,[],[]++([]++[]),[],J,?_,?_,rfl,hnx.frame _,fun h=>by cases h⟩
 ·exact trodAll_cons_mk (shut_bool Tryz.underlying4 _) trodAll_mk0
 ·exact trodAll_cons_mk (shut_string Tryz.underlying9 S) (trodAll_cons_mk (shut_int Tryz.underlying3 U) trodAll_mk0)
theorem k0n:(Rows.runBeginsRow.inPlace==Program.inPlace Tryz.pinned.checked.prog 4)=true:=by kernel_rfl
theorem k0o:(Rows.runBeginsRow.unfollowed==Program.unfollowed Tryz.pinned.checked.prog 4)=true:=by kernel_rfl
theorem k0p:(Rows.runBeginsRow.recurses==Program.recurses Tryz.pinned.checked.prog 4)=true:=by kernel_rfl
theorem k0q:(Rows.runBeginsRow.named==Program.varsNamed Tryz.pinned.checked.prog 4)=true:=by kernel_rfl
theorem k0r:(Rows.runBeginsRow.lifted==Program.liftsFinal Tryz.pinned.checked.prog)=true:=by kernel_rfl
theorem k0s:(Program.make Tryz.pinned.checked.prog==some Rows.runBeginsRow.make)=true:=by kernel_rfl
theorem z3p:joinedFacts Tryz.pinned.checked.prog 4 Tryz.f4 Rows.runBeginsSpec Rows.runBeginsRow=true:=v1n g0b g0c g0d y9z k0n k0o k0p k0q k0r k0s (by kernel_rfl) (by kernel_rfl) (by kernel_rfl) (by kernel_rfl)
theorem z4s:Rows.RunBeginsSaid:=
 OpenClaim.holds_of_wide 4 Tryz.f4 rfl rfl rfl rfl rfl rfl rfl ⟨rfl,rfl,rfl,rfl,rfl⟩ rfl rfl rfl rfl rfl (by kernel_rfl) func4 z3p
  (of_decide_eq_true (by kernel_rfl)) (by unfold Func.isWrapper;first|(rw[if_pos (by decide +kernel)];kernel_rfl)|(rw[if_neg (by decide +kernel)];exact⟨rfl,rfl⟩))
  (fun os started H enc _=>lifted os started H enc)
theorem k0v:OpenClaim.wfByText (OpenSpec.ofChange Rows.runBeginsSpec) Rows.runBeginsRow=true:=by kernel_rfl
theorem z4q:Program.mainIs Tryz.pinned.checked.prog=some (Rows.runBeginsCard.stood.harness.1,Rows.runBeginsCard.stood.harness.2.toList):=by kernel_rfl
theorem z4r:Program.funcNamed prog Rows.runBeginsRow.func=some 4:=by kernel_rfl
theorem z4p:false=Rows.runBeginsRow.goesBy Tryz.pinned.checked.prog:=by kernel_rfl
theorem k0t:Program.wantsStandIn prog 9=false:=by kernel_rfl
theorem k0u:Program.wantsStandIn prog 3=false:=by kernel_rfl
theorem runBegins_holds:Rows.RunBeginsCardSaid:=
 Claim7.holds_tied_plain_at .later [] _ _ _ _ z4s (fun _ h=>by cases h) k0v (fun _ h=>by cases h) runBegins_row_tie rfl ⟨rfl,rfl⟩ z4q rfl
  (fun f fn hf hfn=>by
   obtain rfl:f=4:=(Option.some.inj (z4r.symm.trans hf)).symm;obtain rfl:fn=Tryz.f4:=(Option.some.inj (func4.symm.trans hfn)).symm;refine⟨g0a,fun j t ht=>?_⟩;rw[Tryz.params4]at ht
   have h4:t=9\/t=3:=by
    have:=Array.mem_of_getElem? ht
    simp at this
    first|omega|(rcases this with h|h|h<;>simp[h])|(rcases this with h|h<;>simp[h])
   rcases h4 with rfl|rfl
   ·exact k0t
   ·exact k0u)
  z4p
#print axioms runBegins_holds
end Go.Proofs.YtelcnplcpboonaaGreatDoor
