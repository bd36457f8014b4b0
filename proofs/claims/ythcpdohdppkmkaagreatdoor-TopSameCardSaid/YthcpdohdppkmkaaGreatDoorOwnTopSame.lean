/- The law TopSame of package pargetrytop answers true at every text and all widths: a formatted text is the same program, is found to be so, and is the same however the text stood: with each word in a line of its own, printed, or formatted at another width ahead. Its conditions: the listed package variables (Go's own strings.asciiSpace, internal/strconv.uint64pow10, math/bits.deBruijn32tab and deBruijn64tab, unicode/utf8.acceptRanges and first, unicode.White_Space, strconv.ErrRange and ErrSyntax) read as the program's text lays them, and the card ties that to the text. -/
import Derived.Test.YthcpdohdppkmkaaGreatDoorTie
import Derived.Test.YthcpdohdppkmkaaGreatDoorPu44
import Derived.OpenShut
open Go.Proofs.Tryz
namespace Go.Proofs.YthcpdohdppkmkaaGreatDoor
open Go.ChangeShapes Go.WideShapes Go.ChangeAt Go.RowKit Go.Joins
open Go.WideMaps Go.WideElems
open Go.ChangeMaps (open_string shut_string)
set_option maxRecDepth 100000
theorem lifted(os:Os)(started:os.Started)(H:Type)(enc:TypeId × Value->H):
  ReturnsInHanded {} Tryz.checked os 4 .any (fun w args=>(Rows.topSameSpec.pre enc prog Tryz.f4 [] false w args/\laidMetH prog Rows.topSameRow.laid w)/\sizedMet enc prog Tryz.f4 (OpenSpec.ofChange Rows.topSameSpec) false w args)
   (Rows.topSameSpec.post enc prog Tryz.f4 false true false false):=by
 refine returnsInHanded_of_change_and (C:=Tryz.checked) (X:=fun w _=>laidMetH prog Rows.topSameRow.laid w) (fun _ _ _ hh h=>h.of_heap hh) Tryz.own started (by kernel_rfl) func4
  (ChangeSpec.witness_shaped (enc:=enc) (C:=Tryz.checked) (os:=os) (X:=fun w _=>laidMetH prog Rows.topSameRow.laid w) false (q4a prog os) #[.string ByteArray.empty,.int .i64 0,.int .i64 0] 8 (World.layVars_os _ _ _) (q8b os _) (by kernel_rfl) (by kernel_rfl) (by kernel_rfl) (z8r os _)) ?_
 intro W base args ds gs before hval0 hW _ hsz0 hL _;have hsz:(DataW.weightsEach prog (Tryz.f4.params.toList++Rows.topSameSpec.plain.varTypes prog) (ds++gs)).all (·<=reachBytes)=true:=hsz0;clear hsz0;have hval:∀(j:Nat)t v,Tryz.f4.params[j]?=some t->args[j]?=some v->Value.okWide prog W .any base t v:=hval0;have hW':=hW;obtain⟨p,q,hA0,hV,rfl,_,_⟩:=hW;have hA:DataW.TrodAll enc prog W 0 (fun _=>true) true Tryz.f4.params.toList args.toList ds p:=hA0;rw[Tryz.params4]at hA hval hsz;obtain⟨v0,vs0,d0,ds0,p0,q0,hargs,rfl,rfl,h0,r0⟩:=trodAll_cons hA;obtain⟨v1,vs1,d1,ds1,p1,q1,rfl,rfl,rfl,h1,r1⟩:=trodAll_cons r0;obtain⟨v2,vs2,d2,ds2,p2,q2,rfl,rfl,rfl,h2,r2⟩:=trodAll_cons r1;obtain⟨rfl,rfl,rfl⟩:=trodAll_nil r2;obtain rfl:args=#[v0,v1,v2]:=by cases args;simp_all
 obtain⟨rfl,rfl⟩:=trodVars_none hV;obtain⟨s0,rfl,rfl,rfl,w0⟩:=open_string Tryz.underlying9 (hval 0 9 v0 rfl rfl) h0;obtain⟨i1,rfl,rfl,rfl,w1⟩:=open_int Tryz.underlying3 (hval 1 3 v1 rfl rfl) h1;obtain⟨i2,rfl,rfl,rfl,w2⟩:=open_int Tryz.underlying3 (hval 2 3 v2 rfl rfl) h2;clear hA0 hval0;simp only[List.append_nil]at hW';refine(k8h z9h s0 i1 i2 W (z3q hL)).mono fun e W'⟨he,hnx⟩=>?_
 subst he;refine⟨_,rfl,_,_,_,[],[]++([]++([]++[])),[],hW',?_,?_,rfl,hnx.frame _,fun h=>by cases h⟩
 ·exact trodAll_cons_mk (shut_bool Tryz.underlying4 _) trodAll_mk0
 ·exact trodAll_cons_mk (shut_string Tryz.underlying9 w0) (trodAll_cons_mk (shut_int Tryz.underlying3 w1) (trodAll_cons_mk (shut_int Tryz.underlying3 w2) trodAll_mk0))
theorem j4c:(Rows.topSameRow.inPlace==Program.inPlace Tryz.pinned.checked.prog 4)=true:=by kernel_rfl
theorem j4d:(Rows.topSameRow.unfollowed==Program.unfollowed Tryz.pinned.checked.prog 4)=true:=by kernel_rfl
theorem j4e:(Rows.topSameRow.recurses==Program.recurses Tryz.pinned.checked.prog 4)=true:=by kernel_rfl
theorem j4f:(Rows.topSameRow.named==Program.varsNamed Tryz.pinned.checked.prog 4)=true:=by kernel_rfl
theorem j4g:(Rows.topSameRow.lifted==Program.liftsFinal Tryz.pinned.checked.prog)=true:=by kernel_rfl
theorem j4h:(Program.make Tryz.pinned.checked.prog==some Rows.topSameRow.make)=true:=by kernel_rfl
theorem k0z:joinedFacts Tryz.pinned.checked.prog 4 Tryz.f4 Rows.topSameSpec Rows.topSameRow=true:=z0j g0k g0l g0m g0i j4c j4d j4e j4f j4g j4h (by kernel_rfl) (by kernel_rfl) (by kernel_rfl) (by kernel_rfl)
theorem k4s:Rows.TopSameSaid:=
 OpenClaim.holds_of_wide 4 Tryz.f4 rfl rfl rfl rfl rfl rfl rfl ⟨rfl,rfl,rfl,rfl,rfl⟩ rfl rfl rfl rfl rfl (by kernel_rfl) func4 k0z
  (of_decide_eq_true (by kernel_rfl)) (by unfold Func.isWrapper;first|(rw[if_pos (by decide +kernel)];kernel_rfl)|(rw[if_neg (by decide +kernel)];exact⟨rfl,rfl⟩))
  (fun os started H enc _=>lifted os started H enc)
theorem j4k:OpenClaim.wfByText (OpenSpec.ofChange Rows.topSameSpec) Rows.topSameRow=true:=by kernel_rfl
theorem k4q:Program.mainIs Tryz.pinned.checked.prog=some (Rows.topSameCard.stood.harness.1,Rows.topSameCard.stood.harness.2.toList):=by kernel_rfl
theorem k4r:Program.funcNamed prog Rows.topSameRow.func=some 4:=by kernel_rfl
theorem k4p:false=Rows.topSameRow.goesBy Tryz.pinned.checked.prog:=by kernel_rfl
theorem j4i:Program.wantsStandIn prog 9=false:=by kernel_rfl
theorem j4j:Program.wantsStandIn prog 3=false:=by kernel_rfl
theorem topSame_holds:Rows.TopSameCardSaid:=
 Claim7.holds_tied_plain_at .later [] _ _ _ _ k4s (fun _ h=>by cases h) j4k (fun _ h=>by cases h) topSame_row_tie rfl ⟨rfl,rfl⟩ k4q rfl
  (fun f fn hf hfn=>by
   obtain rfl:f=4:=(Option.some.inj (k4r.symm.trans hf)).symm;obtain rfl:fn=Tryz.f4:=(Option.some.inj (func4.symm.trans hfn)).symm;refine⟨g0j,fun j t ht=>?_⟩;rw[Tryz.params4]at ht
   have h4:t=9\/t=3:=by
    have:=Array.mem_of_getElem? ht
    simp at this
    first|omega|(rcases this with h|h|h<;>simp[h])|(rcases this with h|h<;>simp[h])
   rcases h4 with rfl|rfl
   ·exact j4i
   ·exact j4j)
  k4p
#print axioms topSame_holds
end Go.Proofs.YthcpdohdppkmkaaGreatDoor
