/- The law TopParts of package pargetrytop answers true at any two texts and every width: a program's lines are its statements' lines, one behind the other; a desk that had any other program has them, too; a program behind another one is both, if no note stands between. Its conditions: the listed package variables (errors.errorType, and Go's own strings.asciiSpace, internal/strconv.uint64pow10, math/bits.deBruijn32tab and deBruijn64tab, unicode/utf8.acceptRanges and first, unicode.White_Space, strconv.ErrRange and ErrSyntax) read as the program's text lays them, and the card ties that to the text. -/
import Derived.Test.YthcpdohdppkmkaaGreatDoorTie
import Derived.Test.YthcpdohdppkmkaaGreatDoorPu48
import Derived.OpenShut
open Go.Proofs.Tryz
namespace Go.Proofs.YthcpdohdppkmkaaGreatDoor
open Go.ChangeShapes Go.WideShapes Go.ChangeAt Go.RowKit Go.Joins
open Go.WideMaps Go.WideElems
open Go.ChangeMaps (open_string shut_string)
set_option maxRecDepth 100000
theorem lifted(os:Os)(started:os.Started)(H:Type)(enc:TypeId × Value->H):
  ReturnsInHanded {} Tryz.checked os 6 .any (fun w args=>(Rows.topPartsSpec.pre enc prog Tryz.f6 [] false w args/\laidMetH prog Rows.topPartsRow.laid w)/\sizedMet enc prog Tryz.f6 (OpenSpec.ofChange Rows.topPartsSpec) false w args)
   (Rows.topPartsSpec.post enc prog Tryz.f6 false true false false):=by
 refine returnsInHanded_of_change_and (C:=Tryz.checked) (X:=fun w _=>laidMetH prog Rows.topPartsRow.laid w) (fun _ _ _ hh h=>h.of_heap hh) Tryz.own started (by kernel_rfl) func6
  (ChangeSpec.witness_shaped (enc:=enc) (C:=Tryz.checked) (os:=os) (X:=fun w _=>laidMetH prog Rows.topPartsRow.laid w) false (q4a prog os) #[.string ByteArray.empty,.string ByteArray.empty,.int .i64 0] 8 (World.layVars_os _ _ _) (q8b os _) (by kernel_rfl) (by kernel_rfl) (by kernel_rfl) (v2p os _)) ?_
 intro W base args ds gs before hval0 hW _ hsz0 hL _;have hsz:(DataW.weightsEach prog (Tryz.f6.params.toList++Rows.topPartsSpec.plain.varTypes prog) (ds++gs)).all (·<=reachBytes)=true:=hsz0;clear hsz0;have hval:∀(j:Nat)t v,Tryz.f6.params[j]?=some t->args[j]?=some v->Value.okWide prog W .any base t v:=hval0;have hW':=hW;obtain⟨p,q,hA0,hV,rfl,_,_⟩:=hW;have hA:DataW.TrodAll enc prog W 0 (fun _=>true) true Tryz.f6.params.toList args.toList ds p:=hA0;rw[Tryz.params6]at hA hval hsz;obtain⟨v0,vs0,d0,ds0,p0,q0,hargs,rfl,rfl,h0,r0⟩:=trodAll_cons hA;obtain⟨v1,vs1,d1,ds1,p1,q1,rfl,rfl,rfl,h1,r1⟩:=trodAll_cons r0;obtain⟨v2,vs2,d2,ds2,p2,q2,rfl,rfl,rfl,h2,r2⟩:=trodAll_cons r1;obtain⟨rfl,rfl,rfl⟩:=trodAll_nil r2;obtain rfl:args=#[v0,v1,v2]:=by cases args;simp_all
 obtain⟨rfl,rfl⟩:=trodVars_none hV;obtain⟨s0,rfl,rfl,rfl,w0⟩:=open_string Tryz.underlying9 (hval 0 9 v0 rfl rfl) h0;obtain⟨s1,rfl,rfl,rfl,w1⟩:=open_string Tryz.underlying9 (hval 1 9 v1 rfl rfl) h1;obtain⟨i2,rfl,rfl,rfl,w2⟩:=open_int Tryz.underlying3 (hval 2 3 v2 rfl rfl) h2;clear hA0 hval0;simp only[List.append_nil]at hW';refine(k4o z9h z5o s0 s1 i2 W (j3x hL) (v9v hL)).mono fun e W'⟨he,hnx⟩=>?_
 subst he;refine⟨_,rfl,_,_,_,[],[]++([]++([]++[])),[],hW',?_,?_,rfl,hnx.frame _,fun h=>by cases h⟩
 ·exact trodAll_cons_mk (shut_bool Tryz.underlying4 _) trodAll_mk0
 ·exact trodAll_cons_mk (shut_string Tryz.underlying9 w0) (trodAll_cons_mk (shut_string Tryz.underlying9 w1) (trodAll_cons_mk (shut_int Tryz.underlying3 w2) trodAll_mk0))
theorem k7y:(Rows.topPartsRow.inPlace==Program.inPlace Tryz.pinned.checked.prog 6)=true:=by kernel_rfl
theorem k7z:(Rows.topPartsRow.unfollowed==Program.unfollowed Tryz.pinned.checked.prog 6)=true:=by kernel_rfl
theorem k8a:(Rows.topPartsRow.recurses==Program.recurses Tryz.pinned.checked.prog 6)=true:=by kernel_rfl
theorem k8b:(Rows.topPartsRow.named==Program.varsNamed Tryz.pinned.checked.prog 6)=true:=by kernel_rfl
theorem k8c:(Rows.topPartsRow.lifted==Program.liftsFinal Tryz.pinned.checked.prog)=true:=by kernel_rfl
theorem k8d:(Program.make Tryz.pinned.checked.prog==some Rows.topPartsRow.make)=true:=by kernel_rfl
theorem z6v:joinedFacts Tryz.pinned.checked.prog 6 Tryz.f6 Rows.topPartsSpec Rows.topPartsRow=true:=z0j g0k g0l g0m g0i k7y k7z k8a k8b k8c k8d (by kernel_rfl) (by kernel_rfl) (by kernel_rfl) (by kernel_rfl)
theorem k0y:Rows.TopPartsSaid:=
 OpenClaim.holds_of_wide 6 Tryz.f6 rfl rfl rfl rfl rfl rfl rfl ⟨rfl,rfl,rfl,rfl,rfl⟩ rfl rfl rfl rfl rfl (by kernel_rfl) func6 z6v
  (of_decide_eq_true (by kernel_rfl)) (by unfold Func.isWrapper;first|(rw[if_pos (by decide +kernel)];kernel_rfl)|(rw[if_neg (by decide +kernel)];exact⟨rfl,rfl⟩))
  (fun os started H enc _=>lifted os started H enc)
theorem k8g:OpenClaim.wfByText (OpenSpec.ofChange Rows.topPartsSpec) Rows.topPartsRow=true:=by kernel_rfl
theorem k0w:Program.mainIs Tryz.pinned.checked.prog=some (Rows.topPartsCard.stood.harness.1,Rows.topPartsCard.stood.harness.2.toList):=by kernel_rfl
theorem k0x:Program.funcNamed prog Rows.topPartsRow.func=some 6:=by kernel_rfl
theorem k0v:false=Rows.topPartsRow.goesBy Tryz.pinned.checked.prog:=by kernel_rfl
theorem k8e:Program.wantsStandIn prog 9=false:=by kernel_rfl
theorem k8f:Program.wantsStandIn prog 3=false:=by kernel_rfl
theorem topParts_holds:Rows.TopPartsCardSaid:=
 Claim7.holds_tied_plain_at .later [] _ _ _ _ k0y (fun _ h=>by cases h) k8g (fun _ h=>by cases h) topParts_row_tie rfl ⟨rfl,rfl⟩ k0w rfl
  (fun f fn hf hfn=>by
   obtain rfl:f=6:=(Option.some.inj (k0x.symm.trans hf)).symm;obtain rfl:fn=Tryz.f6:=(Option.some.inj (func6.symm.trans hfn)).symm;refine⟨g0j,fun j t ht=>?_⟩;rw[Tryz.params6]at ht
   have h4:t=9\/t=3:=by
    have:=Array.mem_of_getElem? ht
    simp at this
    first|omega|(rcases this with h|h|h<;>simp[h])|(rcases this with h|h<;>simp[h])
   rcases h4 with rfl|rfl
   ·exact k8e
   ·exact k8f)
  k0v
#print axioms topParts_holds
end Go.Proofs.YthcpdohdppkmkaaGreatDoor
