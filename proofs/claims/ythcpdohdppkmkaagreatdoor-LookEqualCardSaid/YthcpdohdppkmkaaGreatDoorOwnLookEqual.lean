/- The law LookEqual of package pargetrylaw2 answers true at any three texts: by look.Same each text is the same as itself, two the one way round as the other, and two that are the same as a third one are the same. Its conditions: the listed package variables (Go's own strings.asciiSpace, internal/strconv.uint64pow10, math/bits.deBruijn32tab and deBruijn64tab, unicode/utf8.acceptRanges and first, unicode.White_Space, strconv.ErrRange and ErrSyntax) read as the program's text lays them, and the card ties that to the text. -/
import Derived.Test.YthcpdohdppkmkaaGreatDoorTie
import Derived.Test.YthcpdohdppkmkaaGreatDoorPu40
import Derived.OpenShut
open Go.Proofs.Tryz
namespace Go.Proofs.YthcpdohdppkmkaaGreatDoor
open Go.ChangeShapes Go.WideShapes Go.ChangeAt Go.RowKit Go.Joins
open Go.WideMaps Go.WideElems
open Go.ChangeMaps (open_string shut_string)
set_option maxRecDepth 100000
theorem lifted(os:Os)(started:os.Started)(H:Type)(enc:TypeId × Value->H):
  ReturnsInHanded {} Tryz.checked os 8 .any (fun w args=>(Rows.lookEqualSpec.pre enc prog Tryz.f8 [] false w args/\laidMetH prog Rows.lookEqualRow.laid w)/\sizedMet enc prog Tryz.f8 (OpenSpec.ofChange Rows.lookEqualSpec) false w args)
   (Rows.lookEqualSpec.post enc prog Tryz.f8 false true false false):=by
 refine returnsInHanded_of_change_and (C:=Tryz.checked) (X:=fun w _=>laidMetH prog Rows.lookEqualRow.laid w) (fun _ _ _ hh h=>h.of_heap hh) Tryz.own started (by kernel_rfl) func8
  (ChangeSpec.witness_shaped (enc:=enc) (C:=Tryz.checked) (os:=os) (X:=fun w _=>laidMetH prog Rows.lookEqualRow.laid w) false (q4a prog os) #[.string ByteArray.empty,.string ByteArray.empty,.string ByteArray.empty] 8 (World.layVars_os _ _ _) (q8b os _) (by kernel_rfl) (by kernel_rfl) (by kernel_rfl) (z8r os _)) ?_
 intro W base args ds gs before hval0 hW _ hsz0 hL _;have hsz:(DataW.weightsEach prog (Tryz.f8.params.toList++Rows.lookEqualSpec.plain.varTypes prog) (ds++gs)).all (·<=reachBytes)=true:=hsz0;clear hsz0;have hval:∀(j:Nat)t v,Tryz.f8.params[j]?=some t->args[j]?=some v->Value.okWide prog W .any base t v:=hval0;have hW':=hW;obtain⟨p,q,hA0,hV,rfl,_,_⟩:=hW;have hA:DataW.TrodAll enc prog W 0 (fun _=>true) true Tryz.f8.params.toList args.toList ds p:=hA0;rw[Tryz.params8]at hA hval hsz;obtain⟨v0,vs0,d0,ds0,p0,q0,hargs,rfl,rfl,h0,r0⟩:=trodAll_cons hA;obtain⟨v1,vs1,d1,ds1,p1,q1,rfl,rfl,rfl,h1,r1⟩:=trodAll_cons r0;obtain⟨v2,vs2,d2,ds2,p2,q2,rfl,rfl,rfl,h2,r2⟩:=trodAll_cons r1;obtain⟨rfl,rfl,rfl⟩:=trodAll_nil r2;obtain rfl:args=#[v0,v1,v2]:=by cases args;simp_all
 obtain⟨rfl,rfl⟩:=trodVars_none hV;obtain⟨s0,rfl,rfl,rfl,w0⟩:=open_string Tryz.underlying9 (hval 0 9 v0 rfl rfl) h0;obtain⟨s1,rfl,rfl,rfl,w1⟩:=open_string Tryz.underlying9 (hval 1 9 v1 rfl rfl) h1;obtain⟨s2,rfl,rfl,rfl,w2⟩:=open_string Tryz.underlying9 (hval 2 9 v2 rfl rfl) h2;clear hA0 hval0;simp only[List.append_nil]at hW';refine(z9p s0 s1 s2 W (z3q hL)).mono fun e W'⟨he,hnx⟩=>?_
 subst he;refine⟨_,rfl,_,_,_,[],[]++([]++([]++[])),[],hW',?_,?_,rfl,hnx.frame _,fun h=>by cases h⟩
 ·exact trodAll_cons_mk (shut_bool Tryz.underlying4 _) trodAll_mk0
 ·exact trodAll_cons_mk (shut_string Tryz.underlying9 w0) (trodAll_cons_mk (shut_string Tryz.underlying9 w1) (trodAll_cons_mk (shut_string Tryz.underlying9 w2) trodAll_mk0))
theorem k2z:(Rows.lookEqualRow.inPlace==Program.inPlace Tryz.pinned.checked.prog 8)=true:=by kernel_rfl
theorem k3a:(Rows.lookEqualRow.unfollowed==Program.unfollowed Tryz.pinned.checked.prog 8)=true:=by kernel_rfl
theorem k3b:(Rows.lookEqualRow.recurses==Program.recurses Tryz.pinned.checked.prog 8)=true:=by kernel_rfl
theorem k3c:(Rows.lookEqualRow.named==Program.varsNamed Tryz.pinned.checked.prog 8)=true:=by kernel_rfl
theorem k3d:(Rows.lookEqualRow.lifted==Program.liftsFinal Tryz.pinned.checked.prog)=true:=by kernel_rfl
theorem k3e:(Program.make Tryz.pinned.checked.prog==some Rows.lookEqualRow.make)=true:=by kernel_rfl
theorem z5i:joinedFacts Tryz.pinned.checked.prog 8 Tryz.f8 Rows.lookEqualSpec Rows.lookEqualRow=true:=z0j g0k g0l g0m g0i k2z k3a k3b k3c k3d k3e (by kernel_rfl) (by kernel_rfl) (by kernel_rfl) (by kernel_rfl)
theorem z6r:Rows.LookEqualSaid:=
 OpenClaim.holds_of_wide 8 Tryz.f8 rfl rfl rfl rfl rfl rfl rfl ⟨rfl,rfl,rfl,rfl,rfl⟩ rfl rfl rfl rfl rfl (by kernel_rfl) func8 z5i
  (of_decide_eq_true (by kernel_rfl)) (by unfold Func.isWrapper;first|(rw[if_pos (by decide +kernel)];kernel_rfl)|(rw[if_neg (by decide +kernel)];exact⟨rfl,rfl⟩))
  (fun os started H enc _=>lifted os started H enc)
theorem k3g:OpenClaim.wfByText (OpenSpec.ofChange Rows.lookEqualSpec) Rows.lookEqualRow=true:=by kernel_rfl
theorem z6p:Program.mainIs Tryz.pinned.checked.prog=some (Rows.lookEqualCard.stood.harness.1,Rows.lookEqualCard.stood.harness.2.toList):=by kernel_rfl
theorem z6q:Program.funcNamed prog Rows.lookEqualRow.func=some 8:=by kernel_rfl
theorem z6o:false=Rows.lookEqualRow.goesBy Tryz.pinned.checked.prog:=by kernel_rfl
theorem k3f:Program.wantsStandIn prog 9=false:=by kernel_rfl
theorem lookEqual_holds:Rows.LookEqualCardSaid:=
 Claim7.holds_tied_plain_at .later [] _ _ _ _ z6r (fun _ h=>by cases h) k3g (fun _ h=>by cases h) lookEqual_row_tie rfl ⟨rfl,rfl⟩ z6p rfl
  (fun f fn hf hfn=>by
   obtain rfl:f=8:=(Option.some.inj (z6q.symm.trans hf)).symm;obtain rfl:fn=Tryz.f8:=(Option.some.inj (func8.symm.trans hfn)).symm;refine⟨g0j,fun j t ht=>?_⟩;rw[Tryz.params8]at ht
   have h4:t=9:=by
    have:=Array.mem_of_getElem? ht
    simp at this
    first|omega|(rcases this with h|h|h<;>simp[h])|(rcases this with h|h<;>simp[h])
   rcases h4 with rfl
   ·exact k3f)
  z6o
#print axioms lookEqual_holds
end Go.Proofs.YthcpdohdppkmkaaGreatDoor
