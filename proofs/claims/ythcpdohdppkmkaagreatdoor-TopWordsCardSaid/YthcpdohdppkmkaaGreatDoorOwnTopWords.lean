/- The law TopWords of package pargetrytop answers true at every text and every width: a formatted text has the words of the text, in order, but that brackets about an expression may be gone, and notes stand in other lines. Its conditions: the listed package variables (Go's own strings.asciiSpace, internal/strconv.uint64pow10, math/bits.deBruijn32tab and deBruijn64tab, unicode/utf8.acceptRanges and first, unicode.White_Space, strconv.ErrRange and ErrSyntax) read as the program's text lays them, and the card ties that to the text. -/
import Derived.Test.YthcpdohdppkmkaaGreatDoorTie
import Derived.Test.YthcpdohdppkmkaaGreatDoorPu48
import Derived.OpenShut
open Go.Proofs.Tryz
namespace Go.Proofs.YthcpdohdppkmkaaGreatDoor
open Go.ChangeShapes Go.WideShapes Go.ChangeAt Go.RowKit Go.Joins
open Go.WideMaps Go.WideElems
open Go.ChangeMaps (open_string shut_string)
set_option maxRecDepth 100000
theorem lifted(os:Os)(started:os.Started)(H:Type)(enc:TypeId × Value->H):
  ReturnsInHanded {} Tryz.checked os 7 .any (fun w args=>(Rows.topWordsSpec.pre enc prog Tryz.f7 [] false w args/\laidMetH prog Rows.topWordsRow.laid w)/\sizedMet enc prog Tryz.f7 (OpenSpec.ofChange Rows.topWordsSpec) false w args)
   (Rows.topWordsSpec.post enc prog Tryz.f7 false true false false):=by
 refine returnsInHanded_of_change_and (C:=Tryz.checked) (X:=fun w _=>laidMetH prog Rows.topWordsRow.laid w) (fun _ _ _ hh h=>h.of_heap hh) Tryz.own started (by kernel_rfl) func7
  (ChangeSpec.witness_shaped (enc:=enc) (C:=Tryz.checked) (os:=os) (X:=fun w _=>laidMetH prog Rows.topWordsRow.laid w) false (q4a prog os) #[.string ByteArray.empty,.int .i64 0] 8 (World.layVars_os _ _ _) (q8b os _) (by kernel_rfl) (by kernel_rfl) (by kernel_rfl) (z8r os _)) ?_
 intro W base args ds gs before hval0 hW _ hsz0 hL _;have hsz:(DataW.weightsEach prog (Tryz.f7.params.toList++Rows.topWordsSpec.plain.varTypes prog) (ds++gs)).all (·<=reachBytes)=true:=hsz0;clear hsz0;have hval:∀(j:Nat)t v,Tryz.f7.params[j]?=some t->args[j]?=some v->Value.okWide prog W .any base t v:=hval0;have hW':=hW;obtain⟨p,q,hA0,hV,rfl,_,_⟩:=hW;have hA:DataW.TrodAll enc prog W 0 (fun _=>true) true Tryz.f7.params.toList args.toList ds p:=hA0;rw[Tryz.params7]at hA hval hsz;obtain⟨v0,vs0,d0,ds0,p0,q0,hargs,rfl,rfl,h0,r0⟩:=trodAll_cons hA;obtain⟨v1,vs1,d1,ds1,p1,q1,rfl,rfl,rfl,h1,r1⟩:=trodAll_cons r0;obtain⟨rfl,rfl,rfl⟩:=trodAll_nil r1;obtain rfl:args=#[v0,v1]:=by cases args;simp_all
 obtain⟨rfl,rfl⟩:=trodVars_none hV;obtain⟨s0,rfl,rfl,rfl,w0⟩:=open_string Tryz.underlying9 (hval 0 9 v0 rfl rfl) h0;obtain⟨i1,rfl,rfl,rfl,w1⟩:=open_int Tryz.underlying3 (hval 1 3 v1 rfl rfl) h1;clear hA0 hval0;simp only[List.append_nil]at hW';refine(k4t z9h s0 i1 W (z3q hL)).mono fun e W'⟨he,hnx⟩=>?_
 subst he;refine⟨_,rfl,_,_,_,[],[]++([]++[]),[],hW',?_,?_,rfl,hnx.frame _,fun h=>by cases h⟩
 ·exact trodAll_cons_mk (shut_bool Tryz.underlying4 _) trodAll_mk0
 ·exact trodAll_cons_mk (shut_string Tryz.underlying9 w0) (trodAll_cons_mk (shut_int Tryz.underlying3 w1) trodAll_mk0)
theorem k8i:(Rows.topWordsRow.inPlace==Program.inPlace Tryz.pinned.checked.prog 7)=true:=by kernel_rfl
theorem k8j:(Rows.topWordsRow.unfollowed==Program.unfollowed Tryz.pinned.checked.prog 7)=true:=by kernel_rfl
theorem k8k:(Rows.topWordsRow.recurses==Program.recurses Tryz.pinned.checked.prog 7)=true:=by kernel_rfl
theorem k8l:(Rows.topWordsRow.named==Program.varsNamed Tryz.pinned.checked.prog 7)=true:=by kernel_rfl
theorem k8m:(Rows.topWordsRow.lifted==Program.liftsFinal Tryz.pinned.checked.prog)=true:=by kernel_rfl
theorem k8n:(Program.make Tryz.pinned.checked.prog==some Rows.topWordsRow.make)=true:=by kernel_rfl
theorem z6w:joinedFacts Tryz.pinned.checked.prog 7 Tryz.f7 Rows.topWordsSpec Rows.topWordsRow=true:=z0j g0k g0l g0m g0i k8i k8j k8k k8l k8m k8n (by kernel_rfl) (by kernel_rfl) (by kernel_rfl) (by kernel_rfl)
theorem k1d:Rows.TopWordsSaid:=
 OpenClaim.holds_of_wide 7 Tryz.f7 rfl rfl rfl rfl rfl rfl rfl ⟨rfl,rfl,rfl,rfl,rfl⟩ rfl rfl rfl rfl rfl (by kernel_rfl) func7 z6w
  (of_decide_eq_true (by kernel_rfl)) (by unfold Func.isWrapper;first|(rw[if_pos (by decide +kernel)];kernel_rfl)|(rw[if_neg (by decide +kernel)];exact⟨rfl,rfl⟩))
  (fun os started H enc _=>lifted os started H enc)
theorem k8q:OpenClaim.wfByText (OpenSpec.ofChange Rows.topWordsSpec) Rows.topWordsRow=true:=by kernel_rfl
theorem k1b:Program.mainIs Tryz.pinned.checked.prog=some (Rows.topWordsCard.stood.harness.1,Rows.topWordsCard.stood.harness.2.toList):=by kernel_rfl
theorem k1c:Program.funcNamed prog Rows.topWordsRow.func=some 7:=by kernel_rfl
theorem k1a:false=Rows.topWordsRow.goesBy Tryz.pinned.checked.prog:=by kernel_rfl
theorem k8o:Program.wantsStandIn prog 9=false:=by kernel_rfl
theorem k8p:Program.wantsStandIn prog 3=false:=by kernel_rfl
theorem topWords_holds:Rows.TopWordsCardSaid:=
 Claim7.holds_tied_plain_at .later [] _ _ _ _ k1d (fun _ h=>by cases h) k8q (fun _ h=>by cases h) topWords_row_tie rfl ⟨rfl,rfl⟩ k1b rfl
  (fun f fn hf hfn=>by
   obtain rfl:f=7:=(Option.some.inj (k1c.symm.trans hf)).symm;obtain rfl:fn=Tryz.f7:=(Option.some.inj (func7.symm.trans hfn)).symm;refine⟨g0j,fun j t ht=>?_⟩;rw[Tryz.params7]at ht
   have h4:t=9\/t=3:=by
    have:=Array.mem_of_getElem? ht
    simp at this
    first|omega|(rcases this with h|h|h<;>simp[h])|(rcases this with h|h<;>simp[h])
   rcases h4 with rfl|rfl
   ·exact k8o
   ·exact k8p)
  k1a
#print axioms topWords_holds
end Go.Proofs.YthcpdohdppkmkaaGreatDoor
