/- The law TopLeast of package pargetrytop answers true at every statement, every width and all choices: of a statement whatever way its doc is laid, that costs no less than the lines it is formatted in; with more room it costs no more. Its conditions: the listed package variables (Go's own strings.asciiSpace, internal/strconv.uint64pow10, math/bits.deBruijn32tab and deBruijn64tab, unicode/utf8.acceptRanges and first, unicode.White_Space, strconv.ErrRange and ErrSyntax) read as the program's text lays them, and the card ties that to the text. -/
import Derived.Test.YthcpdohdppkmkaaGreatDoorTie
import Derived.Test.YthcpdohdppkmkaaGreatDoorPu45
import Derived.OpenShut
open Go.Proofs.Tryz
namespace Go.Proofs.YthcpdohdppkmkaaGreatDoor
open Go.ChangeShapes Go.WideShapes Go.ChangeAt Go.RowKit Go.Joins
open Go.WideMaps Go.WideElems
open Go.ChangeMaps (open_string shut_string)
set_option maxRecDepth 100000
theorem lifted(os:Os)(started:os.Started)(H:Type)(enc:TypeId × Value->H):
  ReturnsInHanded {} Tryz.checked os 5 .any (fun w args=>(Rows.topLeastSpec.pre enc prog Tryz.f5 [] false w args/\laidMetH prog Rows.topLeastRow.laid w)/\sizedMet enc prog Tryz.f5 (OpenSpec.ofChange Rows.topLeastSpec) false w args)
   (Rows.topLeastSpec.post enc prog Tryz.f5 false true false false):=by
 refine returnsInHanded_of_change_and (C:=Tryz.checked) (X:=fun w _=>laidMetH prog Rows.topLeastRow.laid w) (fun _ _ _ hh h=>h.of_heap hh) Tryz.own started (by kernel_rfl) func5
  (ChangeSpec.witness_shaped (enc:=enc) (C:=Tryz.checked) (os:=os) (X:=fun w _=>laidMetH prog Rows.topLeastRow.laid w) false (q4a prog os) #[.slice none 0 0,.int .i64 0,.slice none 0 0] 8 (World.layVars_os _ _ _) (q8b os _) (by kernel_rfl) (by kernel_rfl) (by kernel_rfl) (z8r os _)) ?_
 intro W base args ds gs before hval0 hW _ hsz0 hL _;have hsz:(DataW.weightsEach prog (Tryz.f5.params.toList++Rows.topLeastSpec.plain.varTypes prog) (ds++gs)).all (·<=reachBytes)=true:=hsz0;clear hsz0;have hval:∀(j:Nat)t v,Tryz.f5.params[j]?=some t->args[j]?=some v->Value.okWide prog W .any base t v:=hval0;have hW':=hW;obtain⟨p,q,hA0,hV,rfl,_,_⟩:=hW;have hA:DataW.TrodAll enc prog W 0 (fun _=>true) true Tryz.f5.params.toList args.toList ds p:=hA0;rw[Tryz.params5]at hA hval hsz;obtain⟨v0,vs0,d0,ds0,p0,q0,hargs,rfl,rfl,h0,r0⟩:=trodAll_cons hA;obtain⟨v1,vs1,d1,ds1,p1,q1,rfl,rfl,rfl,h1,r1⟩:=trodAll_cons r0;obtain⟨v2,vs2,d2,ds2,p2,q2,rfl,rfl,rfl,h2,r2⟩:=trodAll_cons r1;obtain⟨rfl,rfl,rfl⟩:=trodAll_nil r2;obtain rfl:args=#[v0,v1,v2]:=by cases args;simp_all
 obtain⟨rfl,rfl⟩:=trodVars_none hV;obtain⟨a0,l0,c0,rfl⟩:=okWide_slice Tryz.underlying51 (hval 0 51 v0 rfl rfl);obtain⟨t0,rfl,hc0,hN0,hb0⟩:=k6y h0;obtain⟨i1,rfl,rfl,rfl,w1⟩:=open_int Tryz.underlying3 (hval 1 3 v1 rfl rfl) h1;obtain⟨a2,l2,c2,rfl⟩:=okWide_slice Tryz.underlying43 (hval 2 43 v2 rfl rfl);obtain⟨ws2,rfl,hc2,hm2,hI2⟩:=v1g h2;clear hA0 hval0;simp only[List.append_nil]at hW';have hlt0:∀x∈p0,x.block<W.heap.size:=fun x hx=>hW'.lt x (by simp[hx])
 have hf0:z4e t0:=fun x hx=>of_decide_eq_true (List.all_eq_true.1 hsz _ (DataW.weights_mem_each (j:=0) (t:=51) (d:=d0) rfl rfl _ (hb0 x hx)))
 have hlt2:∀x∈p2,x.block<W.heap.size:=fun x hx=>hW'.lt x (by simp[hx])
 have hl2:ws2.length<=9223372036854775807:=by unfold maxLen at hm2;omega
 refine(k4n z9h z5o t0 a0 c0 ws2 a2 c2 i1 W hc0 hN0 hf0 hc2 hl2 hI2 (z3q hL)).mono fun e W'⟨he,hnx⟩=>?_
 subst he;refine⟨_,rfl,_,_,_,[],p0++([]++(p2++[])),[],hW',?_,?_,rfl,hnx.frame _,fun h=>by cases h⟩
 ·exact trodAll_cons_mk (shut_bool Tryz.underlying4 _) trodAll_mk0
 ·exact trodAll_cons_mk (Below.trod j0d (by kernel_rfl) (of_decide_eq_true (by kernel_rfl)) h0 hnx hlt0) (trodAll_cons_mk (shut_int Tryz.underlying3 w1) (trodAll_cons_mk (Below.trod j0d (by kernel_rfl) (of_decide_eq_true (by kernel_rfl)) h2 hnx hlt2) trodAll_mk0))
theorem k7o:(Rows.topLeastRow.inPlace==Program.inPlace Tryz.pinned.checked.prog 5)=true:=by kernel_rfl
theorem k7p:(Rows.topLeastRow.unfollowed==Program.unfollowed Tryz.pinned.checked.prog 5)=true:=by kernel_rfl
theorem k7q:(Rows.topLeastRow.recurses==Program.recurses Tryz.pinned.checked.prog 5)=true:=by kernel_rfl
theorem k7r:(Rows.topLeastRow.named==Program.varsNamed Tryz.pinned.checked.prog 5)=true:=by kernel_rfl
theorem k7s:(Rows.topLeastRow.lifted==Program.liftsFinal Tryz.pinned.checked.prog)=true:=by kernel_rfl
theorem k7t:(Program.make Tryz.pinned.checked.prog==some Rows.topLeastRow.make)=true:=by kernel_rfl
theorem z6u:joinedFacts Tryz.pinned.checked.prog 5 Tryz.f5 Rows.topLeastSpec Rows.topLeastRow=true:=z0j g0k g0l g0m g0i k7o k7p k7q k7r k7s k7t (by kernel_rfl) (by kernel_rfl) (by kernel_rfl) (by kernel_rfl)
theorem k0u:Rows.TopLeastSaid:=
 OpenClaim.holds_of_wide 5 Tryz.f5 rfl rfl rfl rfl rfl rfl rfl ⟨rfl,rfl,rfl,rfl,rfl⟩ rfl rfl rfl rfl rfl (by kernel_rfl) func5 z6u
  (of_decide_eq_true (by kernel_rfl)) (by unfold Func.isWrapper;first|(rw[if_pos (by decide +kernel)];kernel_rfl)|(rw[if_neg (by decide +kernel)];exact⟨rfl,rfl⟩))
  (fun os started H enc _=>lifted os started H enc)
theorem k7x:OpenClaim.wfByText (OpenSpec.ofChange Rows.topLeastSpec) Rows.topLeastRow=true:=by kernel_rfl
theorem k0s:Program.mainIs Tryz.pinned.checked.prog=some (Rows.topLeastCard.stood.harness.1,Rows.topLeastCard.stood.harness.2.toList):=by kernel_rfl
theorem k0t:Program.funcNamed prog Rows.topLeastRow.func=some 5:=by kernel_rfl
theorem k0r:false=Rows.topLeastRow.goesBy Tryz.pinned.checked.prog:=by kernel_rfl
theorem k7u:Program.wantsStandIn prog 51=false:=by kernel_rfl
theorem k7v:Program.wantsStandIn prog 3=false:=by kernel_rfl
theorem k7w:Program.wantsStandIn prog 43=false:=by kernel_rfl
theorem topLeast_holds:Rows.TopLeastCardSaid:=
 Claim7.holds_tied_plain_at .later [] _ _ _ _ k0u (fun _ h=>by cases h) k7x (fun _ h=>by cases h) topLeast_row_tie rfl ⟨rfl,rfl⟩ k0s rfl
  (fun f fn hf hfn=>by
   obtain rfl:f=5:=(Option.some.inj (k0t.symm.trans hf)).symm;obtain rfl:fn=Tryz.f5:=(Option.some.inj (func5.symm.trans hfn)).symm;refine⟨g0j,fun j t ht=>?_⟩;rw[Tryz.params5]at ht
   have h4:t=51\/t=3\/t=43:=by
    have:=Array.mem_of_getElem? ht
    simp at this
    first|omega|(rcases this with h|h|h<;>simp[h])|(rcases this with h|h<;>simp[h])
   rcases h4 with rfl|rfl|rfl
   ·exact k7u
   ·exact k7v
   ·exact k7w)
  k0r
#print axioms topLeast_holds
end Go.Proofs.YthcpdohdppkmkaaGreatDoor
