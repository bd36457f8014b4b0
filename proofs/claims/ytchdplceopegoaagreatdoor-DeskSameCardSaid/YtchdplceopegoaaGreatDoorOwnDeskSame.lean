/- The law DeskSame of package pargetrylaw2 answers true at every width, every script and every text: whatever was set ahead, a desk has the lines of the last program, and set again nothing is new. Its conditions: the listed package variables (Go's own strings.asciiSpace, internal/strconv.uint64pow10, math/bits.deBruijn32tab and deBruijn64tab, unicode/utf8.acceptRanges and first, unicode.White_Space, strconv.ErrRange and ErrSyntax) read as the program's text lays them, and the card ties that to the text. -/
import Derived.Test.YtchdplceopegoaaGreatDoorCards
import Derived.Test.YtchdplceopegoaaGreatDoorTie
import Derived.Test.YtchdplceopegoaaGreatDoorPs50
import Derived.ProofKit
import Derived.OpenShut
namespace Go.Proofs.YtchdplceopegoaaGreatDoor
open Go.ChangeShapes Go.WideShapes Go.ChangeAt Go.RowKit Go.Joins
open Go.WideMaps Go.WideElems
open Go.ChangeMaps (open_string shut_string)
set_option maxRecDepth 100000
theorem y1j (os:Os) (started:os.Started) (H:Type) (enc:TypeId × Value→H) :
  ReturnsInHanded {} Tryz.checked os 4 .any (fun w args=>(Rows.deskSameSpec.pre enc Tryz.prog Tryz.f4 [] false w args∧laidMetH Tryz.prog Rows.deskSameRow.laid w)∧sizedMet enc Tryz.prog Tryz.f4 (OpenSpec.ofChange Rows.deskSameSpec) false w args)
   (Rows.deskSameSpec.post enc Tryz.prog Tryz.f4 false true false false):=by
 refine returnsInHanded_of_change_and (C:=Tryz.checked) (X:=fun w _=>laidMetH Tryz.prog Rows.deskSameRow.laid w) (fun _ _ _ hh h=>h.of_heap hh) Tryz.own started (by kernel_rfl) Tryz.func4
  (ChangeSpec.witness_shaped (enc:=enc) (C:=Tryz.checked) (os:=os) (X:=fun w _=>laidMetH Tryz.prog Rows.deskSameRow.laid w) false (q7s Tryz.prog os) #[.int .i64 0,.slice none 0 0,.string ByteArray.empty] 8 (World.layVars_os _ _ _) (j4v os _) (by kernel_rfl) (by kernel_rfl) (by kernel_rfl) (v4s os _)) ?_
 intro W base args ds gs before hval0 hW _ hsz0 hL _
 have hsz:(DataW.weightsEach Tryz.prog (Tryz.f4.params.toList++Rows.deskSameSpec.plain.varTypes Tryz.prog) (ds++gs)).all (·≤reachBytes)=true:=hsz0
 clear hsz0
 have hval:∀ (j:Nat) t v,Tryz.f4.params[j]? = some t→args[j]? = some v→Value.okWide Tryz.prog W .any base t v:=hval0
 have hW':=hW
 obtain ⟨p,q,hA0,hV,rfl,_,_⟩:=hW
 have hA:DataW.TrodAll enc Tryz.prog W 0 (fun _=>true) true Tryz.f4.params.toList args.toList ds p:=hA0
 rw [Tryz.params4] at hA hval hsz
 obtain ⟨v0,vs0,d0,ds0,p0,q0,hargs,rfl,rfl,h0,r0⟩:=trodAll_cons hA
 obtain ⟨v1,vs1,d1,ds1,p1,q1,rfl,rfl,rfl,h1,r1⟩:=trodAll_cons r0
 obtain ⟨v2,vs2,d2,ds2,p2,q2,rfl,rfl,rfl,h2,r2⟩:=trodAll_cons r1
 obtain ⟨rfl,rfl,rfl⟩:=trodAll_nil r2
 obtain rfl:args=#[v0,v1,v2]:=by cases args;simp_all
 obtain ⟨rfl,rfl⟩:=trodVars_none hV
 obtain ⟨i0,rfl,rfl,rfl,w0⟩:=open_int Tryz.underlying3 (hval 0 3 v0 rfl rfl) h0
 obtain ⟨a1,l1,c1,rfl⟩:=okWide_slice Tryz.underlying22 (hval 1 22 v1 rfl rfl)
 obtain ⟨t1,rfl,hN1⟩:=k6w h1
 obtain ⟨s2,rfl,rfl,rfl,w2⟩:=open_string Tryz.underlying9 (hval 2 9 v2 rfl rfl) h2
 clear hA0 hval0
 simp only [List.append_nil] at hW'
 have hlt1:∀ x∈p1,x.block<W.heap.size:=fun x hx=>hW'.lt x (by simp [hx])
 refine (z8k v6b i0 t1 a1 c1 s2 W hN1 (j7g hL)).mono fun e W' ⟨he,hnx⟩=>?_
 subst he
 refine ⟨_,rfl,_,_,_,[],[]++(p1++([]++[])),[],hW',?_,?_,rfl,hnx.frame _,fun h=>by cases h⟩
 ·exact trodAll_cons_mk (shut_bool Tryz.underlying4 _) trodAll_mk0
 ·exact trodAll_cons_mk (shut_int Tryz.underlying3 w0) (trodAll_cons_mk (Below.trod j8y (by kernel_rfl) (of_decide_eq_true (by kernel_rfl)) h1 hnx hlt1) (trodAll_cons_mk (shut_string Tryz.underlying9 w2) trodAll_mk0))
theorem z4f:joinedFacts Tryz.pinned.checked.prog 4 Tryz.f4 Rows.deskSameSpec Rows.deskSameRow=true:=by kernel_rfl
theorem z6d:Rows.DeskSameSaid:=
 OpenClaim.holds_of_wide 4 Tryz.f4 rfl rfl rfl rfl rfl rfl rfl ⟨rfl,rfl,rfl,rfl,rfl⟩ rfl rfl rfl rfl rfl (by kernel_rfl) Tryz.func4 z4f
  (of_decide_eq_true (by kernel_rfl)) (by unfold Func.isWrapper;first | (rw [if_pos (by decide +kernel)];kernel_rfl) | (rw [if_neg (by decide +kernel)];exact ⟨rfl,rfl⟩))
  (fun os started H enc _=>y1j os started H enc)
theorem deskSame_holds:Rows.DeskSameCardSaid:=
 Claim7.holds_tied_plain_at .later [] _ _ _ _ z6d (fun _ h=>by cases h) (by kernel_rfl) (fun _ h=>by cases h) deskSame_row_tie rfl ⟨rfl,rfl⟩ (by kernel_rfl) rfl
  (fun f fn hf hfn=>by
   obtain rfl:f=4:=Option.some.inj ((show Tryz.prog.funcNamed Rows.deskSameRow.func=some 4 by kernel_rfl).symm.trans hf) |>.symm
   obtain rfl:fn=Tryz.f4:=(Option.some.inj (Tryz.func4.symm.trans hfn)).symm
   refine ⟨by kernel_rfl,fun j t ht=>?_⟩
   rw [Tryz.params4] at ht
   have h4:t=3∨t=22∨t=9:=by
    have:=Array.mem_of_getElem? ht
    simp at this
    first | omega | (rcases this with h | h | h<;>simp [h]) | (rcases this with h | h<;>simp [h])
   rcases h4 with rfl | rfl | rfl
   ·exact (show Tryz.prog.wantsStandIn 3=false by kernel_rfl)
   ·exact (show Tryz.prog.wantsStandIn 22=false by kernel_rfl)
   ·exact (show Tryz.prog.wantsStandIn 9=false by kernel_rfl))
  (by kernel_rfl)
#print axioms deskSame_holds
end Go.Proofs.YtchdplceopegoaaGreatDoor
