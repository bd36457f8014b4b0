/- The law DeskWide of package pargetrylaw2 answers true at all widths and every text: a desk whose width was changed has the lines of that width, and changed back it is as it was. Its conditions: the listed package variables (Go's own strings.asciiSpace, internal/strconv.uint64pow10, math/bits.deBruijn32tab and deBruijn64tab, unicode/utf8.acceptRanges and first, unicode.White_Space, strconv.ErrRange and ErrSyntax) read as the program's text lays them, and the card ties that to the text. -/
import Derived.Test.YtchdplceopegoaaGreatDoorCards
import Derived.Test.YtchdplceopegoaaGreatDoorTie
import Derived.Test.YtchdplceopegoaaGreatDoorPw50
import Derived.ProofKit
import Derived.OpenShut
namespace Go.Proofs.YtchdplceopegoaaGreatDoor
open Go.ChangeShapes Go.WideShapes Go.ChangeAt Go.RowKit Go.Joins
open Go.WideMaps Go.WideElems
open Go.ChangeMaps (open_string shut_string)
set_option maxRecDepth 100000
theorem v7v (os:Os) (started:os.Started) (H:Type) (enc:TypeId × Value→H) :
  ReturnsInHanded {} Tryz.checked os 5 .any (fun w args=>(Rows.deskWideSpec.pre enc Tryz.prog Tryz.f5 [] false w args∧laidMetH Tryz.prog Rows.deskWideRow.laid w)∧sizedMet enc Tryz.prog Tryz.f5 (OpenSpec.ofChange Rows.deskWideSpec) false w args)
   (Rows.deskWideSpec.post enc Tryz.prog Tryz.f5 false true false false):=by
 refine returnsInHanded_of_change_and (C:=Tryz.checked) (X:=fun w _=>laidMetH Tryz.prog Rows.deskWideRow.laid w) (fun _ _ _ hh h=>h.of_heap hh) Tryz.own started (by kernel_rfl) Tryz.func5
  (ChangeSpec.witness_shaped (enc:=enc) (C:=Tryz.checked) (os:=os) (X:=fun w _=>laidMetH Tryz.prog Rows.deskWideRow.laid w) false (q6z Tryz.prog os) #[.int .i64 0,.string ByteArray.empty,.int .i64 0] 8 (World.layVars_os _ _ _) (j2y os _) (by kernel_rfl) (by kernel_rfl) (by kernel_rfl) (v1y os _)) ?_
 intro W base args ds gs before hval0 hW _ hsz0 hL _
 have hsz:(DataW.weightsEach Tryz.prog (Tryz.f5.params.toList++Rows.deskWideSpec.plain.varTypes Tryz.prog) (ds++gs)).all (·≤reachBytes)=true:=hsz0
 clear hsz0
 have hval:∀ (j:Nat) t v,Tryz.f5.params[j]? = some t→args[j]? = some v→Value.okWide Tryz.prog W .any base t v:=hval0
 have hW':=hW
 obtain ⟨p,q,hA0,hV,rfl,_,_⟩:=hW
 have hA:DataW.TrodAll enc Tryz.prog W 0 (fun _=>true) true Tryz.f5.params.toList args.toList ds p:=hA0
 rw [Tryz.params5] at hA hval hsz
 obtain ⟨v0,vs0,d0,ds0,p0,q0,hargs,rfl,rfl,h0,r0⟩:=trodAll_cons hA
 obtain ⟨v1,vs1,d1,ds1,p1,q1,rfl,rfl,rfl,h1,r1⟩:=trodAll_cons r0
 obtain ⟨v2,vs2,d2,ds2,p2,q2,rfl,rfl,rfl,h2,r2⟩:=trodAll_cons r1
 obtain ⟨rfl,rfl,rfl⟩:=trodAll_nil r2
 obtain rfl:args=#[v0,v1,v2]:=by cases args;simp_all
 obtain ⟨rfl,rfl⟩:=trodVars_none hV
 obtain ⟨i0,rfl,rfl,rfl,w0⟩:=open_int Tryz.underlying3 (hval 0 3 v0 rfl rfl) h0
 obtain ⟨s1,rfl,rfl,rfl,w1⟩:=open_string Tryz.underlying9 (hval 1 9 v1 rfl rfl) h1
 obtain ⟨i2,rfl,rfl,rfl,w2⟩:=open_int Tryz.underlying3 (hval 2 3 v2 rfl rfl) h2
 clear hA0 hval0
 simp only [List.append_nil] at hW'
 refine (z7k v3b i0 s1 i2 W (j5f hL)).mono fun e W' ⟨he,hnx⟩=>?_
 subst he
 refine ⟨_,rfl,_,_,_,[],[]++([]++([]++[])),[],hW',?_,?_,rfl,hnx.frame _,fun h=>by cases h⟩
 ·exact trodAll_cons_mk (shut_bool Tryz.underlying4 _) trodAll_mk0
 ·exact trodAll_cons_mk (shut_int Tryz.underlying3 w0) (trodAll_cons_mk (shut_string Tryz.underlying9 w1) (trodAll_cons_mk (shut_int Tryz.underlying3 w2) trodAll_mk0))
theorem z5d:Rows.DeskWideSaid:=
 OpenClaim.holds_of_wide 5 Tryz.f5 rfl rfl rfl rfl rfl rfl rfl ⟨rfl,rfl,rfl,rfl,rfl⟩ rfl rfl rfl rfl rfl (by kernel_rfl) Tryz.func5 (by kernel_rfl)
  (of_decide_eq_true (by kernel_rfl)) (by unfold Func.isWrapper;first | (rw [if_pos (by decide +kernel)];kernel_rfl) | (rw [if_neg (by decide +kernel)];exact ⟨rfl,rfl⟩))
  (fun os started H enc _=>v7v os started H enc)
theorem deskWide_holds:Rows.DeskWideCardSaid:=
 Claim7.holds_tied_plain_at .later [] _ _ _ _ z5d (fun _ h=>by cases h) (by kernel_rfl) (fun _ h=>by cases h) deskWide_row_tie rfl ⟨rfl,rfl⟩ (by kernel_rfl) rfl
  (fun f fn hf hfn=>by
   obtain rfl:f=5:=Option.some.inj ((show Tryz.prog.funcNamed Rows.deskWideRow.func=some 5 by kernel_rfl).symm.trans hf) |>.symm
   obtain rfl:fn=Tryz.f5:=(Option.some.inj (Tryz.func5.symm.trans hfn)).symm
   refine ⟨by kernel_rfl,fun j t ht=>?_⟩
   rw [Tryz.params5] at ht
   have h4:t=3∨t=9:=by
    have:=Array.mem_of_getElem? ht
    simp at this
    first | omega | (rcases this with h | h | h<;>simp [h]) | (rcases this with h | h<;>simp [h])
   rcases h4 with rfl | rfl
   ·exact (show Tryz.prog.wantsStandIn 3=false by kernel_rfl)
   ·exact (show Tryz.prog.wantsStandIn 9=false by kernel_rfl))
  (by kernel_rfl)
#print axioms deskWide_holds
end Go.Proofs.YtchdplceopegoaaGreatDoor
