/- The law FormFits of package pargetrylaw2 answers true at every statement, every width and all choices, where what comes in is of bulk at most 1048576: a statement that fits into a line stands in one; if it can be laid so that no line is too long none is; its lines have no blank at their end. Its conditions: that bound; and the listed package variables (Go's own strings.asciiSpace, internal/strconv.uint64pow10, math/bits.deBruijn32tab and deBruijn64tab, unicode/utf8.acceptRanges and first, unicode.White_Space) read as the program's text lays them, and the card ties that to the text. -/
import Derived.Test.YthjapabokcajhaaGreatDoorCards
import Derived.Test.YthjapabokcajhaaGreatDoorTie
import Derived.Test.YthjapabokcajhaaGreatDoorPf44
import Derived.Test.YthjapabokcajhaaGreatDoorPf45
import Derived.Test.YthjapabokcajhaaGreatDoorPf46
import Derived.WalkKit
import Derived.ProofKit
import Derived.OpenShut
import Derived.Deep.DeepHandedRow
import Derived.Lib.SmallJoins
namespace Go.Proofs.YthjapabokcajhaaGreatDoor
open Go.ChangeShapes Go.WideShapes Go.ChangeAt Go.RowKit Go.Joins
open Go.WideMaps Go.WideElems
open Go.ChangeMaps (open_string shut_string)
set_option maxRecDepth 100000
theorem z6g{H:Type}{d:DataW H}{l:List (DataW H)}(hk:Rows.uptoSmall H l=true)(hd:d∈l){ds:List Td}(h:∀x∈ds,x.tx.size<=Rows.uptoBulk d):j4g ds:=by
 have h1:Rows.uptoBulkAll l<=1048576:=of_decide_eq_true hk;have h2:=z3s hd;intro x hx
 have:=h x hx
 omega
theorem k0p(os:Os)(started:os.Started)(H:Type)(enc:TypeId × Value->H)(F:Stop.Interp):
  ReturnsInHanded {} Tryz.checked os 5 .any ((Rows.OpenSpec.upto Rows.formFitsSpec).preRow enc Tryz.prog Tryz.f5 Rows.formFitsUptoRow.domain false Rows.formFitsUptoRow.laid) (((Rows.OpenSpec.upto Rows.formFitsSpec).at F).post enc Tryz.prog Tryz.f5 false true false false):=by
 have hx:DataW.whole enc Tryz.prog ((q2s Tryz.prog os).forCall (fun _ _=>0) ⟨#[],#[.slice none 0 0,.int .i64 0,.slice none 0 0],[]⟩).memory Tryz.f5.params.toList Rows.formFitsSpec.vars false (show Array Value from #[.slice none 0 0,.int .i64 0,.slice none 0 0]).toList 8=some ([.nil,.lit (.int .i64 0),.nil],[],[]):=by kernel_rfl
 have hok:Input.okWideB Tryz.prog ((q2s Tryz.prog os).forCall (fun _ _=>0) ⟨#[],#[.slice none 0 0,.int .i64 0,.slice none 0 0],[]⟩) 5 ⟨#[],#[.slice none 0 0,.int .i64 0,.slice none 0 0],[]⟩=true:=by kernel_rfl
 refine returnsInHanded_of_row (C:=Tryz.checked) (s:=Rows.OpenSpec.upto Rows.formFitsSpec) Tryz.own started (by kernel_rfl) Tryz.func5
  ⟨q2s Tryz.prog os,fun _ _=>0,⟨#[],#[.slice none 0 0,.int .i64 0,.slice none 0 0],[]⟩,World.layVars_os _ _ _,k7h os _,(Input.okWide_of_okWideB (base:=0) hok).1,(Input.okWide_of_okWideB hok).2,
   OpenSpec.preRow_of_cond 8 hx (by kernel_rfl) (fun k hk=>by cases hk;kernel_rfl) (by kernel_rfl) (j5r os _),by
    simp only[Assume.holds]
    exact⟨by simp,by simp,by simp,by simp,by simp⟩⟩ ?_
 intro W base args ds gs before hval0 hW _ hcond _ hL _ _;have hk:=hcond _ rfl;have hval:∀(j:Nat)t v,Tryz.f5.params[j]?=some t->args[j]?=some v->Value.okWide Tryz.prog W .any base t v:=hval0;have hW':=hW;obtain⟨p,q,hA0,hV,rfl,_,_⟩:=hW;have hA:DataW.TrodAll enc Tryz.prog W 0 (fun _=>true) true Tryz.f5.params.toList args.toList ds p:=hA0;rw[Tryz.params5]at hA hval;obtain⟨v0,vs0,d0,ds0,p0,q0,hargs,rfl,rfl,h0,r0⟩:=trodAll_cons hA;obtain⟨v1,vs1,d1,ds1,p1,q1,rfl,rfl,rfl,h1,r1⟩:=trodAll_cons r0;obtain⟨v2,vs2,d2,ds2,p2,q2,rfl,rfl,rfl,h2,r2⟩:=trodAll_cons r1;obtain⟨rfl,rfl,rfl⟩:=trodAll_nil r2;obtain rfl:args=#[v0,v1,v2]:=by cases args;simp_all
 obtain⟨rfl,rfl⟩:=trodVars_none hV;obtain⟨a0,l0,c0,rfl⟩:=okWide_slice Tryz.underlying22 (hval 0 22 v0 rfl rfl);obtain⟨t0,rfl,hc0,hN0,hb0⟩:=k0u h0;obtain⟨i1,rfl,rfl,rfl,w1⟩:=open_int Tryz.underlying3 (hval 1 3 v1 rfl rfl) h1;obtain⟨a2,l2,c2,rfl⟩:=okWide_slice Tryz.underlying45 (hval 2 45 v2 rfl rfl);obtain⟨ws2,rfl,hc2,hm2,hI2⟩:=k6k h2;clear hA0 hval0;simp only[List.append_nil]at hW' hk;have hlt0:∀x∈p0,x.block<W.heap.size:=fun x hx=>hW'.lt x (by simp[hx])
 have hf0:j4g t0:=z6g (d:=d0) hk (by simp) hb0;have hlt2:∀x∈p2,x.block<W.heap.size:=fun x hx=>hW'.lt x (by simp[hx])
 have hl2:ws2.length<=9223372036854775807:=by unfold maxLen at hm2;omega
 refine(z4b j7j t0 a0 c0 ws2 a2 c2 i1 W hc0 hN0 hf0 hc2 hl2 hI2 (k9u hL)).mono fun e W'⟨he,hnx⟩=>?_
 subst he;refine⟨_,rfl,_,_,_,[],p0++([]++(p2++[])),[],hW',?_,?_,rfl,hnx.frame _,fun h=>by cases h⟩
 ·exact trodAll_cons_mk (shut_bool Tryz.underlying4 _) trodAll_mk0
 ·exact trodAll_cons_mk (Below.trod z8l (by kernel_rfl) (of_decide_eq_true (by kernel_rfl)) h0 hnx hlt0) (trodAll_cons_mk (shut_int Tryz.underlying3 w1) (trodAll_cons_mk (Below.trod z8l (by kernel_rfl) (of_decide_eq_true (by kernel_rfl)) h2 hnx hlt2) trodAll_mk0))
theorem z0j:joinedFacts Tryz.pinned.checked.prog 5 Tryz.f5 (Rows.OpenSpec.upto Rows.formFitsSpec).bare Rows.formFitsUptoRow=true:=by kernel_rfl
theorem z2j:Rows.FormFitsUptoSaid:=
 OpenClaim.holds_of_cond 5 Tryz.f5 rfl rfl rfl rfl rfl rfl rfl ⟨rfl,rfl,rfl,rfl,rfl⟩ rfl rfl rfl rfl rfl (by kernel_rfl) Tryz.func5 z0j
  (of_decide_eq_true (by kernel_rfl)) (by unfold Func.isWrapper;first|(rw[if_pos (by decide +kernel)];kernel_rfl)|(rw[if_neg (by decide +kernel)];exact⟨rfl,rfl⟩))
  (fun os started H enc _ F=>by rw[OpenClaim.pre_eq_preRow];exact k0p os started H enc F)
theorem formFits_holds:Rows.FormFitsUptoCardSaid:=
 Claim7.holds_tied_plain_at .later [] _ _ _ _ z2j (fun _ h=>by cases h) (by kernel_rfl) (fun _ h=>by cases h) formFitsUpto_row_tie rfl ⟨rfl,rfl⟩ (by kernel_rfl) rfl
  (fun f fn hf hfn=>by
   obtain rfl:f=5:=Option.some.inj ((show Tryz.prog.funcNamed Rows.formFitsUptoRow.func=some 5 by kernel_rfl).symm.trans hf) |>.symm
   obtain rfl:fn=Tryz.f5:=(Option.some.inj (Tryz.func5.symm.trans hfn)).symm;refine⟨by kernel_rfl,fun j t ht=>?_⟩;rw[Tryz.params5]at ht
   have h4:t=22\/t=3\/t=45:=by
    have:=Array.mem_of_getElem? ht
    simp at this;omega
   rcases h4 with rfl|rfl|rfl
   ·exact(show Tryz.prog.wantsStandIn 22=false by kernel_rfl)
   ·exact(show Tryz.prog.wantsStandIn 3=false by kernel_rfl)
   ·exact(show Tryz.prog.wantsStandIn 45=false by kernel_rfl))
  (by kernel_rfl)
#print axioms formFits_holds
end Go.Proofs.YthjapabokcajhaaGreatDoor
