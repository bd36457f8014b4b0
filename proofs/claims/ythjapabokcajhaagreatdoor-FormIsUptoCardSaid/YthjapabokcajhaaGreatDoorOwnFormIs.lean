/- The law FormIs of package pargetrylaw2 answers true at every statement, every text and every width, where what comes in is of bulk at most 1048576: page.One and page.Format answer as the document does, errors told (what has too many ways let go, as the law says). Its conditions: that bound; and the listed package variables (errors.errorType, and Go's own strings.asciiSpace, internal/strconv.uint64pow10, math/bits.deBruijn32tab and deBruijn64tab, unicode/utf8.acceptRanges and first, unicode.White_Space, strconv.ErrRange and ErrSyntax) read as the program's text lays them, and the card ties that to the text. -/
import Derived.Test.YthjapabokcajhaaGreatDoorCards
import Derived.Test.YthjapabokcajhaaGreatDoorTie
import Derived.Test.YthjapabokcajhaaGreatDoorPj48
import Derived.Test.YthjapabokcajhaaGreatDoorPj47
import Derived.ProofKit
import Derived.OpenShut
import Derived.Deep.DeepHandedRow
open Go.Proofs.Tryz
namespace Go.Proofs.YthjapabokcajhaaGreatDoor
open Go.ChangeShapes Go.WideShapes Go.ChangeAt Go.RowKit Go.Joins
open Go.WideMaps Go.WideElems
open Go.ChangeMaps (open_string shut_string)
set_option maxRecDepth 100000
theorem k3n{H:Type}{d:DataW H}{l:List (DataW H)}(hk:Rows.uptoSmall H l=true)(hd:d∈l){ds:List Td}(h:∀x∈ds,x.tx.size<=Rows.uptoBulk d):v6f ds:=by
 have h1:Rows.uptoBulkAll l<=1048576:=of_decide_eq_true hk;have h2:=k0k hd;intro x hx
 have:=h x hx
 omega
theorem k9h(os:Os)(started:os.Started)(H:Type)(enc:TypeId × Value->H)(F:Stop.Interp):
  ReturnsInHanded {} Tryz.checked os 3 .any ((Rows.OpenSpec.upto Rows.formIsSpec).preRow enc prog Tryz.f3 Rows.formIsUptoRow.domain false Rows.formIsUptoRow.laid) (((Rows.OpenSpec.upto Rows.formIsSpec).at F).post enc prog Tryz.f3 false true false false):=by
 have hx:DataW.whole enc prog ((q7b prog os).forCall (fun _ _=>0) ⟨#[],#[.slice none 0 0,.string ByteArray.empty,.int .i64 0],[]⟩).memory Tryz.f3.params.toList Rows.formIsSpec.vars false (show Array Value from #[.slice none 0 0,.string ByteArray.empty,.int .i64 0]).toList 8=some ([.nil,.lit (.string []),.lit (.int .i64 0)],[],[]):=by kernel_rfl
 have hok:Input.okWideB prog ((q7b prog os).forCall (fun _ _=>0) ⟨#[],#[.slice none 0 0,.string ByteArray.empty,.int .i64 0],[]⟩) 3 ⟨#[],#[.slice none 0 0,.string ByteArray.empty,.int .i64 0],[]⟩=true:=by kernel_rfl
 refine returnsInHanded_of_row (C:=Tryz.checked) (s:=Rows.OpenSpec.upto Rows.formIsSpec) Tryz.own started (by kernel_rfl) func3
  ⟨q7b prog os,fun _ _=>0,⟨#[],#[.slice none 0 0,.string ByteArray.empty,.int .i64 0],[]⟩,World.layVars_os _ _ _,j8t os _,(Input.okWide_of_okWideB (base:=0) hok).1,(Input.okWide_of_okWideB hok).2,
   OpenSpec.preRow_of_cond 8 hx (by kernel_rfl) (fun k hk=>by cases hk;kernel_rfl) (by kernel_rfl) (y1t os _),by
    simp only[Assume.holds]
    exact⟨by simp,by simp,by simp,by simp,by simp⟩⟩ ?_
 intro W base args ds gs before hval0 hW _ hcond _ hL _ _;have hk:=hcond _ rfl;have hval:∀(j:Nat)t v,Tryz.f3.params[j]?=some t->args[j]?=some v->Value.okWide prog W .any base t v:=hval0;have hW':=hW;obtain⟨p,q,hA0,hV,rfl,_,_⟩:=hW;have hA:DataW.TrodAll enc prog W 0 (fun _=>true) true Tryz.f3.params.toList args.toList ds p:=hA0;rw[Tryz.params3]at hA hval;obtain⟨v0,vs0,d0,ds0,p0,q0,hargs,rfl,rfl,h0,r0⟩:=trodAll_cons hA;obtain⟨v1,vs1,d1,ds1,p1,q1,rfl,rfl,rfl,h1,r1⟩:=trodAll_cons r0;obtain⟨v2,vs2,d2,ds2,p2,q2,rfl,rfl,rfl,h2,r2⟩:=trodAll_cons r1;obtain⟨rfl,rfl,rfl⟩:=trodAll_nil r2;obtain rfl:args=#[v0,v1,v2]:=by cases args;simp_all
 obtain⟨rfl,rfl⟩:=trodVars_none hV;obtain⟨a0,l0,c0,rfl⟩:=okWide_slice Tryz.underlying22 (hval 0 22 v0 rfl rfl);obtain⟨t0,rfl,hc0,hN0,hb0⟩:=k9r h0;obtain⟨s1,rfl,rfl,rfl,w1⟩:=open_string Tryz.underlying9 (hval 1 9 v1 rfl rfl) h1;obtain⟨i2,rfl,rfl,rfl,w2⟩:=open_int Tryz.underlying3 (hval 2 3 v2 rfl rfl) h2;clear hA0 hval0;simp only[List.append_nil]at hW' hk;have hlt0:∀x∈p0,x.block<W.heap.size:=fun x hx=>hW'.lt x (by simp[hx])
 have hf0:v6f t0:=k3n (d:=d0) hk (by simp) hb0;refine(k8w j7o v9s t0 a0 c0 s1 i2 W hc0 hN0 hf0 (j0j hL) (v5b hL)).mono fun e W'⟨he,hnx⟩=>?_
 subst he;refine⟨_,rfl,_,_,_,[],p0++([]++([]++[])),[],hW',?_,?_,rfl,hnx.frame _,fun h=>by cases h⟩
 ·exact trodAll_cons_mk (shut_bool Tryz.underlying4 _) trodAll_mk0
 ·exact trodAll_cons_mk (Below.trod v2w (by kernel_rfl) (of_decide_eq_true (by kernel_rfl)) h0 hnx hlt0) (trodAll_cons_mk (shut_string Tryz.underlying9 w1) (trodAll_cons_mk (shut_int Tryz.underlying3 w2) trodAll_mk0))
theorem k0u:joinedFacts Tryz.pinned.checked.prog 3 Tryz.f3 (Rows.OpenSpec.upto Rows.formIsSpec).bare Rows.formIsUptoRow=true:=by kernel_rfl
theorem k3t:Rows.FormIsUptoSaid:=
 OpenClaim.holds_of_cond 3 Tryz.f3 rfl rfl rfl rfl rfl rfl rfl ⟨rfl,rfl,rfl,rfl,rfl⟩ rfl rfl rfl rfl rfl (by kernel_rfl) func3 k0u
  (of_decide_eq_true (by kernel_rfl)) (by unfold Func.isWrapper;first|(rw[if_pos (by decide +kernel)];kernel_rfl)|(rw[if_neg (by decide +kernel)];exact⟨rfl,rfl⟩))
  (fun os started H enc _ F=>by rw[OpenClaim.pre_eq_preRow];exact k9h os started H enc F)
theorem formIs_holds:Rows.FormIsUptoCardSaid:=
 Claim7.holds_tied_plain_at .later [] _ _ _ _ k3t (fun _ h=>by cases h) (by kernel_rfl) (fun _ h=>by cases h) formIsUpto_row_tie rfl ⟨rfl,rfl⟩ (by kernel_rfl) rfl
  (fun f fn hf hfn=>by
   obtain rfl:f=3:=Option.some.inj ((show prog.funcNamed Rows.formIsUptoRow.func=some 3 by kernel_rfl).symm.trans hf) |>.symm
   obtain rfl:fn=Tryz.f3:=(Option.some.inj (func3.symm.trans hfn)).symm;refine⟨by kernel_rfl,fun j t ht=>?_⟩;rw[Tryz.params3]at ht
   have h4:t=22\/t=9\/t=3:=by
    have:=Array.mem_of_getElem? ht
    simp at this;omega
   rcases h4 with rfl|rfl|rfl
   ·exact(show prog.wantsStandIn 22=false by kernel_rfl)
   ·exact(show prog.wantsStandIn 9=false by kernel_rfl)
   ·exact(show prog.wantsStandIn 3=false by kernel_rfl))
  (by kernel_rfl)
#print axioms formIs_holds
end Go.Proofs.YthjapabokcajhaaGreatDoor
