/- The law FormFits of package pargetrylaw2 answers true at every statement, every width and all choices, where what comes in is of bulk at most 1048576: a statement that fits into a line stands in one; if it can be laid so that no line is too long none is; its lines have no blank at their end. Its conditions: that bound; and the listed package variables (Go's own strings.asciiSpace, internal/strconv.uint64pow10, math/bits.deBruijn32tab and deBruijn64tab, unicode/utf8.acceptRanges and first, unicode.White_Space) read as the program's text lays them, and the card ties that to the text. -/
import Derived.Test.YtfdppahhbpfnoaaGreatDoorTie
import Derived.Test.YtfdppahhbpfnoaaGreatDoorPb42
import Derived.OpenShut
import Derived.Deep.DeepHandedRow
open Go.Proofs.Tryz
namespace Go.Proofs.YtfdppahhbpfnoaaGreatDoor
open Go.ChangeShapes Go.WideShapes Go.ChangeAt Go.RowKit Go.Joins
open Go.WideMaps Go.WideElems
open Go.ChangeMaps (open_string shut_string)
set_option maxRecDepth 100000
theorem k4q{H:Type}{d:DataW H}{l:List (DataW H)}(hk:Rows.uptoSmall H l=true)(hd:d∈l){ds:List Td}(h:∀x∈ds,x.tx.size<=Rows.uptoBulk d):v9u ds:=by
 have B:Rows.uptoBulkAll l<=1048576:=of_decide_eq_true hk;have C:=k0x hd;intro x A
 have:=h x A
 omega
theorem j0v(os:Os)(E:os.Started)(H:Type)(enc:TypeId × Value->H)(F:Stop.Interp):
  ReturnsInHanded {} Tryz.checked os 5 .any ((Rows.OpenSpec.upto Rows.formFitsSpec).preRow enc prog Tryz.f5 Rows.formFitsUptoRow.domain false Rows.formFitsUptoRow.laid) (((Rows.OpenSpec.upto Rows.formFitsSpec).at F).post enc prog Tryz.f5 false true false false):=by
 have N:DataW.whole enc prog ((q3n prog os).forCall (fun _ _=>0) ⟨#[],#[.slice none 0 0,.int .i64 0,.slice none 0 0],[]⟩).memory Tryz.f5.params.toList Rows.formFitsSpec.vars false (show Array Value from #[.slice none 0 0,.int .i64 0,.slice none 0 0]).toList 8=some ([.nil,.lit (.int .i64 0),.nil],[],[]):=by kernel_rfl
 have M:Input.okWideB prog ((q3n prog os).forCall (fun _ _=>0) ⟨#[],#[.slice none 0 0,.int .i64 0,.slice none 0 0],[]⟩) 5 ⟨#[],#[.slice none 0 0,.int .i64 0,.slice none 0 0],[]⟩=true:=by kernel_rfl
 refine returnsInHanded_of_row (C:=Tryz.checked) (s:=Rows.OpenSpec.upto Rows.formFitsSpec) Tryz.own E (by kernel_rfl) func5
  ⟨q3n prog os,fun _ _=>0,⟨#[],#[.slice none 0 0,.int .i64 0,.slice none 0 0],[]⟩,World.layVars_os _ _ _,k3e os _,(Input.okWide_of_okWideB (base:=0) M).1,(Input.okWide_of_okWideB M).2,
   OpenSpec.preRow_of_cond 8 N (by kernel_rfl) (fun k Q=>by cases Q;kernel_rfl) (by kernel_rfl) (y1j os _),by
    simp only[Assume.holds]
    exact⟨by simp,by simp,by simp,by simp,by simp⟩⟩ ?_
 intro W base A ds gs P D i _ I _ hL _ _;have Q:=I _ rfl;have B:∀(j:Nat)t v,Tryz.f5.params[j]?=some t->A[j]?=some v->Value.okWide prog W .any base t v:=D;have G:=i;obtain⟨p,q,J,hV,rfl,_,_⟩:=i;have g:DataW.TrodAll enc prog W 0 (fun _=>true) true Tryz.f5.params.toList A.toList ds p:=J;rw[Tryz.params5]at g B;obtain⟨o,Ad,d0,Aa,l,q0,U,rfl,rfl,c,r0⟩:=trodAll_cons g;obtain⟨r,Ae,d1,Ab,p1,q1,rfl,rfl,rfl,h1,r1⟩:=trodAll_cons r0;obtain⟨u,Af,d2,Ac,m,q2,rfl,rfl,rfl,f,r2⟩:=trodAll_cons r1;obtain⟨rfl,rfl,rfl⟩:=trodAll_nil r2;obtain rfl:A=#[o,r,u]:=by cases A;simp_all
 obtain⟨rfl,rfl⟩:=trodVars_none hV;obtain⟨w,l0,z,rfl⟩:=okWide_slice Tryz.underlying22 (B 0 22 o rfl rfl);obtain⟨n,rfl,X,S,V⟩:=j1d c;obtain⟨i1,rfl,rfl,rfl,w1⟩:=open_int Tryz.underlying3 (B 1 3 r rfl rfl) h1;obtain⟨y,l2,c2,rfl⟩:=okWide_slice Tryz.underlying45 (B 2 45 u rfl rfl);obtain⟨O,rfl,Y,b,R⟩:=j8l f;clear J D;simp only[List.append_nil]at G Q;have K:∀x∈l,x.block<W.heap.size:=fun x N=>G.lt x (by simp[N])
 have Z:v9u n:=k4q (d:=d0) Q (by simp) V;have L:∀x∈m,x.block<W.heap.size:=fun x N=>G.lt x (by simp[N])
 have a:O.length<=9223372036854775807:=by unfold maxLen at b;omega
 refine(k1m j8h n w z O y c2 i1 W X S Z Y a R (v3e hL)).mono fun e W'⟨he,hnx⟩=>?_
 subst he;refine⟨_,rfl,_,_,_,[],l++([]++(m++[])),[],G,?_,?_,rfl,hnx.frame _,fun h=>by cases h⟩
 ·exact trodAll_cons_mk (shut_bool Tryz.underlying4 _) trodAll_mk0
 ·exact trodAll_cons_mk (Below.trod k8c (by kernel_rfl) (of_decide_eq_true (by kernel_rfl)) c hnx K) (trodAll_cons_mk (shut_int Tryz.underlying3 w1) (trodAll_cons_mk (Below.trod k8c (by kernel_rfl) (of_decide_eq_true (by kernel_rfl)) f hnx L) trodAll_mk0))
theorem k5f:(Rows.formFitsUptoRow.inPlace==Program.inPlace Tryz.pinned.checked.prog 5)=true:=by kernel_rfl
theorem k5g:(Rows.formFitsUptoRow.unfollowed==Program.unfollowed Tryz.pinned.checked.prog 5)=true:=by kernel_rfl
theorem k5h:(Rows.formFitsUptoRow.recurses==Program.recurses Tryz.pinned.checked.prog 5)=true:=by kernel_rfl
theorem k5i:(Rows.formFitsUptoRow.named==Program.varsNamed Tryz.pinned.checked.prog 5)=true:=by kernel_rfl
theorem k5j:(Rows.formFitsUptoRow.lifted==Program.liftsFinal Tryz.pinned.checked.prog)=true:=by kernel_rfl
theorem k5k:(Program.make Tryz.pinned.checked.prog==some Rows.formFitsUptoRow.make)=true:=by kernel_rfl
theorem z5l:joinedFacts Tryz.pinned.checked.prog 5 Tryz.f5 (Rows.OpenSpec.upto Rows.formFitsSpec).bare Rows.formFitsUptoRow=true:=k7u g1n g1o g1p g1l k5f k5g k5h k5i k5j k5k (by kernel_rfl) (by kernel_rfl) (by kernel_rfl) (by kernel_rfl)
theorem z8o:Rows.FormFitsUptoSaid:=
 OpenClaim.holds_of_cond 5 Tryz.f5 rfl rfl rfl rfl rfl rfl rfl ⟨rfl,rfl,rfl,rfl,rfl⟩ rfl rfl rfl rfl rfl (by kernel_rfl) func5 z5l
  (of_decide_eq_true (by kernel_rfl)) (by unfold Func.isWrapper;first|(rw[if_pos (by decide +kernel)];kernel_rfl)|(rw[if_neg (by decide +kernel)];exact⟨rfl,rfl⟩))
  (fun os started H enc _ F=>by rw[OpenClaim.pre_eq_preRow];exact j0v os started H enc F)
theorem k5p:OpenClaim.wfByText (Rows.OpenSpec.upto Rows.formFitsSpec) Rows.formFitsUptoRow=true:=by kernel_rfl
theorem z8m:Program.mainIs Tryz.pinned.checked.prog=some (Rows.formFitsUptoCard.stood.harness.1,Rows.formFitsUptoCard.stood.harness.2.toList):=by kernel_rfl
theorem z8n:Program.funcNamed prog Rows.formFitsUptoRow.func=some 5:=by kernel_rfl
theorem z8l:false=Rows.formFitsUptoRow.goesBy Tryz.pinned.checked.prog:=by kernel_rfl
theorem k5m:Program.wantsStandIn prog 22=false:=by kernel_rfl
theorem k5n:Program.wantsStandIn prog 3=false:=by kernel_rfl
theorem k5o:Program.wantsStandIn prog 45=false:=by kernel_rfl
theorem formFits_holds:Rows.FormFitsUptoCardSaid:=
 Claim7.holds_tied_plain_at .later [] _ _ _ _ z8o (fun _ h=>by cases h) k5p (fun _ h=>by cases h) formFitsUpto_row_tie rfl ⟨rfl,rfl⟩ z8m rfl
  (fun f fn hf hfn=>by
   obtain rfl:f=5:=(Option.some.inj (z8n.symm.trans hf)).symm;obtain rfl:fn=Tryz.f5:=(Option.some.inj (func5.symm.trans hfn)).symm;refine⟨g1m,fun j t ht=>?_⟩;rw[Tryz.params5]at ht
   have h4:t=22\/t=3\/t=45:=by
    have:=Array.mem_of_getElem? ht
    simp at this
    first|omega|(rcases this with h|h|h<;>simp[h])|(rcases this with h|h<;>simp[h])
   rcases h4 with rfl|rfl|rfl
   ·exact k5m
   ·exact k5n
   ·exact k5o)
  z8l
#print axioms formFits_holds
end Go.Proofs.YtfdppahhbpfnoaaGreatDoor
