/- The law FormIs of package pargetrylaw2 answers true at every statement, every text and every width, where what comes in is of bulk at most 1048576: page.One and page.Format answer as the document does, errors told (what has too many ways let go, as the law says). Its conditions: that bound; and the listed package variables (errors.errorType, and Go's own strings.asciiSpace, internal/strconv.uint64pow10, math/bits.deBruijn32tab and deBruijn64tab, unicode/utf8.acceptRanges and first, unicode.White_Space, strconv.ErrRange and ErrSyntax) read as the program's text lays them, and the card ties that to the text. -/
import Derived.Test.YtfdppahhbpfnoaaGreatDoorTie
import Derived.Test.YtfdppahhbpfnoaaGreatDoorPi03
import Derived.Test.YtfdppahhbpfnoaaGreatDoorPi45
import Derived.OpenShut
import Derived.Deep.DeepHandedRow
open Go.Proofs.Tryz
namespace Go.Proofs.YtfdppahhbpfnoaaGreatDoor
open Go.ChangeShapes Go.WideShapes Go.ChangeAt Go.RowKit Go.Joins
open Go.WideMaps Go.WideElems
open Go.ChangeMaps (open_string shut_string)
set_option maxRecDepth 100000
theorem k3m{H:Type}{d:DataW H}{l:List (DataW H)}(hk:Rows.uptoSmall H l=true)(hd:d∈l){ds:List Td}(h:∀x∈ds,x.tx.size<=Rows.uptoBulk d):v6n ds:=by
 have B:Rows.uptoBulkAll l<=1048576:=of_decide_eq_true hk;have C:=k0l hd;intro x A
 have:=h x A
 omega
theorem k9v(os:Os)(E:os.Started)(H:Type)(G:TypeId × Value->H)(F:Stop.Interp):
  ReturnsInHanded {} Tryz.checked os 3 .any ((Rows.OpenSpec.upto Rows.formIsSpec).preRow G prog Tryz.f3 Rows.formIsUptoRow.domain false Rows.formIsUptoRow.laid) (((Rows.OpenSpec.upto Rows.formIsSpec).at F).post G prog Tryz.f3 false true false false):=by
 have V:DataW.whole G prog ((q7g prog os).forCall (fun _ _=>0) ⟨#[],#[.slice none 0 0,.string ByteArray.empty,.int .i64 0],[]⟩).memory Tryz.f3.params.toList Rows.formIsSpec.vars false (show Array Value from #[.slice none 0 0,.string ByteArray.empty,.int .i64 0]).toList 8=some ([.nil,.lit (.string []),.lit (.int .i64 0)],[],[]):=by kernel_rfl
 have M:Input.okWideB prog ((q7g prog os).forCall (fun _ _=>0) ⟨#[],#[.slice none 0 0,.string ByteArray.empty,.int .i64 0],[]⟩) 3 ⟨#[],#[.slice none 0 0,.string ByteArray.empty,.int .i64 0],[]⟩=true:=by kernel_rfl
 refine returnsInHanded_of_row (C:=Tryz.checked) (s:=Rows.OpenSpec.upto Rows.formIsSpec) Tryz.own E (by kernel_rfl) func3
  ⟨q7g prog os,fun _ _=>0,⟨#[],#[.slice none 0 0,.string ByteArray.empty,.int .i64 0],[]⟩,World.layVars_os _ _ _,j9i os _,(Input.okWide_of_okWideB (base:=0) M).1,(Input.okWide_of_okWideB M).2,
   OpenSpec.preRow_of_cond 8 V (by kernel_rfl) (fun k O=>by cases O;kernel_rfl) (by kernel_rfl) (y1t os _),by
    simp only[Assume.holds]
    exact⟨by simp,by simp,by simp,by simp,by simp⟩⟩ ?_
 intro W base A o gs N D a _ J _ Z _ _;have O:=J _ rfl;have B:∀(j:Nat)t v,Tryz.f3.params[j]?=some t->A[j]?=some v->Value.okWide prog W .any base t v:=D;have I:=a;obtain⟨p,q,K,hV,rfl,_,_⟩:=a;have Y:DataW.TrodAll G prog W 0 (fun _=>true) true Tryz.f3.params.toList A.toList o p:=K;rw[Tryz.params3]at Y B;obtain⟨f,Aa,n,r,b,q0,Q,rfl,rfl,X,r0⟩:=trodAll_cons Y;obtain⟨g,Ab,d1,u,p1,q1,rfl,rfl,rfl,y,r1⟩:=trodAll_cons r0;obtain⟨i,Ac,d2,w,p2,q2,rfl,rfl,rfl,z,r2⟩:=trodAll_cons r1;obtain⟨rfl,rfl,rfl⟩:=trodAll_nil r2;obtain rfl:A=#[f,g,i]:=by cases A;simp_all
 obtain⟨rfl,rfl⟩:=trodVars_none hV;obtain⟨l,l0,m,rfl⟩:=okWide_slice Tryz.underlying22 (B 0 22 f rfl rfl);obtain⟨c,rfl,S,P,R⟩:=j0e X;obtain⟨s1,rfl,rfl,rfl,w1⟩:=open_string Tryz.underlying9 (B 1 9 g rfl rfl) y;obtain⟨i2,rfl,rfl,rfl,w2⟩:=open_int Tryz.underlying3 (B 2 3 i rfl rfl) z;clear K D;simp only[List.append_nil]at I O;have L:∀x∈b,x.block<W.heap.size:=fun x V=>I.lt x (by simp[V])
 have U:v6n c:=k3m (d:=n) O (by simp) R;refine(k9i j8d y0c c l m s1 i2 W S P U (j0x Z) (v5k Z)).mono fun e W'⟨he,hnx⟩=>?_
 subst he;refine⟨_,rfl,_,_,_,[],b++([]++([]++[])),[],I,?_,?_,rfl,hnx.frame _,fun h=>by cases h⟩
 ·exact trodAll_cons_mk (shut_bool Tryz.underlying4 _) trodAll_mk0
 ·exact trodAll_cons_mk (Below.trod v3h (by kernel_rfl) (of_decide_eq_true (by kernel_rfl)) X hnx L) (trodAll_cons_mk (shut_string Tryz.underlying9 w1) (trodAll_cons_mk (shut_int Tryz.underlying3 w2) trodAll_mk0))
theorem j4n:(Rows.formIsUptoRow.inPlace==Program.inPlace Tryz.pinned.checked.prog 3)=true:=by kernel_rfl
theorem j4o:(Rows.formIsUptoRow.unfollowed==Program.unfollowed Tryz.pinned.checked.prog 3)=true:=by kernel_rfl
theorem j4p:(Rows.formIsUptoRow.recurses==Program.recurses Tryz.pinned.checked.prog 3)=true:=by kernel_rfl
theorem j4q:(Rows.formIsUptoRow.named==Program.varsNamed Tryz.pinned.checked.prog 3)=true:=by kernel_rfl
theorem j4r:(Rows.formIsUptoRow.lifted==Program.liftsFinal Tryz.pinned.checked.prog)=true:=by kernel_rfl
theorem j4s:(Program.make Tryz.pinned.checked.prog==some Rows.formIsUptoRow.make)=true:=by kernel_rfl
theorem k0w:joinedFacts Tryz.pinned.checked.prog 3 Tryz.f3 (Rows.OpenSpec.upto Rows.formIsSpec).bare Rows.formIsUptoRow=true:=v2g y8z y9a y9b y8x j4n j4o j4p j4q j4r j4s (by kernel_rfl) (by kernel_rfl) (by kernel_rfl) (by kernel_rfl)
theorem k3v:Rows.FormIsUptoSaid:=
 OpenClaim.holds_of_cond 3 Tryz.f3 rfl rfl rfl rfl rfl rfl rfl ⟨rfl,rfl,rfl,rfl,rfl⟩ rfl rfl rfl rfl rfl (by kernel_rfl) func3 k0w
  (of_decide_eq_true (by kernel_rfl)) (by unfold Func.isWrapper;first|(rw[if_pos (by decide +kernel)];kernel_rfl)|(rw[if_neg (by decide +kernel)];exact⟨rfl,rfl⟩))
  (fun os started H enc _ F=>by rw[OpenClaim.pre_eq_preRow];exact k9v os started H enc F)
theorem j4w:OpenClaim.wfByText (Rows.OpenSpec.upto Rows.formIsSpec) Rows.formIsUptoRow=true:=by kernel_rfl
theorem k3t:Program.mainIs Tryz.pinned.checked.prog=some (Rows.formIsUptoCard.stood.harness.1,Rows.formIsUptoCard.stood.harness.2.toList):=by kernel_rfl
theorem k3u:Program.funcNamed prog Rows.formIsUptoRow.func=some 3:=by kernel_rfl
theorem k3s:false=Rows.formIsUptoRow.goesBy Tryz.pinned.checked.prog:=by kernel_rfl
theorem j4t:Program.wantsStandIn prog 22=false:=by kernel_rfl
theorem j4u:Program.wantsStandIn prog 9=false:=by kernel_rfl
theorem j4v:Program.wantsStandIn prog 3=false:=by kernel_rfl
theorem formIs_holds:Rows.FormIsUptoCardSaid:=
 Claim7.holds_tied_plain_at .later [] _ _ _ _ k3v (fun _ h=>by cases h) j4w (fun _ h=>by cases h) formIsUpto_row_tie rfl ⟨rfl,rfl⟩ k3t rfl
  (fun f fn hf hfn=>by
   obtain rfl:f=3:=(Option.some.inj (k3u.symm.trans hf)).symm;obtain rfl:fn=Tryz.f3:=(Option.some.inj (func3.symm.trans hfn)).symm;refine⟨y8y,fun j t ht=>?_⟩;rw[Tryz.params3]at ht
   have h4:t=22\/t=9\/t=3:=by
    have:=Array.mem_of_getElem? ht
    simp at this
    first|omega|(rcases this with h|h|h<;>simp[h])|(rcases this with h|h<;>simp[h])
   rcases h4 with rfl|rfl|rfl
   ·exact j4t
   ·exact j4u
   ·exact j4v)
  k3s
#print axioms formIs_holds
end Go.Proofs.YtfdppahhbpfnoaaGreatDoor
