/- The law FormBack of package pargetrylaw2 answers true at every text and all widths: what is formatted is read as it was, formatted again it is itself, and at another width it is what that width makes of the text. Its conditions: the listed package variables (Go's own strings.asciiSpace, internal/strconv.uint64pow10, math/bits.deBruijn32tab and deBruijn64tab, unicode/utf8.acceptRanges and first, unicode.White_Space, strconv.ErrRange and ErrSyntax) read as the program's text lays them, and the card ties that to the text. -/
import Derived.Test.YtfdppahhbpfnoaaGreatDoorTie
import Derived.Test.YtfdppahhbpfnoaaGreatDoorPb41
import Derived.OpenShut
open Go.Proofs.Tryz
namespace Go.Proofs.YtfdppahhbpfnoaaGreatDoor
open Go.ChangeShapes Go.WideShapes Go.ChangeAt Go.RowKit Go.Joins
open Go.WideMaps Go.WideElems
open Go.ChangeMaps (open_string shut_string)
set_option maxRecDepth 100000
theorem lifted(os:Os)(D:os.Started)(H:Type)(enc:TypeId × Value->H):
  ReturnsInHanded {} Tryz.checked os 4 .any (fun w args=>(Rows.formBackSpec.pre enc prog Tryz.f4 [] false w args/\laidMetH prog Rows.formBackRow.laid w)/\sizedMet enc prog Tryz.f4 (OpenSpec.ofChange Rows.formBackSpec) false w args)
   (Rows.formBackSpec.post enc prog Tryz.f4 false true false false):=by
 refine returnsInHanded_of_change_and (C:=Tryz.checked) (X:=fun w _=>laidMetH prog Rows.formBackRow.laid w) (fun _ _ _ hh h=>h.of_heap hh) Tryz.own D (by kernel_rfl) func4
  (ChangeSpec.witness_shaped (enc:=enc) (C:=Tryz.checked) (os:=os) (X:=fun w _=>laidMetH prog Rows.formBackRow.laid w) false (q3n prog os) #[.string ByteArray.empty,.int .i64 0,.int .i64 0] 8 (World.layVars_os _ _ _) (k3e os _) (by kernel_rfl) (by kernel_rfl) (by kernel_rfl) (j2r os _)) ?_
 intro W G args N Z K B P _ E d _;have M:(DataW.weightsEach prog (Tryz.f4.params.toList++Rows.formBackSpec.plain.varTypes prog) (N++Z)).all (·<=reachBytes)=true:=E;clear E;have A:∀(j:Nat)t v,Tryz.f4.params[j]?=some t->args[j]?=some v->Value.okWide prog W .any G t v:=B;have J:=P;obtain⟨p,q,I,f,rfl,_,_⟩:=P;have O:DataW.TrodAll enc prog W 0 (fun _=>true) true Tryz.f4.params.toList args.toList N p:=I;rw[Tryz.params4]at O A M;obtain⟨Q,o,z,U,p0,q0,L,rfl,rfl,a,k⟩:=trodAll_cons O;obtain⟨R,r,d1,V,p1,q1,rfl,rfl,rfl,b,l⟩:=trodAll_cons k;obtain⟨S,s,d2,Y,p2,q2,rfl,rfl,rfl,c,m⟩:=trodAll_cons l;obtain⟨rfl,rfl,rfl⟩:=trodAll_nil m;obtain rfl:args=#[Q,R,S]:=by cases args;simp_all
 obtain⟨rfl,rfl⟩:=trodVars_none f;obtain⟨n,rfl,rfl,rfl,u⟩:=open_string Tryz.underlying9 (A 0 9 Q rfl rfl) a;obtain⟨g,rfl,rfl,rfl,x⟩:=open_int Tryz.underlying3 (A 1 3 R rfl rfl) b;obtain⟨i,rfl,rfl,rfl,y⟩:=open_int Tryz.underlying3 (A 2 3 S rfl rfl) c;clear I B;simp only[List.append_nil]at J;refine(k1l y1m n g i W (v1z d)).mono fun e W'⟨he,hnx⟩=>?_
 subst he;refine⟨_,rfl,_,_,_,[],[]++([]++([]++[])),[],J,?_,?_,rfl,hnx.frame _,fun h=>by cases h⟩
 ·exact trodAll_cons_mk (shut_bool Tryz.underlying4 _) trodAll_mk0
 ·exact trodAll_cons_mk (shut_string Tryz.underlying9 u) (trodAll_cons_mk (shut_int Tryz.underlying3 x) (trodAll_cons_mk (shut_int Tryz.underlying3 y) trodAll_mk0))
theorem k4w:(Rows.formBackRow.inPlace==Program.inPlace Tryz.pinned.checked.prog 4)=true:=by kernel_rfl
theorem k4x:(Rows.formBackRow.unfollowed==Program.unfollowed Tryz.pinned.checked.prog 4)=true:=by kernel_rfl
theorem k4y:(Rows.formBackRow.recurses==Program.recurses Tryz.pinned.checked.prog 4)=true:=by kernel_rfl
theorem k4z:(Rows.formBackRow.named==Program.varsNamed Tryz.pinned.checked.prog 4)=true:=by kernel_rfl
theorem k5a:(Rows.formBackRow.lifted==Program.liftsFinal Tryz.pinned.checked.prog)=true:=by kernel_rfl
theorem k5b:(Program.make Tryz.pinned.checked.prog==some Rows.formBackRow.make)=true:=by kernel_rfl
theorem z5k:joinedFacts Tryz.pinned.checked.prog 4 Tryz.f4 Rows.formBackSpec Rows.formBackRow=true:=k7u g1n g1o g1p g1l k4w k4x k4y k4z k5a k5b (by kernel_rfl) (by kernel_rfl) (by kernel_rfl) (by kernel_rfl)
theorem z8k:Rows.FormBackSaid:=
 OpenClaim.holds_of_wide 4 Tryz.f4 rfl rfl rfl rfl rfl rfl rfl ⟨rfl,rfl,rfl,rfl,rfl⟩ rfl rfl rfl rfl rfl (by kernel_rfl) func4 z5k
  (of_decide_eq_true (by kernel_rfl)) (by unfold Func.isWrapper;first|(rw[if_pos (by decide +kernel)];kernel_rfl)|(rw[if_neg (by decide +kernel)];exact⟨rfl,rfl⟩))
  (fun os started H enc _=>lifted os started H enc)
theorem k5e:OpenClaim.wfByText (OpenSpec.ofChange Rows.formBackSpec) Rows.formBackRow=true:=by kernel_rfl
theorem z8i:Program.mainIs Tryz.pinned.checked.prog=some (Rows.formBackCard.stood.harness.1,Rows.formBackCard.stood.harness.2.toList):=by kernel_rfl
theorem z8j:Program.funcNamed prog Rows.formBackRow.func=some 4:=by kernel_rfl
theorem z8h:false=Rows.formBackRow.goesBy Tryz.pinned.checked.prog:=by kernel_rfl
theorem k5c:Program.wantsStandIn prog 9=false:=by kernel_rfl
theorem k5d:Program.wantsStandIn prog 3=false:=by kernel_rfl
theorem formBack_holds:Rows.FormBackCardSaid:=
 Claim7.holds_tied_plain_at .later [] _ _ _ _ z8k (fun _ h=>by cases h) k5e (fun _ h=>by cases h) formBack_row_tie rfl ⟨rfl,rfl⟩ z8i rfl
  (fun f fn hf hfn=>by
   obtain rfl:f=4:=(Option.some.inj (z8j.symm.trans hf)).symm;obtain rfl:fn=Tryz.f4:=(Option.some.inj (func4.symm.trans hfn)).symm;refine⟨g1m,fun j t ht=>?_⟩;rw[Tryz.params4]at ht
   have h4:t=9\/t=3:=by
    have:=Array.mem_of_getElem? ht
    simp at this
    first|omega|(rcases this with h|h|h<;>simp[h])|(rcases this with h|h<;>simp[h])
   rcases h4 with rfl|rfl
   ·exact k5c
   ·exact k5d)
  z8h
#print axioms formBack_holds
end Go.Proofs.YtfdppahhbpfnoaaGreatDoor
