/- The law LookIs of package pargetrylaw2 answers true at any two texts and every width: look.Check and look.Same answer as the document does, errors told (what has too many ways let go, as the law says). Its conditions: the listed package variables (errors.errorType, and Go's own strings.asciiSpace, internal/strconv.uint64pow10, math/bits.deBruijn32tab and deBruijn64tab, unicode/utf8.acceptRanges and first, unicode.White_Space, strconv.ErrRange and ErrSyntax) read as the program's text lays them, and the card ties that to the text. -/
import Derived.Test.YthcpdohdppkmkaaGreatDoorTie
import Derived.Test.YthcpdohdppkmkaaGreatDoorPl47
import Derived.Test.YthcpdohdppkmkaaGreatDoorPl36
import Derived.OpenShut
open Go.Proofs.Tryz
namespace Go.Proofs.YthcpdohdppkmkaaGreatDoor
open Go.ChangeShapes Go.WideShapes Go.ChangeAt Go.RowKit Go.Joins
open Go.WideMaps Go.WideElems
open Go.ChangeMaps (open_string shut_string)
set_option maxRecDepth 100000
theorem lifted(os:Os)(E:os.Started)(H:Type)(enc:TypeId × Value->H):
  ReturnsInHanded {} Tryz.checked os 3 .any (fun w args=>(Rows.lookIsSpec.pre enc prog Tryz.f3 [] false w args/\laidMetH prog Rows.lookIsRow.laid w)/\sizedMet enc prog Tryz.f3 (OpenSpec.ofChange Rows.lookIsSpec) false w args)
   (Rows.lookIsSpec.post enc prog Tryz.f3 false true false false):=by
 refine returnsInHanded_of_change_and (C:=Tryz.checked) (X:=fun w _=>laidMetH prog Rows.lookIsRow.laid w) (fun _ _ _ hh h=>h.of_heap hh) Tryz.own E (by kernel_rfl) func3
  (ChangeSpec.witness_shaped (enc:=enc) (C:=Tryz.checked) (os:=os) (X:=fun w _=>laidMetH prog Rows.lookIsRow.laid w) false (z0r prog os) #[.string ByteArray.empty,.int .i64 0,.string ByteArray.empty] 8 (World.layVars_os _ _ _) (j9v os _) (by kernel_rfl) (by kernel_rfl) (by kernel_rfl) (y2v os _)) ?_
 intro W I args Q g L D U _ G S _;have P:(DataW.weightsEach prog (Tryz.f3.params.toList++Rows.lookIsSpec.plain.varTypes prog) (Q++g)).all (·<=reachBytes)=true:=G;clear G;have B:∀(j:Nat)t v,Tryz.f3.params[j]?=some t->args[j]?=some v->Value.okWide prog W .any I t v:=D;have K:=U;obtain⟨p,q,J,l,rfl,_,_⟩:=U;have R:DataW.TrodAll enc prog W 0 (fun _=>true) true Tryz.f3.params.toList args.toList Q p:=J;rw[Tryz.params3]at R B P;obtain⟨V,y,d0,a,p0,q0,O,rfl,rfl,i,n⟩:=trodAll_cons R;obtain⟨Y,z,d1,b,p1,q1,rfl,rfl,rfl,M,o⟩:=trodAll_cons n;obtain⟨Z,Aa,d2,d,p2,q2,rfl,rfl,rfl,N,r⟩:=trodAll_cons o;obtain⟨rfl,rfl,rfl⟩:=trodAll_nil r;obtain rfl:args=#[V,Y,Z]:=by cases args;simp_all
 obtain⟨rfl,rfl⟩:=trodVars_none l;obtain⟨u,rfl,rfl,rfl,w0⟩:=open_string Tryz.underlying9 (B 0 9 V rfl rfl) i;obtain⟨m,rfl,rfl,rfl,w1⟩:=open_int Tryz.underlying3 (B 1 3 Y rfl rfl) M;obtain⟨x,rfl,rfl,rfl,w2⟩:=open_string Tryz.underlying9 (B 2 9 Z rfl rfl) N;clear J D;simp only[List.append_nil]at K;refine(k9t y1d (fun s W=>(k4y s W).mono fun e w'⟨ps,k,f,A,c,M,N,h3,_,_,h4⟩=>⟨ps,k,f,A,c,M,N,h3,h4⟩) u m x W (j0w S) (v6i S)).mono fun e W'⟨he,hnx⟩=>?_
 subst he;refine⟨_,rfl,_,_,_,[],[]++([]++([]++[])),[],K,?_,?_,rfl,hnx.frame _,fun h=>by cases h⟩
 ·exact trodAll_cons_mk (shut_bool Tryz.underlying4 _) trodAll_mk0
 ·exact trodAll_cons_mk (shut_string Tryz.underlying9 w0) (trodAll_cons_mk (shut_int Tryz.underlying3 w1) (trodAll_cons_mk (shut_string Tryz.underlying9 w2) trodAll_mk0))
theorem j6c:(Rows.lookIsRow.inPlace==Program.inPlace Tryz.pinned.checked.prog 3)=true:=by kernel_rfl
theorem j6d:(Rows.lookIsRow.unfollowed==Program.unfollowed Tryz.pinned.checked.prog 3)=true:=by kernel_rfl
theorem j6e:(Rows.lookIsRow.recurses==Program.recurses Tryz.pinned.checked.prog 3)=true:=by kernel_rfl
theorem j6f:(Rows.lookIsRow.named==Program.varsNamed Tryz.pinned.checked.prog 3)=true:=by kernel_rfl
theorem j6g:(Rows.lookIsRow.lifted==Program.liftsFinal Tryz.pinned.checked.prog)=true:=by kernel_rfl
theorem j6h:(Program.make Tryz.pinned.checked.prog==some Rows.lookIsRow.make)=true:=by kernel_rfl
theorem k1m:joinedFacts Tryz.pinned.checked.prog 3 Tryz.f3 Rows.lookIsSpec Rows.lookIsRow=true:=v2z g0g g0h g0i g0e j6c j6d j6e j6f j6g j6h (by kernel_rfl) (by kernel_rfl) (by kernel_rfl) (by kernel_rfl)
theorem k4h:Rows.LookIsSaid:=
 OpenClaim.holds_of_wide 3 Tryz.f3 rfl rfl rfl rfl rfl rfl rfl ⟨rfl,rfl,rfl,rfl,rfl⟩ rfl rfl rfl rfl rfl (by kernel_rfl) func3 k1m
  (of_decide_eq_true (by kernel_rfl)) (by unfold Func.isWrapper;first|(rw[if_pos (by decide +kernel)];kernel_rfl)|(rw[if_neg (by decide +kernel)];exact⟨rfl,rfl⟩))
  (fun os started H enc _=>lifted os started H enc)
theorem j6k:OpenClaim.wfByText (OpenSpec.ofChange Rows.lookIsSpec) Rows.lookIsRow=true:=by kernel_rfl
theorem k4f:Program.mainIs Tryz.pinned.checked.prog=some (Rows.lookIsCard.stood.harness.1,Rows.lookIsCard.stood.harness.2.toList):=by kernel_rfl
theorem k4g:Program.funcNamed prog Rows.lookIsRow.func=some 3:=by kernel_rfl
theorem k4e:false=Rows.lookIsRow.goesBy Tryz.pinned.checked.prog:=by kernel_rfl
theorem j6i:Program.wantsStandIn prog 9=false:=by kernel_rfl
theorem j6j:Program.wantsStandIn prog 3=false:=by kernel_rfl
theorem lookIs_holds:Rows.LookIsCardSaid:=
 Claim7.holds_tied_plain_at .later [] _ _ _ _ k4h (fun _ h=>by cases h) j6k (fun _ h=>by cases h) lookIs_row_tie rfl ⟨rfl,rfl⟩ k4f rfl
  (fun f fn hf hfn=>by
   obtain rfl:f=3:=(Option.some.inj (k4g.symm.trans hf)).symm;obtain rfl:fn=Tryz.f3:=(Option.some.inj (func3.symm.trans hfn)).symm;refine⟨g0f,fun j t ht=>?_⟩;rw[Tryz.params3]at ht
   have h4:t=9\/t=3:=by
    have:=Array.mem_of_getElem? ht
    simp at this
    first|omega|(rcases this with h|h|h<;>simp[h])|(rcases this with h|h<;>simp[h])
   rcases h4 with rfl|rfl
   ·exact j6i
   ·exact j6j)
  k4e
#print axioms lookIs_holds
end Go.Proofs.YthcpdohdppkmkaaGreatDoor
