/- The law DeskIs of package pargetrylaw2 answers true at every width and every script: a desk tells how many statements of each program are new, and has the lines that the document has (what has too many ways let go, as the law says). Its conditions: the listed package variables (errors.errorType, and Go's own strings.asciiSpace, internal/strconv.uint64pow10, math/bits.deBruijn32tab and deBruijn64tab, unicode/utf8.acceptRanges and first, unicode.White_Space, strconv.ErrRange and ErrSyntax) read as the program's text lays them, and the card ties that to the text. -/
import Derived.Test.YtchdplceopegoaaGreatDoorCards
import Derived.Test.YtchdplceopegoaaGreatDoorTie
import Derived.Test.YtchdplceopegoaaGreatDoorPi23
import Derived.Test.YtchdplceopegoaaGreatDoorPi21
import Derived.ProofKit
import Derived.OpenShut
open Go.Proofs.Tryz
namespace Go.Proofs.YtchdplceopegoaaGreatDoor
open Go.ChangeShapes Go.WideShapes Go.ChangeAt Go.RowKit Go.Joins
open Go.WideMaps Go.WideElems
open Go.ChangeMaps (open_string shut_string)
set_option maxRecDepth 100000
theorem y8h(os:Os)(E:os.Started)(H:Type)(enc:TypeId × Value->H):
  ReturnsInHanded {} Tryz.checked os 3 .any (fun w args=>(Rows.deskIsSpec.pre enc prog Tryz.f3 [] false w args/\laidMetH prog Rows.deskIsRow.laid w)/\sizedMet enc prog Tryz.f3 (OpenSpec.ofChange Rows.deskIsSpec) false w args)
   (Rows.deskIsSpec.post enc prog Tryz.f3 false true false false):=by
 refine returnsInHanded_of_change_and (C:=Tryz.checked) (X:=fun w _=>laidMetH prog Rows.deskIsRow.laid w) (fun _ _ _ hh h=>h.of_heap hh) Tryz.own E (by kernel_rfl) func3
  (ChangeSpec.witness_shaped (enc:=enc) (C:=Tryz.checked) (os:=os) (X:=fun w _=>laidMetH prog Rows.deskIsRow.laid w) false (z1m prog os) #[.int .i64 0,.slice none 0 0] 8 (World.layVars_os _ _ _) (v2b os _) (by kernel_rfl) (by kernel_rfl) (by kernel_rfl) (y5o os _)) ?_
 intro W J args R l M D V _ G U _;have Q:(DataW.weightsEach prog (Tryz.f3.params.toList++Rows.deskIsSpec.plain.varTypes prog) (R++l)).all (·<=reachBytes)=true:=G;clear G;have B:∀(j:Nat)t v,Tryz.f3.params[j]?=some t->args[j]?=some v->Value.okWide prog W .any J t v:=D;have I:=V;obtain⟨p,q,K,n,rfl,_,_⟩:=V;have S:DataW.TrodAll enc prog W 0 (fun _=>true) true Tryz.f3.params.toList args.toList R p:=K;rw[Tryz.params3]at S B Q;obtain⟨Z,z,d0,g,p0,q0,P,rfl,rfl,m,r⟩:=trodAll_cons S;obtain⟨a,Aa,d1,i,Y,q1,rfl,rfl,rfl,N,u⟩:=trodAll_cons r;obtain⟨rfl,rfl,rfl⟩:=trodAll_nil u;obtain rfl:args=#[Z,a]:=by cases args;simp_all
 obtain⟨rfl,rfl⟩:=trodVars_none n;obtain⟨o,rfl,rfl,rfl,w0⟩:=open_int Tryz.underlying3 (B 0 3 Z rfl rfl) m;obtain⟨b,l1,d,rfl⟩:=okWide_slice Tryz.underlying22 (B 1 22 a rfl rfl);obtain⟨y,rfl,O⟩:=j2n N;clear K D;simp only[List.append_nil]at I;have L:∀x∈Y,x.block<W.heap.size:=fun x hx=>I.lt x (by simp[hx])
 refine(j1k (fun s W=>(k6y s W).mono fun e w'⟨ps,k,f,A,c,N,h2,h3,_,_,h4⟩=>⟨ps,k,f,A,c,N,h2,h3,h4⟩) o y b d W O (j3j U) (v8m U)).mono fun e W'⟨he,hnx⟩=>?_
 subst he;refine⟨_,rfl,_,_,_,[],[]++(Y++[]),[],I,?_,?_,rfl,hnx.frame _,fun h=>by cases h⟩
 ·exact trodAll_cons_mk (shut_bool Tryz.underlying4 _) trodAll_mk0
 ·exact trodAll_cons_mk (shut_int Tryz.underlying3 w0) (trodAll_cons_mk (Below.trod v6g (by kernel_rfl) (of_decide_eq_true (by kernel_rfl)) N hnx L) trodAll_mk0)
theorem k1y:joinedFacts Tryz.pinned.checked.prog 3 Tryz.f3 Rows.deskIsSpec Rows.deskIsRow=true:=by kernel_rfl
theorem k5r:Rows.DeskIsSaid:=
 OpenClaim.holds_of_wide 3 Tryz.f3 rfl rfl rfl rfl rfl rfl rfl ⟨rfl,rfl,rfl,rfl,rfl⟩ rfl rfl rfl rfl rfl (by kernel_rfl) func3 k1y
  (of_decide_eq_true (by kernel_rfl)) (by unfold Func.isWrapper;first|(rw[if_pos (by decide +kernel)];kernel_rfl)|(rw[if_neg (by decide +kernel)];exact⟨rfl,rfl⟩))
  (fun os started H enc _=>y8h os started H enc)
theorem deskIs_holds:Rows.DeskIsCardSaid:=
 Claim7.holds_tied_plain_at .later [] _ _ _ _ k5r (fun _ h=>by cases h) (by kernel_rfl) (fun _ h=>by cases h) deskIs_row_tie rfl ⟨rfl,rfl⟩ (by kernel_rfl) rfl
  (fun f fn hf hfn=>by
   obtain rfl:f=3:=Option.some.inj ((show prog.funcNamed Rows.deskIsRow.func=some 3 by kernel_rfl).symm.trans hf) |>.symm
   obtain rfl:fn=Tryz.f3:=(Option.some.inj (func3.symm.trans hfn)).symm;refine⟨by kernel_rfl,fun j t ht=>?_⟩;rw[Tryz.params3]at ht
   have h4:t=3\/t=22:=by
    have:=Array.mem_of_getElem? ht
    simp at this
    first|omega|(rcases this with h|h|h<;>simp[h])|(rcases this with h|h<;>simp[h])
   rcases h4 with rfl|rfl
   ·exact(show prog.wantsStandIn 3=false by kernel_rfl)
   ·exact(show prog.wantsStandIn 22=false by kernel_rfl))
  (by kernel_rfl)
#print axioms deskIs_holds
end Go.Proofs.YtchdplceopegoaaGreatDoor
