import Derived.Test.YtelcnplcpboonaaGreatDoorPb00
import Derived.Test.YtelcnplcpboonaaGreatDoorCards
import Derived.ProofKit
import Derived.JoinedOf
import Derived.KernelRfl
open Go.Proofs.Tryz
namespace Go.Proofs.YtelcnplcpboonaaGreatDoor
open Go Go.RowKit
set_option maxRecDepth 100000
theorem g0b:laidOutB Tryz.pinned.checked.prog=true:=by kernel_rfl
theorem g0c:mapsRowed Tryz.pinned.checked.prog=true:=by kernel_rfl
theorem g0d:Program.stopsHeard Tryz.pinned.checked.prog=true:=by kernel_rfl
theorem y9z:Program.mayEnter Tryz.pinned.checked.prog=true:=by kernel_rfl
theorem g0a:true=Program.looks Tryz.pinned.checked.prog []:=by kernel_rfl
theorem v1n{P:Program}{f:FuncId}{fn:Func}{s:ChangeSpec}{c:OpenClaim}(hL:laidOutB P=true)(hM:mapsRowed P=true)(hS:P.stopsHeard=true)(hE:P.mayEnter=true)
  (a1:(c.inPlace==P.inPlace f)=true) (a2:(c.unfollowed==P.unfollowed f)=true) (a3:(c.recurses==P.recurses f)=true) (a4:(c.named==P.varsNamed f)=true) (a5:(c.lifted==P.liftsFinal)=true) (a6:(P.make==some c.make)=true)
  (b1:c.wf (OpenSpec.ofChange s)=true) (b2:(fn.params.all (P.readableRec ·)&&namedTie P c.named s.vars&&(c.stops==[])&&(P.stops==[])&&(c.knobs==[])&&(P.stopKnobs==[]))=true)
  (b3:((c.maps==(fn.params.toList++s.plain.varTypes P).any (P.mapsRec ·))&&(c.ifaces==(fn.params.toList++s.plain.varTypes P).any (P.ifacesRec ·))&&(c.mapsOut==P.mapsAmong fn.resultTypes.toList)&&
   (c.loops==(fn.params.toList++s.plain.varTypes P).any (P.loopsFrom ·))&&(c.wideKeys==(fn.params.toList++s.plain.varTypes P++fn.resultTypes.toList).any (P.wideKeysFrom ·))&&
   s.vars.all (P.varReadable ·)&&fn.resultTypes.all (fun t=>P.readableRec t&&decide (t<P.types.size))&&(c.ifacesOut==fn.resultTypes.toList.any (P.ifacesRec ·))&&(c.loopsOut==fn.resultTypes.toList.any (P.loopsFrom ·))&&(c.plainKeys==P.plainKeys)&&c.shortTexts.isNone)=true)
  (b4:((c.kinds==(if c.domain.isEmpty then []else fn.params.toList.map fun t=>match P.underlying t with|some (.int k)=>some k|_=>none))&&(c.pinned==c.pinnedBy)&&
   (c.veiled==(fn.params.toList++s.plain.varTypes P++fn.resultTypes.toList).any (P.veiledRec ·))&&c.veiledFits P fn.params.toList (fn.params.toList++s.plain.varTypes P++fn.resultTypes.toList))=true):joinedFacts P f fn s c=true:=by
 unfold joinedFacts;simp only[Bool.and_eq_true]at b2 b3 b4;obtain⟨⟨⟨⟨⟨C,D⟩,E⟩,G⟩,H⟩,I⟩:=b2;obtain⟨⟨⟨⟨⟨⟨⟨⟨⟨⟨J,K⟩,L⟩,M⟩,N⟩,O⟩,Q⟩,R⟩,S⟩,A⟩,B⟩:=b3;obtain⟨⟨⟨U,V⟩,W⟩,X⟩:=b4;simp only[Bool.and_eq_true];exact⟨⟨⟨⟨⟨⟨⟨⟨⟨⟨⟨⟨⟨⟨⟨⟨⟨⟨⟨⟨⟨⟨⟨⟨⟨⟨⟨⟨⟨⟨⟨b1,hL⟩,hM⟩,C⟩,D⟩,E⟩,G⟩,H⟩,I⟩,a1⟩,a2⟩,a3⟩,a4⟩,J⟩,K⟩,L⟩,M⟩,N⟩,O⟩,Q⟩,R⟩,S⟩,A⟩,B⟩,hS⟩,hE⟩,a5⟩,a6⟩,U⟩,V⟩,W⟩,X⟩
end Go.Proofs.YtelcnplcpboonaaGreatDoor
