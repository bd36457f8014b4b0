import Derived.Test.YtelcnplcpboonaaGreatDoorPe00
import Derived.Test.YtelcnplcpboonaaGreatDoorCards
import Derived.ProofKit
import Derived.JoinedOf
import Derived.KernelRfl
open Go.Proofs.Tryz
namespace Go.Proofs.YtelcnplcpboonaaGreatDoor
open Go Go.RowKit
set_option maxRecDepth 100000
theorem Q2:laidOutB Tryz.pinned.checked.prog=true:=by kernel_rfl
theorem Q3:mapsRowed Tryz.pinned.checked.prog=true:=by kernel_rfl
theorem Q4:Program.stopsHeard Tryz.pinned.checked.prog=true:=by kernel_rfl
theorem QZ:Program.mayEnter Tryz.pinned.checked.prog=true:=by kernel_rfl
theorem Q1:true=Program.looks Tryz.pinned.checked.prog []:=by kernel_rfl
theorem Ud{P:Program}{f:FuncId}{fn:Func}{s:ChangeSpec}{c:OpenClaim}(i:laidOutB P=true)(j:mapsRowed P=true)(l:P.stopsHeard=true)(h:P.mayEnter=true)
  (Z:(c.inPlace==P.inPlace f)=true) (a:(c.unfollowed==P.unfollowed f)=true) (b:(c.recurses==P.recurses f)=true) (d:(c.named==P.varsNamed f)=true) (e:(c.lifted==P.liftsFinal)=true) (g:(P.make==some c.make)=true)
  (b1:c.wf (OpenSpec.ofChange s)=true) (b2:(fn.params.all (P.readableRec ·)&&namedTie P c.named s.vars&&(c.stops==[])&&(P.stops==[])&&(c.knobs==[])&&(P.stopKnobs==[]))=true)
  (b3:((c.maps==(fn.params.toList++s.plain.varTypes P).any (P.mapsRec ·))&&(c.ifaces==(fn.params.toList++s.plain.varTypes P).any (P.ifacesRec ·))&&(c.mapsOut==P.mapsAmong fn.resultTypes.toList)&&
   (c.loops==(fn.params.toList++s.plain.varTypes P).any (P.loopsFrom ·))&&(c.wideKeys==(fn.params.toList++s.plain.varTypes P++fn.resultTypes.toList).any (P.wideKeysFrom ·))&&
   s.vars.all (P.varReadable ·)&&fn.resultTypes.all (λt=>P.readableRec t&&decide (t<P.types.size))&&(c.ifacesOut==fn.resultTypes.toList.any (P.ifacesRec ·))&&(c.loopsOut==fn.resultTypes.toList.any (P.loopsFrom ·))&&(c.plainKeys==P.plainKeys)&&c.shortTexts.isNone)=true)
  (Y:((c.kinds==(if c.domain.isEmpty then []else fn.params.toList.map λt=>match P.underlying t with|some (.int k)=>some k|_=>none))&&(c.pinned==c.pinnedBy)&&
   (c.veiled==(fn.params.toList++s.plain.varTypes P++fn.resultTypes.toList).any (P.veiledRec ·))&&c.veiledFits P fn.params.toList (fn.params.toList++s.plain.varTypes P++fn.resultTypes.toList))=true):joinedFacts P f fn s c=true:=by
 unfold joinedFacts;simp only[Bool.and_eq_true]at b2 b3 Y;obtain⟨⟨⟨⟨⟨C,D⟩,E⟩,G⟩,H⟩,I⟩:=b2;obtain⟨⟨⟨⟨⟨⟨⟨⟨⟨⟨J,K⟩,L⟩,M⟩,N⟩,O⟩,Q⟩,R⟩,S⟩,A⟩,B⟩:=b3;obtain⟨⟨⟨U,V⟩,W⟩,X⟩:=Y;simp only[Bool.and_eq_true];exact⟨⟨⟨⟨⟨⟨⟨⟨⟨⟨⟨⟨⟨⟨⟨⟨⟨⟨⟨⟨⟨⟨⟨⟨⟨⟨⟨⟨⟨⟨⟨b1,i⟩,j⟩,C⟩,D⟩,E⟩,G⟩,H⟩,I⟩,Z⟩,a⟩,b⟩,d⟩,J⟩,K⟩,L⟩,M⟩,N⟩,O⟩,Q⟩,R⟩,S⟩,A⟩,B⟩,l⟩,h⟩,e⟩,g⟩,U⟩,V⟩,W⟩,X⟩
