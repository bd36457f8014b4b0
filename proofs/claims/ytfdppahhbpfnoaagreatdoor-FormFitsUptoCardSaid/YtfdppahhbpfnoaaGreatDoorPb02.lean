import Derived.Test.YtfdppahhbpfnoaaGreatDoorPb00
import Derived.OwnWalkIn
import Derived.TacticsInMore
import Derived.Lib.Bytealg
import Derived.Lib.IndexBytes
import Derived.Shelf.RegionOpen
import Derived.LaidEql
import Derived.Stop.Asserts
import Derived.RowKitTokens
import Derived.Test.YtfdppahhbpfnoaaGreatDoorCards
import Derived.ProofKit
import Derived.JoinedOf
import Derived.KernelRfl
open Go.Proofs.Tryz
namespace Go.Proofs.YtfdppahhbpfnoaaGreatDoor
open Go Go.RowKit Go.Lib Go.Shelf
set_option maxRecDepth 100000
set_option maxHeartbeats 1000000
theorem q6d(s:ByteArray)(c:Int)(w:World):
  Calls prog 168 #[.string s,.int .u8 c] w fun e w'=>e=.returned (.int .i64 (Lib.indexByte s.data.toList c.toNat.toUInt8))/\w'=w:=by
 go_in;go_wp2;rw[run_callFunc_extern func197 (by kernel_rfl) (by kernel_rfl) (by kernel_rfl) (e:=Extern.BytealgIndexByte.indexByte) (by kernel_rfl),Lib.run_indexByteString];simp only[Result.andThen];rw[Oper.upon_value];go_wp2;go_ret;exact⟨rfl,rfl⟩
theorem q9w(s:ByteArray)(w:World):
  Calls prog 198 #[.string s,.string ⟨#[10]⟩] w fun e w'=>e=.returned (.int .i64 (Lib.indexByte s.data.toList 10))/\w'=w:=by
 go_in;go_wp2_with(go_at_call 168;refine(q6d _ _ _).mono ?_;rintro e w'⟨rfl,rfl⟩)
 ·have h:([10]==s.toList)=true:=by assumption
  go_ret;refine⟨?_,rfl⟩;have e:s.data.toList=[10]:=by rw[<-Lib.toList_data];exact(beq_iff_eq.1 h).symm
  rw[e];simp[Lib.indexByte]
 ·go_ret;exact⟨rfl,rfl⟩
theorem j0c(s:ByteArray)(w:World)(h:Lib.indexByte s.data.toList 10=-1):
  Calls prog 170 #[.string s,.string ⟨#[10]⟩] w fun e w'=>e=.returned (.tuple #[.string s,.string ⟨#[]⟩,.bool false])/\∃n,w'=w.drewN n:=by
 go_in;go_wp2_with(go_at_call 198;refine(q9w _ _).mono ?_;rintro e w'⟨rfl,rfl⟩;rw[h]);go_ret3;exact⟨rfl,0,rfl⟩
theorem j3x(s:ByteArray)(w:World)(i:Nat)(h:Lib.indexByte s.data.toList 10=i)(hi:i+1<=s.size)(hb:s.size<=100000000):
  Calls prog 170 #[.string s,.string ⟨#[10]⟩] w fun e w'=>e=.returned (.tuple #[.string (s.extract 0 i),.string (s.extract (i+1) s.size),.bool true])/\∃n,w'=w.drewN n:=by
 have A:(0:Int)<=↑i:=by omega
 have B:(↑i:Int)<=↑s.size:=by omega
 have C:(0:Int)<=↑i+1:=by omega
 have D:(↑i+1:Int)<=↑s.size:=by omega
 have E:(↑i:Int)<=100000000:=by omega
 go_in;go_wp2_with(go_at_call 198;refine(q9w _ _).mono ?_;rintro e w'⟨rfl,rfl⟩;rw[h])
 go_region
 go_wp2;go_ret3;exact⟨rfl,1,rfl⟩
end Go.Proofs.YtfdppahhbpfnoaaGreatDoor
namespace Go.Proofs.YtfdppahhbpfnoaaGreatDoor
open Go Go.RowKit
set_option maxRecDepth 100000
theorem g1n:laidOutB Tryz.pinned.checked.prog=true:=by kernel_rfl
theorem g1o:mapsRowed Tryz.pinned.checked.prog=true:=by kernel_rfl
theorem g1p:Program.stopsHeard Tryz.pinned.checked.prog=true:=by kernel_rfl
theorem g1l:Program.mayEnter Tryz.pinned.checked.prog=true:=by kernel_rfl
theorem g1m:true=Program.looks Tryz.pinned.checked.prog []:=by kernel_rfl
theorem k7u{P:Program}{f:FuncId}{fn:Func}{s:ChangeSpec}{c:OpenClaim}(hL:laidOutB P=true)(hM:mapsRowed P=true)(hS:P.stopsHeard=true)(hE:P.mayEnter=true)
  (a1:(c.inPlace==P.inPlace f)=true) (a2:(c.unfollowed==P.unfollowed f)=true) (a3:(c.recurses==P.recurses f)=true) (a4:(c.named==P.varsNamed f)=true) (a5:(c.lifted==P.liftsFinal)=true) (a6:(P.make==some c.make)=true)
  (b1:c.wf (OpenSpec.ofChange s)=true) (b2:(fn.params.all (P.readableRec ·)&&namedTie P c.named s.vars&&(c.stops==[])&&(P.stops==[])&&(c.knobs==[])&&(P.stopKnobs==[]))=true)
  (b3:((c.maps==(fn.params.toList++s.plain.varTypes P).any (P.mapsRec ·))&&(c.ifaces==(fn.params.toList++s.plain.varTypes P).any (P.ifacesRec ·))&&(c.mapsOut==P.mapsAmong fn.resultTypes.toList)&&
   (c.loops==(fn.params.toList++s.plain.varTypes P).any (P.loopsFrom ·))&&(c.wideKeys==(fn.params.toList++s.plain.varTypes P++fn.resultTypes.toList).any (P.wideKeysFrom ·))&&
   s.vars.all (P.varReadable ·)&&fn.resultTypes.all (fun t=>P.readableRec t&&decide (t<P.types.size))&&(c.ifacesOut==fn.resultTypes.toList.any (P.ifacesRec ·))&&(c.loopsOut==fn.resultTypes.toList.any (P.loopsFrom ·))&&(c.plainKeys==P.plainKeys)&&c.shortTexts.isNone)=true)
  (b4:((c.kinds==(if c.domain.isEmpty then []else fn.params.toList.map fun t=>match P.underlying t with|some (.int k)=>some k|_=>none))&&(c.pinned==c.pinnedBy)&&
   (c.veiled==(fn.params.toList++s.plain.varTypes P++fn.resultTypes.toList).any (P.veiledRec ·))&&c.veiledFits P fn.params.toList (fn.params.toList++s.plain.varTypes P++fn.resultTypes.toList))=true):joinedFacts P f fn s c=true:=by
 unfold joinedFacts;simp only[Bool.and_eq_true]at b2 b3 b4;obtain⟨⟨⟨⟨⟨C,D⟩,E⟩,G⟩,H⟩,I⟩:=b2;obtain⟨⟨⟨⟨⟨⟨⟨⟨⟨⟨J,K⟩,L⟩,M⟩,N⟩,O⟩,Q⟩,R⟩,S⟩,A⟩,B⟩:=b3;obtain⟨⟨⟨U,V⟩,W⟩,X⟩:=b4;simp only[Bool.and_eq_true];exact⟨⟨⟨⟨⟨⟨⟨⟨⟨⟨⟨⟨⟨⟨⟨⟨⟨⟨⟨⟨⟨⟨⟨⟨⟨⟨⟨⟨⟨⟨⟨b1,hL⟩,hM⟩,C⟩,D⟩,E⟩,G⟩,H⟩,I⟩,a1⟩,a2⟩,a3⟩,a4⟩,J⟩,K⟩,L⟩,M⟩,N⟩,O⟩,Q⟩,R⟩,S⟩,A⟩,B⟩,hS⟩,hE⟩,a5⟩,a6⟩,U⟩,V⟩,W⟩,X⟩
end Go.Proofs.YtfdppahhbpfnoaaGreatDoor
namespace Go.Proofs.YtfdppahhbpfnoaaGreatDoor
open Go Go.Lib
def ovr(wd:Int)(n:Int):Int:=max (n-wd) 0
def over(wd:Int):List Int->Int
 | []=>0
 | n::r=>ovr wd n+over wd r
def stp(wd:Int)(x:Int × Int × Int)(b:UInt8):Int × Int × Int:=
 if b=10 then(x.1,x.2.1+1,0)else(if wd<x.2.2+1 then x.1+1 else x.1,x.2.1,x.2.2+1)
def stL(wd:Int)(l:List UInt8):Int × Int × Int:=l.foldl (stp wd) (0,0,0)
theorem v5v(wd:Int)(l:List UInt8)(b:UInt8):stL wd (l++[b])=stp wd (stL wd l) b:=by simp[stL]
theorem y7v(wd:Int)(l:List UInt8):∀(x:Int × Int × Int),0<=x.1->0<=x.2.1->0<=x.2.2->
  (0<=(l.foldl (stp wd) x).1/\(l.foldl (stp wd) x).1<=x.1+l.length)/\(0<=(l.foldl (stp wd) x).2.1/\(l.foldl (stp wd) x).2.1<=x.2.1+l.length)/\(0<=(l.foldl (stp wd) x).2.2/\(l.foldl (stp wd) x).2.2<=x.2.2+l.length):=by
 induction l with
 | nil=>intro x D E G;simp;omega
 | cons b r ih=>
  intro x D E G;have e:(b::r).foldl (stp wd) x=r.foldl (stp wd) (stp wd x b):=rfl;rw[e]
  have A:0<=(stp wd x b).1/\(stp wd x b).1<=x.1+1/\0<=(stp wd x b).2.1/\(stp wd x b).2.1<=x.2.1+1/\0<=(stp wd x b).2.2/\(stp wd x b).2.2<=x.2.2+1:=by
   unfold stp;by_cases B:b=10
   ·simp only[B,if_true];omega
   ·simp only[B,if_false];by_cases C:wd<x.2.2+1
    ·simp only[C,if_true];omega
    ·simp only[C,if_false];omega
  have:=ih (stp wd x b) A.1 A.2.2.1 A.2.2.2.2.1
  simp only[List.length_cons];omega
theorem y7t(wd:Int)(l:List UInt8):(0<=(stL wd l).1/\(stL wd l).1<=l.length)/\(0<=(stL wd l).2.1/\(stL wd l).2.1<=l.length)/\(0<=(stL wd l).2.2/\(stL wd l).2.2<=l.length):=by
 have:=y7v wd l (0,0,0) (by simp) (by simp) (by simp)
 simpa[stL]using this
theorem j9z(s:ByteArray)(k:Nat)(h:k<s.size):s.data.toList.take (k+1)=s.data.toList.take k++[s[k]]:=by
 rw[List.take_succ_eq_append_getElem (by simpa using h)];rfl
end Go.Proofs.YtfdppahhbpfnoaaGreatDoor
