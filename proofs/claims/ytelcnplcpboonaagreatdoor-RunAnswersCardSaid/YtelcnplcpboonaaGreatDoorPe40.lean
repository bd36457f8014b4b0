import Derived.Test.YtelcnplcpboonaaGreatDoorPe36
open Go.Proofs.Tryz
namespace Go.Proofs.YtelcnplcpboonaaGreatDoor
open Go
def qe:List UInt8:=[116,111,111,32,108,111,110,103,10]
def jY(s:ByteArray)(ans:List UInt8):Prop:=(3000<s.size->ans=qe)/\(s.size<=3000->∃τ,iK ⟨[],[],40⟩ (rl (ae s)) ans τ)
theorem Vk{s a b}(h:jY s a)(A:jY s b):a=b:=by grind [GV,jY]
