/- Words of a program, by the document: what its loops go by. -/
import Derived.Test.YtlogepdifapciabDoorLexQ
import Derived.Test.YtlogepdifapciabDoorBase
import Derived.Test.YtlogepdifapciabDoorLexB
import Derived.Test.YtlogepdifapciabDoorRLow
import Derived.Test.YtlogepdifapciabDoorFilM
import Derived.Test.YtlogepdifapciabDoorIntB
namespace Go.Proofs.YtlogepdifapciabDoor
open Go Go.RowKit

set_option maxRecDepth 100000 in
theorem rfigure_any (c : UInt8) (w : World) : Calls Tryd.prog 29 #[.int .u8 (c.toNat : Int)] w fun e w' => e = .returned (.bool (figB c)) ∧ w = w' := by
  by_cases h1 : (48 : Int) ≤ (c.toNat : Int)
  · by_cases h2 : (c.toNat : Int) ≤ 57
    · have HE : Hid (figB c = true) := by show figB c = true; simp [figB]; omega
      go_enter Tryd.func29, Tryd.ntmps29
      go_wp2
      go_ret
      exact ⟨by rw [HE.out]; rfl, rfl⟩
    · have HE : Hid (figB c = false) := by show figB c = false; simp [figB]; omega
      go_enter Tryd.func29, Tryd.ntmps29
      go_wp2
      go_ret
      exact ⟨by rw [HE.out]; rfl, rfl⟩
  · have HE : Hid (figB c = false) := by show figB c = false; simp [figB]; omega
    go_enter Tryd.func29, Tryd.ntmps29
    go_wp2
    go_ret
    exact ⟨by rw [HE.out]; rfl, rfl⟩
end Go.Proofs.YtlogepdifapciabDoor
