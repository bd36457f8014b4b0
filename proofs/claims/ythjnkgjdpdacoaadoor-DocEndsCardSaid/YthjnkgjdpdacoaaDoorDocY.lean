/- write: a doc's text goes into the writer. -/
import Derived.Test.YthjnkgjdpdacoaaDoorDocX1
import Derived.Test.YthjnkgjdpdacoaaDoorDocX2
import Derived.Test.YthjnkgjdpdacoaaDoorDocX6
import Derived.Test.YthjnkgjdpdacoaaDoorDocX7
import Derived.Test.YthjnkgjdpdacoaaDoorDocX8
import Derived.Test.YthjnkgjdpdacoaaDoorDocX9
namespace Go.Proofs.YthjnkgjdpdacoaaDoor
open Go Go.RowKit

theorem write_any (B b : Nat) : ∀ t : Tr, t.Wf → WriteOk B b t.nodes t.text
  | .leaf ⟨op, tx, n⟩, h => by
    obtain ⟨_, _, _, _, h5, _⟩ := node_ok h.1
    rcases leaf_op h.1 h.2 with e | e | e | e | e
    all_goals (simp only at e; subst e)
    · exact write_1 B b tx n (isW_size (h5 rfl)).2
    · exact write_2 B b tx n
    · exact write_3 B b tx n
    · exact write_4 B b tx n
    · exact write_5 B b tx n
  | .one ⟨op, tx, n⟩ a, h => by
    obtain ⟨_, _, _, _, _, h6⟩ := node_ok h.1
    rcases one_op h.2.1 with e | e
    all_goals (simp only at e; subst e)
    · exact write_7 B b tx n (h6 rfl).1 (h6 rfl).2 _ _ (write_any B b a h.2.2)
    · exact write_8 B b tx n _ _ (write_any B b a h.2.2) (text_le a h.2.2)
  | .two ⟨op, tx, n⟩ a c, h => by
    rcases two_op h.2.1 with e | e
    all_goals (simp only at e; subst e)
    · exact write_6 B b tx n _ _ _ _ (write_any B b a h.2.2.1) (write_any B b c h.2.2.2) (text_le a h.2.2.1) (text_le c h.2.2.2)
    · exact write_9 B b tx n _ _ _ _ (write_any B b a h.2.2.1) (write_any B b c h.2.2.2) (text_le a h.2.2.1) (text_le c h.2.2.2)
end Go.Proofs.YthjnkgjdpdacoaaDoor
