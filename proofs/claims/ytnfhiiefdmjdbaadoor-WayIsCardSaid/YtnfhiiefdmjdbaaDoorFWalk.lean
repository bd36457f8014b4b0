/- (*way.finder).walk: what its ways share. (Made by tools/gen_fwalk.py.) -/
import Derived.Test.YtnfhiiefdmjdbaaDoorFnd
namespace Go.Proofs.YtnfhiiefdmjdbaaDoor
open Go Go.RowKit

theorem FS.row {B b be bf n cap made : Nat} {a : Option Addr} {path : List Int} {g : Option Nat} {w : World} (h : FS B b (plF be bf n cap a) path made g w) : ∀ k, g = some k → B ≤ k := by
  obtain ⟨v, _, hown, hg, _⟩ := h
  intro k hk
  exact (hown.lt k (hg.trans hk)).1
/-- What the call may lean on: the doc's nodes, and what is known of them. -/
structure FC (s be bf : Nat) (a : Option Addr) (ds : List Nd) (w : World) : Prop where
  nd : NodsS s w a ds
  kn : Known w be bf ds 0
theorem FC.below {B s be bf : Nat} {a : Option Addr} {ds : List Nd} {w w' : World} (h : FC s be bf a ds w) (hB : s < B ∧ be < B ∧ bf < B) (hb : Below B w w') : FC s be bf a ds w' :=
  ⟨h.nd.kept (hb.block s hB.1), h.kn.kept (hb.block be hB.2.1) (hb.block bf hB.2.2)⟩

/-- What walk leaves. -/
def FPost (B b : Nat) (pl : List Value) (pre : List Int) (q : List Int × List Int) (g : Option Nat) (w : World) (e : Ending) (w' : World) : Prop :=
  e = .returned (.tuple #[]) ∧ ∃ g', FS B b pl (pre ++ (q.1 ++ q.2)) (pre.length + q.1.length) g' w' ∧ FKeep b g g' w w'
/-- walk goes such nodes so, wherever they stand, by whatever is settled. -/
def FWalkOk (B b s be bf : Nat) (ds : List Nd) (a : Option Addr) (cap : Nat) (A : List Nd) (f : List Int → List Int × List Int) : Prop :=
  ∀ (i : Nat) (r : List Nd) (pre rest : List Int) (g : Option Nat) (w : World), ds.drop i = A ++ r → FC s be bf a ds w → FS B b (plF be bf ds.length cap a) (pre ++ rest) pre.length g w → pre.length + rest.length + A.length ≤ 100000 → B ≤ w.heap.size →
    Calls Tryd.prog 48 #[.pointer (some ⟨b, 0, none⟩), .int .i64 i] w (FPost B b (plF be bf ds.length cap a) pre (f rest) g w)

theorem go_len : ∀ (t : Tr) (rest : List Int), (t.go rest).1.length + (t.go rest).2.length ≤ rest.length + t.nodes.length
  | .leaf x, rest => by simp [Tr.go]
  | .one x a, rest => by
    simp only [Tr.go, Tr.nodes, List.length_cons]
    split
    · have := go_len a rest; omega
    · cases rest with
      | nil =>
        have := go_len a []
        simp only
        split
        · simp
        · simp only [List.length_cons, List.length_nil] at *; omega
      | cons c r =>
        have := go_len a r
        simp only
        split
        · simp only [List.length_cons] at *; omega
        · simp; omega
  | .two x a b, rest => by
    simp only [Tr.go, Tr.nodes, List.length_cons, List.length_append]
    split
    · have h1 := go_len a rest
      have h2 := go_len b (a.go rest).2
      simp only [List.length_append]
      omega
    · cases rest with
      | nil =>
        have := go_len a []
        simp only [List.length_cons, List.length_nil] at *; omega
      | cons c r =>
        have h1 := go_len a r
        have h2 := go_len b r
        simp only
        split
        · simp only [List.length_cons] at *; omega
        · simp only [List.length_cons] at *; omega

/-- A group, one of two: gone. -/
def goGroup (f : List Int → List Int × List Int) (fl : Bool) : List Int → List Int × List Int
  | [] => if fl = true then ([0], []) else (1 :: (f []).1, (f []).2)
  | c :: r => if c = 1 then (1 :: (f r).1, (f r).2) else ([c], r)
def goEither (f h : List Int → List Int × List Int) : List Int → List Int × List Int
  | [] => (0 :: (f []).1, (f []).2)
  | c :: r => if c = 0 then (0 :: (f r).1, (f r).2) else (c :: (h r).1, (h r).2)
theorem go_group {x : Nd} {a : Tr} (h : x.op = 8) : Tr.go (.one x a) = goGroup a.go a.isFlat := by
  funext rest
  simp only [Tr.go, if_neg (show ¬ x.op = 7 by omega)]
  cases rest <;> rfl
theorem go_either {x : Nd} {a b : Tr} (h : x.op = 9) : Tr.go (.two x a b) = goEither a.go b.go := by
  funext rest
  simp only [Tr.go, if_neg (show ¬ x.op = 6 by omega)]
  cases rest <;> rfl
theorem go_both {x : Nd} {a b : Tr} (h : x.op = 6) : Tr.go (.two x a b) = fun rest => ((a.go rest).1 ++ (b.go (a.go rest).2).1, (b.go (a.go rest).2).2) := by
  funext rest
  simp only [Tr.go, if_pos h]
theorem go_deep {x : Nd} {a : Tr} (h : x.op = 7) : Tr.go (.one x a) = a.go := by
  funext rest
  simp only [Tr.go, if_pos h]
end Go.Proofs.YtnfhiiefdmjdbaaDoor
