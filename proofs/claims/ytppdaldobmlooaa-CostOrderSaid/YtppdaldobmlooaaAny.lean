/- Less, Add, Of: each by one contract. -/
import Derived.Test.YtppdaldobmlooaaAdd
import Derived.Test.YtppdaldobmlooaaOf
namespace Go.Proofs.Ytppdaldobmlooaa
open Go Go.RowKit


def okAB (a b : Int × Int) : Bool := okC a && okC b
def lessE (a b : Int × Int) : Int := if okAB a b = true then 0 else 1
def lessX (a b : Int × Int) : Bool := okAB a b && lessB a b

theorem less_any (a b : Int × Int) (w : World) :
    Calls Try.prog 5 #[costV a, costV b] w fun e w' => e = .returned (.tuple #[.bool (lessX a b), errN (lessE a b)]) ∧ Below w.heap.size w w' := by
  cases h : okAB a b with
  | false =>
    have e1 : lessX a b = false := by simp [lessX, h]
    have e2 : errN (lessE a b) = .iface 32 (.int .i64 1) := by simp [lessE, h, errN]
    rw [e1, e2]
    exact less_no a b w h
  | true =>
    have e1 : lessX a b = lessB a b := by simp [lessX, h]
    have e2 : errN (lessE a b) = .nilIface := by simp [lessE, h, errN]
    rw [e1, e2]
    simp only [okAB, Bool.and_eq_true] at h
    exact less_ok a b w h.1 h.2

def okAdd (a b : Int × Int) : Bool := okAB a b && okC (sumC a b)
def addE (a b : Int × Int) : Int := if okAdd a b = true then 0 else 1
def addX (a b : Int × Int) : Int × Int := if okAdd a b = true then sumC a b else (0, 0)

theorem add_any (a b : Int × Int) (w : World) :
    Calls Try.prog 6 #[costV a, costV b] w fun e w' => e = .returned (.tuple #[.agg #[.int .i64 (addX a b).1, .int .i64 (addX a b).2], errN (addE a b)]) ∧ Below w.heap.size w w' := by
  cases h : okAdd a b with
  | false =>
    have e1 : addX a b = (0, 0) := by simp [addX, h]
    have e2 : errN (addE a b) = .iface 32 (.int .i64 1) := by simp [addE, h, errN]
    rw [e1, e2]
    cases h1 : okAB a b with
    | false => exact add_no a b w h1
    | true =>
      simp only [okAdd, h1, Bool.true_and] at h
      simp only [okAB, Bool.and_eq_true] at h1
      exact add_full a b w h1.1 h1.2 h
  | true =>
    have e1 : addX a b = sumC a b := by simp [addX, h]
    have e2 : errN (addE a b) = .nilIface := by simp [addE, h, errN]
    rw [e1, e2]
    simp only [okAdd, okAB, Bool.and_eq_true] at h
    exact add_ok a b w h.1.1 h.1.2 h.2

def ofE (s : ByteArray) (wd : Int) : Int := if 60000 < s.size then 3 else if wd < 0 ∨ 100 < wd then 1 else 0
def ofO (s : ByteArray) (wd : Int) : Int := if ofE s wd = 0 then costOver s wd else 0
def ofL (s : ByteArray) (wd : Int) : Int := if ofE s wd = 0 then costLines s else 0

theorem of_any (s : ByteArray) (wd : Int) (w : World) :
    Calls Try.prog 4 #[.string s, .int .i64 wd] w fun e w' => e = .returned (.tuple #[.agg #[.int .i64 (ofO s wd), .int .i64 (ofL s wd)], errN (ofE s wd)]) ∧ Below w.heap.size w w' := by
  by_cases h1 : 60000 < s.size
  · have e0 : ofE s wd = 3 := by simp [ofE, h1]
    have e1 : ofO s wd = 0 := by simp [ofO, e0]
    have e2 : ofL s wd = 0 := by simp [ofL, e0]
    have e3 : errN (ofE s wd) = .iface 32 (.int .i64 3) := by simp [e0, errN]
    rw [e1, e2, e3]
    exact of_full s wd w h1
  · by_cases h2 : wd < 0 ∨ 100 < wd
    · have e0 : ofE s wd = 1 := by simp [ofE, h1, h2]
      have e1 : ofO s wd = 0 := by simp [ofO, e0]
      have e2 : ofL s wd = 0 := by simp [ofL, e0]
      have e3 : errN (ofE s wd) = .iface 32 (.int .i64 1) := by simp [e0, errN]
      rw [e1, e2, e3]
      exact of_range s wd w (by omega) h2
    · have e0 : ofE s wd = 0 := by simp [ofE, h1, h2]
      have e1 : ofO s wd = costOver s wd := by simp [ofO, e0]
      have e2 : ofL s wd = costLines s := by simp [ofL, e0]
      have e3 : errN (ofE s wd) = .nilIface := by simp [e0, errN]
      rw [e1, e2, e3]
      exact of_ok s wd w (by omega) (by omega) (by omega)
end Go.Proofs.Ytppdaldobmlooaa
