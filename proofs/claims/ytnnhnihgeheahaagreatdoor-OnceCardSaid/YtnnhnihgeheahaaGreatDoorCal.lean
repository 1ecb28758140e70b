/- Plain: the calendar. Days are counted from the beginning of 1960. -/
import Derived.Test.YtnnhnihgeheahaaGreatDoorBase2
set_option linter.unusedSimpArgs false
set_option linter.unusedVariables false
namespace Go.Proofs.YtnnhnihgeheahaaGreatDoor
namespace Cal

def leap (y : Nat) : Bool := decide (y % 4 = 0) && (decide (y % 100 ≠ 0) || decide (y % 400 = 0))
def yl (y : Nat) : Nat := if leap y then 366 else 365
def ml (y m : Nat) : Nat := if m = 4 ∨ m = 6 ∨ m = 9 ∨ m = 11 then 30 else if m = 2 then (if leap y then 29 else 28) else 31
/-- Days ahead of the n-th year behind 1960. -/
def yd : Nat → Nat
  | 0 => 0
  | n + 1 => yd n + yl (1960 + n)
/-- Days ahead of the m-th month behind January. -/
def md (y : Nat) : Nat → Nat
  | 0 => 0
  | m + 1 => md y m + ml y (m + 1)
theorem yl_bd (y : Nat) : 365 ≤ yl y ∧ yl y ≤ 366 := by unfold yl; split <;> omega
theorem ml_bd (y m : Nat) : 28 ≤ ml y m ∧ ml y m ≤ 31 := by unfold ml; (repeat' split) <;> omega
theorem md_12 (y : Nat) : md y 12 = yl y := by
  simp only [md, ml, yl]
  cases h : leap y <;> simp [h]
theorem md_mono (y : Nat) {a b : Nat} (h : a ≤ b) : md y a ≤ md y b := by
  induction b with
  | zero => rw [Nat.le_zero.1 h]; exact Nat.le_refl _
  | succ b ih =>
    rcases Nat.lt_or_ge a (b + 1) with h1 | h1
    · have := ih (by omega); show _ ≤ md y b + ml y (b + 1); omega
    · rw [show a = b + 1 by omega]; exact Nat.le_refl _
theorem yd_mono {a b : Nat} (h : a ≤ b) : yd a ≤ yd b := by
  induction b with
  | zero => rw [Nat.le_zero.1 h]; exact Nat.le_refl _
  | succ b ih =>
    rcases Nat.lt_or_ge a (b + 1) with h1 | h1
    · have := ih (by omega); show _ ≤ yd b + yl (1960 + b); omega
    · rw [show a = b + 1 by omega]; exact Nat.le_refl _
/-- Day d is the (k+1)-th of the (m+1)-th month of the n-th year behind 1960. -/
def Is (d n m k : Nat) : Prop := yd n + md (1960 + n) m + k = d ∧ k < ml (1960 + n) (m + 1) ∧ m < 12
theorem Is.year {d n m k : Nat} (h : Is d n m k) : yd n ≤ d ∧ d < yd (n + 1) := by
  obtain ⟨h1, h2, h3⟩ := h
  refine ⟨by omega, ?_⟩
  have := md_mono (1960 + n) (show m + 1 ≤ 12 by omega)
  rw [md_12] at this
  have e : md (1960 + n) (m + 1) = md (1960 + n) m + ml (1960 + n) (m + 1) := rfl
  show d < yd n + yl (1960 + n)
  omega
theorem year_unique {d n n' : Nat} (h : yd n ≤ d ∧ d < yd (n + 1)) (h' : yd n' ≤ d ∧ d < yd (n' + 1)) : n = n' := by
  rcases Nat.lt_trichotomy n n' with g | g | g
  · have := yd_mono (show n + 1 ≤ n' by omega); omega
  · exact g
  · have := yd_mono (show n' + 1 ≤ n by omega); omega
theorem Is.unique {d n m k n' m' k' : Nat} (h : Is d n m k) (h' : Is d n' m' k') : n = n' ∧ m = m' ∧ k = k' := by
  obtain rfl := year_unique h.year h'.year
  obtain ⟨h1, h2, h3⟩ := h
  obtain ⟨g1, g2, g3⟩ := h'
  have e : md (1960 + n) (m + 1) = md (1960 + n) m + ml (1960 + n) (m + 1) := rfl
  have e' : md (1960 + n) (m' + 1) = md (1960 + n) m' + ml (1960 + n) (m' + 1) := rfl
  have : m = m' := by
    rcases Nat.lt_trichotomy m m' with g | g | g
    · have := md_mono (1960 + n) (show m + 1 ≤ m' by omega); omega
    · exact g
    · have := md_mono (1960 + n) (show m' + 1 ≤ m by omega); omega
  subst this
  exact ⟨rfl, rfl, by omega⟩
theorem yd_ge (n : Nat) : 365 * n ≤ yd n := by
  induction n with
  | zero => exact Nat.le_refl _
  | succ n ih => have := (yl_bd (1960 + n)).1; show _ ≤ yd n + yl (1960 + n); omega
theorem yd_le (n : Nat) : yd n ≤ 366 * n := by
  induction n with
  | zero => exact Nat.le_refl _
  | succ n ih => have := (yl_bd (1960 + n)).2; show yd n + yl (1960 + n) ≤ _; omega
end Cal
end Go.Proofs.YtnnhnihgeheahaaGreatDoor
