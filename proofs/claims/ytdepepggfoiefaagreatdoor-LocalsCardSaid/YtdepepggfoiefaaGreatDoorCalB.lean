/- The program's calendar: monthLength, leapsAhead, firstDay. -/
import Derived.Test.YtdepepggfoiefaaGreatDoorCalA
import Derived.Laws.Tables
set_option linter.unusedSimpArgs false
set_option linter.unusedVariables false
namespace Go.Proofs.YtdepepggfoiefaaGreatDoor
open Go.RowKit

def mlA : Array Value := #[.int .i64 31, .int .i64 28, .int .i64 31, .int .i64 30, .int .i64 31, .int .i64 30, .int .i64 31, .int .i64 31, .int .i64 30, .int .i64 31, .int .i64 30, .int .i64 31]
def Months (w : World) : Prop := ∃ t fr, w.heap[0]? = some (.cells mlA t fr)
theorem Months.only {w w' : World} (h : Months w) {l : List Nat} (k : Only l w w') (h1 : 0 ∉ l) : Months w' := by
  obtain ⟨t, fr, h⟩ := h
  exact ⟨t, fr, by rw [k.block _ (Array.getElem?_eq_some_iff.1 h).1 h1]; exact h⟩
theorem Months.cell {w : World} (h : Months w) (k : Nat) : w.cell? ⟨0, k, none⟩ = mlA[k]? := by
  obtain ⟨t, fr, h⟩ := h
  simp [World.cell?, h]

set_option maxHeartbeats 1000000 in
theorem code_monthLength (y m : Nat) (y' m' : Int) (e1 : y' = y) (e2 : m' = m + 1) (w : World) (hM : Months w) (hy : y ≤ 100000) (hm : m < 12) :
    Calls Tryz.prog 48 #[.int .i64 y', .int .i64 m'] w fun e w' => e = .returned (.int .i64 (Cal.ml y (m + 1) : Nat)) ∧ w' = w := by
  subst e1
  have c0 := hM.cell 0
  have c1 := hM.cell 1
  have c2 := hM.cell 2
  have c3 := hM.cell 3
  have c4 := hM.cell 4
  have c5 := hM.cell 5
  have c6 := hM.cell 6
  have c7 := hM.cell 7
  have c8 := hM.cell 8
  have c9 := hM.cell 9
  have c10 := hM.cell 10
  have c11 := hM.cell 11
  simp [mlA] at c0 c1 c2 c3 c4 c5 c6 c7 c8 c9 c10 c11
  clear hM
  obtain ⟨L, hL⟩ : ∃ L, L = Cal.leap y := ⟨_, rfl⟩
  have HL := hide hL
  clear hL
  have hms : m = 0 ∨ m = 1 ∨ m = 2 ∨ m = 3 ∨ m = 4 ∨ m = 5 ∨ m = 6 ∨ m = 7 ∨ m = 8 ∨ m = 9 ∨ m = 10 ∨ m = 11 := by omega
  rcases hms with rfl | rfl | rfl | rfl | rfl | rfl | rfl | rfl | rfl | rfl | rfl | rfl
  all_goals
    simp only [Int.natCast_zero, Int.natCast_one, Int.reduceAdd, Int.cast_ofNat_Int, Int.zero_add] at e2
    subst e2
  case inr.inl =>
    cases L
    all_goals
      go_enter Tryz.func48, Tryz.ntmps48
      go_wp2_with (go_at_call 60; refine (code_isLeap y _ rfl _ hy).mono ?_; rintro e w1 ⟨rfl, rfl⟩; rw [← unhide HL])
      go_ret
      exact ⟨ret_int (by simp [Cal.ml, ← unhide HL]), rfl⟩
  all_goals
    go_enter Tryz.func48, Tryz.ntmps48
    go_wp2
    go_ret
    exact ⟨ret_int (by simp [Cal.ml]), rfl⟩

theorem quo4 (n : Nat) : ((1960 + (n + 1 : Nat) : Int) - 1) / 4 = ((1960 + n : Int) - 1) / 4 + (if (1960 + n) % 4 = 0 then 1 else 0) := by split <;> omega
theorem quo100 (n : Nat) : ((1960 + (n + 1 : Nat) : Int) - 1) / 100 = ((1960 + n : Int) - 1) / 100 + (if (1960 + n) % 100 = 0 then 1 else 0) := by split <;> omega
theorem quo400 (n : Nat) : ((1960 + (n + 1 : Nat) : Int) - 1) / 400 = ((1960 + n : Int) - 1) / 400 + (if (1960 + n) % 400 = 0 then 1 else 0) := by split <;> omega

/-- The leap years ahead of a year, as the program counts them. -/
theorem yd_leaps (n : Nat) : (Cal.yd n : Int) - 3653 = 365 * ((1960 + n : Int) - 1970) + (((1960 + n : Int) - 1) / 4 - ((1960 + n : Int) - 1) / 100 + ((1960 + n : Int) - 1) / 400) - 477 := by
  induction n with
  | zero => decide
  | succ n ih =>
    have e : Cal.yd (n + 1) = Cal.yd n + Cal.yl (1960 + n) := rfl
    have hl : (Cal.yl (1960 + n) : Int) = 365 + (if (1960 + n) % 4 = 0 then 1 else 0) - (if (1960 + n) % 100 = 0 then 1 else 0) + (if (1960 + n) % 400 = 0 then 1 else 0) := by
      simp only [Cal.yl, Cal.leap]
      by_cases h1 : (1960 + n) % 4 = 0 <;> by_cases h2 : (1960 + n) % 100 = 0 <;> by_cases h3 : (1960 + n) % 400 = 0
      all_goals first | (exfalso; omega) | simp [h1, h2, h3]
    have q4 := quo4 n
    have q100 := quo100 n
    have q400 := quo400 n
    rw [e, Int.natCast_add, hl, q4, q100, q400]
    generalize (if (1960 + n) % 4 = 0 then (1 : Int) else 0) = i4
    generalize (if (1960 + n) % 100 = 0 then (1 : Int) else 0) = i100
    generalize (if (1960 + n) % 400 = 0 then (1 : Int) else 0) = i400
    generalize ((1960 + n : Int) - 1) / 4 = j4 at *
    generalize ((1960 + n : Int) - 1) / 100 = j100 at *
    generalize ((1960 + n : Int) - 1) / 400 = j400 at *
    omega

theorem code_floorDiv' (n b n' b' : Int) (e1 : n' = n) (e2 : b' = b) (w : World) (hb : 0 < b) (hb2 : b ≤ 1000000) (hn1 : -1000000000000 ≤ n) (hn2 : n ≤ 1000000000000) :
    Calls Tryz.prog 25 #[.int .i64 n', .int .i64 b'] w fun e w' => e = .returned (.int .i64 (n / b)) ∧ w' = w := by
  subst e1 e2; exact code_floorDiv _ _ w hb hb2 hn1 hn2
theorem code_floorMod' (n b n' b' : Int) (e1 : n' = n) (e2 : b' = b) (w : World) (hb : 0 < b) (hb2 : b ≤ 1000000) (hn1 : -1000000000000 ≤ n) (hn2 : n ≤ 1000000000000) :
    Calls Tryz.prog 26 #[.int .i64 n', .int .i64 b'] w fun e w' => e = .returned (.int .i64 (n % b)) ∧ w' = w := by
  subst e1 e2; exact code_floorMod _ _ w hb hb2 hn1 hn2
theorem code_weekdayOf' (d d' : Int) (e1 : d' = d) (w : World) (h1 : -1000000 ≤ d) (h2 : d ≤ 1000000) : Calls Tryz.prog 31 #[.int .i64 d'] w fun e w' => e = .returned (.int .i64 ((d + 4) % 7)) ∧ w' = w := by
  subst e1; exact code_weekdayOf _ w h1 h2

set_option maxHeartbeats 1000000 in
theorem code_leapsAhead (y y' : Int) (e1 : y' = y) (w : World) (h1 : 0 ≤ y) (h2 : y ≤ 100000) :
    Calls Tryz.prog 59 #[.int .i64 y'] w fun e w' => e = .returned (.int .i64 ((y - 1) / 4 - (y - 1) / 100 + (y - 1) / 400)) ∧ w' = w := by
  subst e1
  obtain ⟨a, ha⟩ : ∃ a, a = (y' - 1) / 4 := ⟨_, rfl⟩
  obtain ⟨b, hb⟩ : ∃ b, b = (y' - 1) / 100 := ⟨_, rfl⟩
  obtain ⟨c, hc⟩ : ∃ c, c = (y' - 1) / 400 := ⟨_, rfl⟩
  have hab : -1 ≤ a ∧ a ≤ 100000 ∧ -1 ≤ b ∧ b ≤ 100000 ∧ -1 ≤ c ∧ c ≤ 100000 := by omega
  rw [← ha, ← hb, ← hc]
  have HA := hide ha
  have HB := hide hb
  have HC := hide hc
  clear ha hb hc
  go_enter Tryz.func59, Tryz.ntmps59
  go_wp2_with (first
    | (go_at_call 25; refine (code_floorDiv' (y' - 1) 4 _ _ (by omega) (by omega) _ (by omega) (by omega) (by omega) (by omega)).mono ?_; rintro e w1 ⟨rfl, rfl⟩; rw [← unhide HA])
    | (go_at_call 25; refine (code_floorDiv' (y' - 1) 100 _ _ (by omega) (by omega) _ (by omega) (by omega) (by omega) (by omega)).mono ?_; rintro e w1 ⟨rfl, rfl⟩; rw [← unhide HB])
    | (go_at_call 25; refine (code_floorDiv' (y' - 1) 400 _ _ (by omega) (by omega) _ (by omega) (by omega) (by omega) (by omega)).mono ?_; rintro e w1 ⟨rfl, rfl⟩; rw [← unhide HC]))
  go_ret
  exact ⟨rfl, rfl⟩

set_option maxHeartbeats 1000000 in
theorem code_firstDay (n : Nat) (y : Int) (e1 : y = 1960 + n) (w : World) (hn : n ≤ 1000) :
    Calls Tryz.prog 47 #[.int .i64 y] w fun e w' => e = .returned (.int .i64 ((Cal.yd n : Int) - 3653)) ∧ w' = w := by
  subst e1
  have hy := yd_leaps n
  obtain ⟨l, hl⟩ : ∃ l, l = ((1960 + n : Int) - 1) / 4 - ((1960 + n : Int) - 1) / 100 + ((1960 + n : Int) - 1) / 400 := ⟨_, rfl⟩
  have hlb : 0 ≤ l ∧ l ≤ 3000 := by omega
  rw [← hl] at hy
  have HL := hide hl
  have HY := hide hy
  clear hl hy
  go_enter Tryz.func47, Tryz.ntmps47
  go_wp2_with (first
    | (go_at_call 59; refine (code_leapsAhead (1960 + n) _ (by omega) _ (by omega) (by omega)).mono ?_; rintro e w1 ⟨rfl, rfl⟩; rw [← unhide HL])
    | (go_at_call 59; refine (code_leapsAhead 1970 _ (by omega) _ (by omega) (by omega)).mono ?_; rintro e w1 ⟨rfl, rfl⟩))
  go_ret
  exact ⟨ret_int (by rw [unhide HY]), rfl⟩
end Go.Proofs.YtdepepggfoiefaaGreatDoor
