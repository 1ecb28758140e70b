/- The reference's calendar. -/
import Derived.Test.YtnnhnihgeheahaaGreatDoorChecked
import Derived.Test.YtnnhnihgeheahaaGreatDoorCal
set_option linter.unusedSimpArgs false
set_option linter.unusedVariables false
namespace Go.Proofs.YtnnhnihgeheahaaGreatDoor
open Go.RowKit

set_option maxHeartbeats 400000 in
theorem ref_leap (y : Nat) (w : World) (hy : y ≤ 100000) : Calls Tryz.prog 98 #[.int .i64 y] w fun e w' => e = .returned (.bool (Cal.leap y)) ∧ w' = w := by
  by_cases h1 : y % 4 = 0
  · have d1 : (((y : Int) % 4) == 0) = true := by rw [beq_iff_eq]; omega
    by_cases h2 : y % 100 = 0
    · have d2 : (((y : Int) % 100) != 0) = false := by simp; omega
      by_cases h3 : y % 400 = 0
      · have d3 : (((y : Int) % 400) == 0) = true := by rw [beq_iff_eq]; omega
        have HF : Hid (Cal.leap y = true) := by simp [Hid, Cal.leap, h1, h2, h3]
        clear h1 h2 h3
        go_enter Tryz.func98, Tryz.ntmps98
        go_wp2
        go_ret
        exact ⟨ret_bool (unhide HF).symm, rfl⟩
      · have d3 : (((y : Int) % 400) == 0) = false := by rw [beq_eq_false_iff_ne]; omega
        have HF : Hid (Cal.leap y = false) := by simp [Hid, Cal.leap, h1, h2, h3]
        clear h1 h2 h3
        go_enter Tryz.func98, Tryz.ntmps98
        go_wp2
        go_ret
        exact ⟨ret_bool (unhide HF).symm, rfl⟩
    · have d2 : (((y : Int) % 100) != 0) = true := by rw [bne_iff_ne]; omega
      have HF : Hid (Cal.leap y = true) := by simp [Hid, Cal.leap, h1, h2]
      clear h1 h2
      go_enter Tryz.func98, Tryz.ntmps98
      go_wp2
      go_ret
      exact ⟨ret_bool (unhide HF).symm, rfl⟩
  · have d1 : (((y : Int) % 4) == 0) = false := by rw [beq_eq_false_iff_ne]; omega
    have HF : Hid (Cal.leap y = false) := by simp [Hid, Cal.leap, h1]
    clear h1
    go_enter Tryz.func98, Tryz.ntmps98
    go_wp2
    go_ret
    exact ⟨ret_bool (unhide HF).symm, rfl⟩

set_option maxHeartbeats 400000 in
theorem ref_year (y : Nat) (w : World) (hy : y ≤ 100000) : Calls Tryz.prog 71 #[.int .i64 y] w fun e w' => e = .returned (.int .i64 (Cal.yl y : Nat)) ∧ w' = w := by
  rcases Bool.eq_false_or_eq_true (Cal.leap y) with h | h
  all_goals
    have HF := hide h
    clear h
    go_enter Tryz.func71, Tryz.ntmps71
    go_wp2_with (go_at_call 98; refine (ref_leap y _ hy).mono ?_)
    rintro e w1 ⟨rfl, rfl⟩
    rw [unhide HF]
    go_wp2
    go_ret
    exact ⟨ret_int (by simp [Cal.yl, unhide HF]), rfl⟩

set_option maxHeartbeats 400000 in
theorem ref_Length (y m : Nat) (w : World) (hy : y ≤ 100000) (hm : m ≤ 1000000) : Calls Tryz.prog 72 #[.int .i64 y, .int .i64 m] w fun e w' => e = .returned (.int .i64 (Cal.ml y m : Nat)) ∧ w' = w := by
  by_cases h30 : m = 4 ∨ m = 6 ∨ m = 9 ∨ m = 11
  · have HF : Hid (Cal.ml y m = 30) := by simp [Hid, Cal.ml, h30]
    go_enter Tryz.func72, Tryz.ntmps72
    go_wp2
    all_goals go_ret
    all_goals exact ⟨by rw [unhide HF]; rfl, rfl⟩
  · have e4 : ((m : Int) == 4) = false := by rw [beq_eq_false_iff_ne]; omega
    have e6 : ((m : Int) == 6) = false := by rw [beq_eq_false_iff_ne]; omega
    have e9 : ((m : Int) == 9) = false := by rw [beq_eq_false_iff_ne]; omega
    have e11 : ((m : Int) == 11) = false := by rw [beq_eq_false_iff_ne]; omega
    by_cases h2 : m = 2
    · have e2 : ((m : Int) == 2) = true := by rw [beq_iff_eq]; omega
      rcases Bool.eq_false_or_eq_true (Cal.leap y) with h | h
      all_goals
        have HL := hide h
        have HF : Hid (Cal.ml y m = if Cal.leap y then 29 else 28) := by simp [Hid, Cal.ml, h2]
        clear h h2 h30
        go_enter Tryz.func72, Tryz.ntmps72
        go_wp2_with (go_at_call 98; refine (ref_leap y _ hy).mono ?_)
        rintro e w1 ⟨rfl, rfl⟩
        rw [unhide HL]
        go_wp2
        go_ret
        exact ⟨by rw [unhide HF, unhide HL]; rfl, rfl⟩
    · have e2 : ((m : Int) == 2) = false := by rw [beq_eq_false_iff_ne]; omega
      have HF : Hid (Cal.ml y m = 31) := by simp [Hid, Cal.ml, h30, h2]
      clear h2 h30
      go_enter Tryz.func72, Tryz.ntmps72
      go_wp2
      go_ret
      exact ⟨by rw [unhide HF]; rfl, rfl⟩
end Go.Proofs.YtnnhnihgeheahaaGreatDoor
