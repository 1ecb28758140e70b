/- The program's calendar: floorMod, floorDiv, isLeap, weekdayOf. -/
import Derived.Test.YtdepepggfoiefaaGreatDoorChecked
import Derived.Test.YtdepepggfoiefaaGreatDoorCal
set_option linter.unusedSimpArgs false
set_option linter.unusedVariables false
namespace Go.Proofs.YtdepepggfoiefaaGreatDoor
open Go.RowKit

theorem floor_mod (n b : Int) (hb : 0 < b) : (n.tmod b + b).tmod b = n % b := by
  have h0 := Int.emod_nonneg n (show b ≠ 0 by omega)
  have h1 := Int.emod_lt_of_pos n hb
  have e : n.tmod b = n % b ∨ n.tmod b = n % b - b := by
    rw [Int.tmod_eq_emod]
    split
    · left; omega
    · right
      have : (b.natAbs : Int) = b := by omega
      omega
  rw [Int.tmod_eq_emod_of_nonneg (by omega)]
  rcases e with e | e <;> rw [e]
  · rw [Int.add_emod_right, Int.emod_emod]
  · rw [show n % b - b + b = n % b by omega, Int.emod_emod]

theorem tmod_bd (n b : Int) (hb : 0 < b) : -b < n.tmod b ∧ n.tmod b < b := by
  have h0 := Int.emod_nonneg n (show b ≠ 0 by omega)
  have h1 := Int.emod_lt_of_pos n hb
  rw [Int.tmod_eq_emod]
  split
  · omega
  · have : (b.natAbs : Int) = b := by omega
    omega

set_option maxHeartbeats 400000 in
theorem code_floorMod (n b : Int) (w : World) (hb : 0 < b) (hb2 : b ≤ 1000000) (hn1 : -1000000000000 ≤ n) (hn2 : n ≤ 1000000000000) :
    Calls Tryz.prog 26 #[.int .i64 n, .int .i64 b] w fun e w' => e = .returned (.int .i64 (n % b)) ∧ w' = w := by
  obtain ⟨c, hc⟩ : ∃ c, c = n.tmod b := ⟨_, rfl⟩
  have hcb := tmod_bd n b hb
  have hf := floor_mod n b hb
  rw [← hc] at hf hcb
  obtain ⟨d, hd⟩ : ∃ d, d = n % b := ⟨_, rfl⟩
  rw [← hd] at hf
  rw [← hd]
  have hd2 : 0 ≤ d ∧ d < b := by
    have h0 := Int.emod_nonneg n (show b ≠ 0 by omega)
    have h1 := Int.emod_lt_of_pos n hb
    omega
  have hc' := hc.symm
  have HC := hide hc
  clear hc hd
  have hb0 : ¬ b = 0 := by omega
  have hbm : ¬ b = -1 := by omega
  go_enter Tryz.func26, Tryz.ntmps26
  go_wp2
  go_ret
  exact ⟨rfl, rfl⟩

theorem floor_div (n b : Int) (hb : 0 < b) : (n - n % b).tdiv b = n / b := by
  have h : n - n % b = b * (n / b) := by have := Int.emod_add_mul_ediv n b; omega
  rw [h, Int.mul_tdiv_cancel_left _ (by omega)]

set_option maxHeartbeats 400000 in
theorem code_floorDiv (n b : Int) (w : World) (hb : 0 < b) (hb2 : b ≤ 1000000) (hn1 : -1000000000000 ≤ n) (hn2 : n ≤ 1000000000000) :
    Calls Tryz.prog 25 #[.int .i64 n, .int .i64 b] w fun e w' => e = .returned (.int .i64 (n / b)) ∧ w' = w := by
  obtain ⟨c, hc⟩ : ∃ c, c = n % b := ⟨_, rfl⟩
  have hf := floor_div n b hb
  rw [← hc] at hf
  have hcb : 0 ≤ c ∧ c < b := by
    have h0 := Int.emod_nonneg n (show b ≠ 0 by omega)
    have h1 := Int.emod_lt_of_pos n hb
    omega
  obtain ⟨q, hq⟩ : ∃ q, q = n / b := ⟨_, rfl⟩
  rw [← hq] at hf
  rw [← hq]
  have hqb : -1000000000000 ≤ q ∧ q ≤ 1000000000000 := by
    have h1 := Int.ediv_le_self (b := b) (a := n)
    have h2 : -1000000000000 ≤ n / b := by
      rw [Int.le_ediv_iff_mul_le hb]
      have : (1 : Int) ≤ b := hb
      have := Int.mul_le_mul_of_nonneg_left this (show (0 : Int) ≤ 1000000000000 by decide)
      omega
    have h3 : n / b ≤ 1000000000000 := by
      have : n / b < 1000000000001 := by
        rw [Int.ediv_lt_iff_lt_mul hb]
        have : (1 : Int) ≤ b := hb
        have := Int.mul_le_mul_of_nonneg_left this (show (0 : Int) ≤ 1000000000001 by decide)
        omega
      omega
    omega
  have HC := hide hc
  clear hc hq
  have hb0 : ¬ b = 0 := by omega
  have hbm : ¬ b = -1 := by omega
  go_enter Tryz.func25, Tryz.ntmps25
  go_wp2_with (go_at_call 26; refine (code_floorMod n b _ hb hb2 hn1 hn2).mono ?_; rintro e w1 ⟨rfl, rfl⟩; rw [← unhide HC])
  go_ret
  exact ⟨rfl, rfl⟩

set_option maxHeartbeats 400000 in
theorem code_isLeap (y : Nat) (y' : Int) (e1 : y' = y) (w : World) (hy : y ≤ 100000) : Calls Tryz.prog 60 #[.int .i64 y'] w fun e w' => e = .returned (.bool (Cal.leap y)) ∧ w' = w := by
  subst e1
  by_cases h1 : y % 4 = 0 <;> by_cases h2 : y % 100 = 0 <;> by_cases h3 : y % 400 = 0
  all_goals try (exfalso; omega)
  all_goals
    have d1 : (((y : Int) % 4) == 0) = decide (y % 4 = 0) := by simp [h1]; omega
    have d2 : (((y : Int) % 100) != 0) = !decide (y % 100 = 0) := by simp [h2]; omega
    have d3 : (((y : Int) % 400) == 0) = decide (y % 400 = 0) := by simp [h3]; omega
    simp only [h1, h2, h3, decide_true, decide_false, Bool.not_true, Bool.not_false] at d1 d2 d3
    have HF : Hid (Cal.leap y = (decide (y % 4 = 0) && (!decide (y % 100 = 0)) || decide (y % 400 = 0))) := by simp [Hid, Cal.leap, h1, h2, h3]
    simp only [h1, h2, h3, decide_true, decide_false, Bool.not_true, Bool.not_false, Bool.and_true, Bool.and_false, Bool.or_true, Bool.or_false, Bool.true_and, Bool.false_and, Bool.true_or, Bool.false_or] at HF
    clear h1 h2 h3
    go_enter Tryz.func60, Tryz.ntmps60
    go_wp2
    go_ret
    exact ⟨ret_bool (unhide HF).symm, rfl⟩

set_option maxHeartbeats 400000 in
theorem code_weekdayOf (d : Int) (w : World) (h1 : -1000000 ≤ d) (h2 : d ≤ 1000000) : Calls Tryz.prog 31 #[.int .i64 d] w fun e w' => e = .returned (.int .i64 ((d + 4) % 7)) ∧ w' = w := by
  go_enter Tryz.func31, Tryz.ntmps31
  go_wp2_with (go_at_call 26; refine (code_floorMod (d + 4) 7 _ (by omega) (by omega) (by omega) (by omega)).mono ?_; rintro e w1 ⟨rfl, rfl⟩)
  go_ret
  exact ⟨rfl, rfl⟩
end Go.Proofs.YtdepepggfoiefaaGreatDoor
