/- CalA, CalB, CalC, CalD, in one text. -/
import Derived.Test.YtnnhnihgeheahaaGreatDoorChecked
import Derived.Test.YtnnhnihgeheahaaGreatDoorCal
import Derived.Laws.Tables
import Derived.Test.YtnnhnihgeheahaaGreatDoorRefT
import Derived.Deep.QuietTactic
import Derived.BigQuiet
import Derived.Deep.RegionHeld3
/- The program's calendar: floorMod, floorDiv, isLeap, weekdayOf. -/
set_option linter.unusedSimpArgs false
set_option linter.unusedVariables false
namespace Go.Proofs.YtnnhnihgeheahaaGreatDoor
open Go.RowKit

theorem floor_mod (n b : Int) (hb : 0 < b) : (n.tmod b + b).tmod b = n % b := by
  have h0 := Int.emod_nonneg n (show b ≠ 0 by omega)
  have h1 := Int.emod_lt_of_pos n hb
  have e : n.tmod b = n % b ∨ n.tmod b = n % b - b := by
    rw [Int.tmod_eq_emod]
    split
    · left; omega
    · right
      have : (b.natAbs : Int) = b := by omega
      omega
  rw [Int.tmod_eq_emod_of_nonneg (by omega)]
  rcases e with e | e <;> rw [e]
  · rw [Int.add_emod_right, Int.emod_emod]
  · rw [show n % b - b + b = n % b by omega, Int.emod_emod]

theorem tmod_bd (n b : Int) (hb : 0 < b) : -b < n.tmod b ∧ n.tmod b < b := by
  have h0 := Int.emod_nonneg n (show b ≠ 0 by omega)
  have h1 := Int.emod_lt_of_pos n hb
  rw [Int.tmod_eq_emod]
  split
  · omega
  · have : (b.natAbs : Int) = b := by omega
    omega

set_option maxHeartbeats 400000 in
theorem code_floorMod (n b : Int) (w : World) (hb : 0 < b) (hb2 : b ≤ 1000000) (hn1 : -1000000000000 ≤ n) (hn2 : n ≤ 1000000000000) :
    Calls Tryz.prog 61 #[.int .i64 n, .int .i64 b] w fun e w' => e = .returned (.int .i64 (n % b)) ∧ w' = w := by
  obtain ⟨c, hc⟩ : ∃ c, c = n.tmod b := ⟨_, rfl⟩
  have hcb := tmod_bd n b hb
  have hf := floor_mod n b hb
  rw [← hc] at hf hcb
  obtain ⟨d, hd⟩ : ∃ d, d = n % b := ⟨_, rfl⟩
  rw [← hd] at hf
  rw [← hd]
  have hd2 : 0 ≤ d ∧ d < b := by
    have h0 := Int.emod_nonneg n (show b ≠ 0 by omega)
    have h1 := Int.emod_lt_of_pos n hb
    omega
  have hc' := hc.symm
  have HC := hide hc
  clear hc hd
  have hb0 : ¬ b = 0 := by omega
  have hbm : ¬ b = -1 := by omega
  go_enter Tryz.func61, Tryz.ntmps61
  go_wp2
  go_ret
  exact ⟨rfl, rfl⟩

theorem floor_div (n b : Int) (hb : 0 < b) : (n - n % b).tdiv b = n / b := by
  have h : n - n % b = b * (n / b) := by have := Int.emod_add_mul_ediv n b; omega
  rw [h, Int.mul_tdiv_cancel_left _ (by omega)]

set_option maxHeartbeats 400000 in
theorem code_floorDiv (n b : Int) (w : World) (hb : 0 < b) (hb2 : b ≤ 1000000) (hn1 : -1000000000000 ≤ n) (hn2 : n ≤ 1000000000000) :
    Calls Tryz.prog 60 #[.int .i64 n, .int .i64 b] w fun e w' => e = .returned (.int .i64 (n / b)) ∧ w' = w := by
  obtain ⟨c, hc⟩ : ∃ c, c = n % b := ⟨_, rfl⟩
  have hf := floor_div n b hb
  rw [← hc] at hf
  have hcb : 0 ≤ c ∧ c < b := by
    have h0 := Int.emod_nonneg n (show b ≠ 0 by omega)
    have h1 := Int.emod_lt_of_pos n hb
    omega
  obtain ⟨q, hq⟩ : ∃ q, q = n / b := ⟨_, rfl⟩
  rw [← hq] at hf
  rw [← hq]
  have hqb : -1000000000000 ≤ q ∧ q ≤ 1000000000000 := by
    have h1 := Int.ediv_le_self (b := b) (a := n)
    have h2 : -1000000000000 ≤ n / b := by
      rw [Int.le_ediv_iff_mul_le hb]
      have : (1 : Int) ≤ b := hb
      have := Int.mul_le_mul_of_nonneg_left this (show (0 : Int) ≤ 1000000000000 by decide)
      omega
    have h3 : n / b ≤ 1000000000000 := by
      have : n / b < 1000000000001 := by
        rw [Int.ediv_lt_iff_lt_mul hb]
        have : (1 : Int) ≤ b := hb
        have := Int.mul_le_mul_of_nonneg_left this (show (0 : Int) ≤ 1000000000001 by decide)
        omega
      omega
    omega
  have HC := hide hc
  clear hc hq
  have hb0 : ¬ b = 0 := by omega
  have hbm : ¬ b = -1 := by omega
  go_enter Tryz.func60, Tryz.ntmps60
  go_wp2_with (go_at_call 61; refine (code_floorMod n b _ hb hb2 hn1 hn2).mono ?_; rintro e w1 ⟨rfl, rfl⟩; rw [← unhide HC])
  go_ret
  exact ⟨rfl, rfl⟩

set_option maxHeartbeats 400000 in
theorem code_isLeap (y : Nat) (y' : Int) (e1 : y' = y) (w : World) (hy : y ≤ 100000) : Calls Tryz.prog 128 #[.int .i64 y'] w fun e w' => e = .returned (.bool (Cal.leap y)) ∧ w' = w := by
  subst e1
  by_cases h1 : y % 4 = 0 <;> by_cases h2 : y % 100 = 0 <;> by_cases h3 : y % 400 = 0
  all_goals try (exfalso; omega)
  all_goals
    have d1 : (((y : Int) % 4) == 0) = decide (y % 4 = 0) := by simp [h1]; omega
    have d2 : (((y : Int) % 100) != 0) = !decide (y % 100 = 0) := by simp [h2]; omega
    have d3 : (((y : Int) % 400) == 0) = decide (y % 400 = 0) := by simp [h3]; omega
    simp only [h1, h2, h3, decide_true, decide_false, Bool.not_true, Bool.not_false] at d1 d2 d3
    have HF : Hid (Cal.leap y = (decide (y % 4 = 0) && (!decide (y % 100 = 0)) || decide (y % 400 = 0))) := by simp [Hid, Cal.leap, h1, h2, h3]
    simp only [h1, h2, h3, decide_true, decide_false, Bool.not_true, Bool.not_false, Bool.and_true, Bool.and_false, Bool.or_true, Bool.or_false, Bool.true_and, Bool.false_and, Bool.true_or, Bool.false_or] at HF
    clear h1 h2 h3
    go_enter Tryz.func128, Tryz.ntmps128
    go_wp2
    go_ret
    exact ⟨ret_bool (unhide HF).symm, rfl⟩

set_option maxHeartbeats 400000 in
theorem code_weekdayOf (d : Int) (w : World) (h1 : -1000000 ≤ d) (h2 : d ≤ 1000000) : Calls Tryz.prog 66 #[.int .i64 d] w fun e w' => e = .returned (.int .i64 ((d + 4) % 7)) ∧ w' = w := by
  go_enter Tryz.func66, Tryz.ntmps66
  go_wp2_with (go_at_call 61; refine (code_floorMod (d + 4) 7 _ (by omega) (by omega) (by omega) (by omega)).mono ?_; rintro e w1 ⟨rfl, rfl⟩)
  go_ret
  exact ⟨rfl, rfl⟩
end Go.Proofs.YtnnhnihgeheahaaGreatDoor

/- The program's calendar: monthLength, leapsAhead, firstDay. -/
set_option linter.unusedSimpArgs false
set_option linter.unusedVariables false
namespace Go.Proofs.YtnnhnihgeheahaaGreatDoor
open Go.RowKit

def mlA : Array Value := #[.int .i64 31, .int .i64 28, .int .i64 31, .int .i64 30, .int .i64 31, .int .i64 30, .int .i64 31, .int .i64 31, .int .i64 30, .int .i64 31, .int .i64 30, .int .i64 31]
def Months (w : World) : Prop := ∃ t fr, w.heap[1]? = some (.cells mlA t fr)
theorem Months.only {w w' : World} (h : Months w) {l : List Nat} (k : Only l w w') (h1 : 1 ∉ l) : Months w' := by
  obtain ⟨t, fr, h⟩ := h
  exact ⟨t, fr, by rw [k.block _ (Array.getElem?_eq_some_iff.1 h).1 h1]; exact h⟩
theorem Months.cell {w : World} (h : Months w) (k : Nat) : w.cell? ⟨1, k, none⟩ = mlA[k]? := by
  obtain ⟨t, fr, h⟩ := h
  simp [World.cell?, h]

set_option maxHeartbeats 1000000 in
theorem code_monthLength (y m : Nat) (y' m' : Int) (e1 : y' = y) (e2 : m' = m + 1) (w : World) (hM : Months w) (hy : y ≤ 100000) (hm : m < 12) :
    Calls Tryz.prog 92 #[.int .i64 y', .int .i64 m'] w fun e w' => e = .returned (.int .i64 (Cal.ml y (m + 1) : Nat)) ∧ w' = w := by
  subst e1
  have c0 := hM.cell 0
  have c1 := hM.cell 1
  have c2 := hM.cell 2
  have c3 := hM.cell 3
  have c4 := hM.cell 4
  have c5 := hM.cell 5
  have c6 := hM.cell 6
  have c7 := hM.cell 7
  have c8 := hM.cell 8
  have c9 := hM.cell 9
  have c10 := hM.cell 10
  have c11 := hM.cell 11
  simp [mlA] at c0 c1 c2 c3 c4 c5 c6 c7 c8 c9 c10 c11
  clear hM
  obtain ⟨L, hL⟩ : ∃ L, L = Cal.leap y := ⟨_, rfl⟩
  have HL := hide hL
  clear hL
  have hms : m = 0 ∨ m = 1 ∨ m = 2 ∨ m = 3 ∨ m = 4 ∨ m = 5 ∨ m = 6 ∨ m = 7 ∨ m = 8 ∨ m = 9 ∨ m = 10 ∨ m = 11 := by omega
  rcases hms with rfl | rfl | rfl | rfl | rfl | rfl | rfl | rfl | rfl | rfl | rfl | rfl
  all_goals
    simp only [Int.natCast_zero, Int.natCast_one, Int.reduceAdd, Int.cast_ofNat_Int, Int.zero_add] at e2
    subst e2
  case inr.inl =>
    cases L
    all_goals
      go_enter Tryz.func92, Tryz.ntmps92
      go_wp2_with (go_at_call 128; refine (code_isLeap y _ rfl _ hy).mono ?_; rintro e w1 ⟨rfl, rfl⟩; rw [← unhide HL])
      go_ret
      exact ⟨ret_int (by simp [Cal.ml, ← unhide HL]), rfl⟩
  all_goals
    go_enter Tryz.func92, Tryz.ntmps92
    go_wp2
    go_ret
    exact ⟨ret_int (by simp [Cal.ml]), rfl⟩

theorem quo4 (n : Nat) : ((1960 + (n + 1 : Nat) : Int) - 1) / 4 = ((1960 + n : Int) - 1) / 4 + (if (1960 + n) % 4 = 0 then 1 else 0) := by split <;> omega
theorem quo100 (n : Nat) : ((1960 + (n + 1 : Nat) : Int) - 1) / 100 = ((1960 + n : Int) - 1) / 100 + (if (1960 + n) % 100 = 0 then 1 else 0) := by split <;> omega
theorem quo400 (n : Nat) : ((1960 + (n + 1 : Nat) : Int) - 1) / 400 = ((1960 + n : Int) - 1) / 400 + (if (1960 + n) % 400 = 0 then 1 else 0) := by split <;> omega

/-- The leap years ahead of a year, as the program counts them. -/
theorem yd_leaps (n : Nat) : (Cal.yd n : Int) - 3653 = 365 * ((1960 + n : Int) - 1970) + (((1960 + n : Int) - 1) / 4 - ((1960 + n : Int) - 1) / 100 + ((1960 + n : Int) - 1) / 400) - 477 := by
  induction n with
  | zero => decide
  | succ n ih =>
    have e : Cal.yd (n + 1) = Cal.yd n + Cal.yl (1960 + n) := rfl
    have hl : (Cal.yl (1960 + n) : Int) = 365 + (if (1960 + n) % 4 = 0 then 1 else 0) - (if (1960 + n) % 100 = 0 then 1 else 0) + (if (1960 + n) % 400 = 0 then 1 else 0) := by
      simp only [Cal.yl, Cal.leap]
      by_cases h1 : (1960 + n) % 4 = 0 <;> by_cases h2 : (1960 + n) % 100 = 0 <;> by_cases h3 : (1960 + n) % 400 = 0
      all_goals first | (exfalso; omega) | simp [h1, h2, h3]
    have q4 := quo4 n
    have q100 := quo100 n
    have q400 := quo400 n
    rw [e, Int.natCast_add, hl, q4, q100, q400]
    generalize (if (1960 + n) % 4 = 0 then (1 : Int) else 0) = i4
    generalize (if (1960 + n) % 100 = 0 then (1 : Int) else 0) = i100
    generalize (if (1960 + n) % 400 = 0 then (1 : Int) else 0) = i400
    generalize ((1960 + n : Int) - 1) / 4 = j4 at *
    generalize ((1960 + n : Int) - 1) / 100 = j100 at *
    generalize ((1960 + n : Int) - 1) / 400 = j400 at *
    omega

theorem code_floorDiv' (n b n' b' : Int) (e1 : n' = n) (e2 : b' = b) (w : World) (hb : 0 < b) (hb2 : b ≤ 1000000) (hn1 : -1000000000000 ≤ n) (hn2 : n ≤ 1000000000000) :
    Calls Tryz.prog 60 #[.int .i64 n', .int .i64 b'] w fun e w' => e = .returned (.int .i64 (n / b)) ∧ w' = w := by
  subst e1 e2; exact code_floorDiv _ _ w hb hb2 hn1 hn2
theorem code_floorMod' (n b n' b' : Int) (e1 : n' = n) (e2 : b' = b) (w : World) (hb : 0 < b) (hb2 : b ≤ 1000000) (hn1 : -1000000000000 ≤ n) (hn2 : n ≤ 1000000000000) :
    Calls Tryz.prog 61 #[.int .i64 n', .int .i64 b'] w fun e w' => e = .returned (.int .i64 (n % b)) ∧ w' = w := by
  subst e1 e2; exact code_floorMod _ _ w hb hb2 hn1 hn2
theorem code_weekdayOf' (d d' : Int) (e1 : d' = d) (w : World) (h1 : -1000000 ≤ d) (h2 : d ≤ 1000000) : Calls Tryz.prog 66 #[.int .i64 d'] w fun e w' => e = .returned (.int .i64 ((d + 4) % 7)) ∧ w' = w := by
  subst e1; exact code_weekdayOf _ w h1 h2

set_option maxHeartbeats 1000000 in
theorem code_leapsAhead (y y' : Int) (e1 : y' = y) (w : World) (h1 : 0 ≤ y) (h2 : y ≤ 100000) :
    Calls Tryz.prog 127 #[.int .i64 y'] w fun e w' => e = .returned (.int .i64 ((y - 1) / 4 - (y - 1) / 100 + (y - 1) / 400)) ∧ w' = w := by
  subst e1
  obtain ⟨a, ha⟩ : ∃ a, a = (y' - 1) / 4 := ⟨_, rfl⟩
  obtain ⟨b, hb⟩ : ∃ b, b = (y' - 1) / 100 := ⟨_, rfl⟩
  obtain ⟨c, hc⟩ : ∃ c, c = (y' - 1) / 400 := ⟨_, rfl⟩
  have hab : -1 ≤ a ∧ a ≤ 100000 ∧ -1 ≤ b ∧ b ≤ 100000 ∧ -1 ≤ c ∧ c ≤ 100000 := by omega
  rw [← ha, ← hb, ← hc]
  have HA := hide ha
  have HB := hide hb
  have HC := hide hc
  clear ha hb hc
  go_enter Tryz.func127, Tryz.ntmps127
  go_wp2_with (first
    | (go_at_call 60; refine (code_floorDiv' (y' - 1) 4 _ _ (by omega) (by omega) _ (by omega) (by omega) (by omega) (by omega)).mono ?_; rintro e w1 ⟨rfl, rfl⟩; rw [← unhide HA])
    | (go_at_call 60; refine (code_floorDiv' (y' - 1) 100 _ _ (by omega) (by omega) _ (by omega) (by omega) (by omega) (by omega)).mono ?_; rintro e w1 ⟨rfl, rfl⟩; rw [← unhide HB])
    | (go_at_call 60; refine (code_floorDiv' (y' - 1) 400 _ _ (by omega) (by omega) _ (by omega) (by omega) (by omega) (by omega)).mono ?_; rintro e w1 ⟨rfl, rfl⟩; rw [← unhide HC]))
  go_ret
  exact ⟨rfl, rfl⟩

set_option maxHeartbeats 1000000 in
theorem code_firstDay (n : Nat) (y : Int) (e1 : y = 1960 + n) (w : World) (hn : n ≤ 1000) :
    Calls Tryz.prog 91 #[.int .i64 y] w fun e w' => e = .returned (.int .i64 ((Cal.yd n : Int) - 3653)) ∧ w' = w := by
  subst e1
  have hy := yd_leaps n
  obtain ⟨l, hl⟩ : ∃ l, l = ((1960 + n : Int) - 1) / 4 - ((1960 + n : Int) - 1) / 100 + ((1960 + n : Int) - 1) / 400 := ⟨_, rfl⟩
  have hlb : 0 ≤ l ∧ l ≤ 3000 := by omega
  rw [← hl] at hy
  have HL := hide hl
  have HY := hide hy
  clear hl hy
  go_enter Tryz.func91, Tryz.ntmps91
  go_wp2_with (first
    | (go_at_call 127; refine (code_leapsAhead (1960 + n) _ (by omega) _ (by omega) (by omega)).mono ?_; rintro e w1 ⟨rfl, rfl⟩; rw [← unhide HL])
    | (go_at_call 127; refine (code_leapsAhead 1970 _ (by omega) _ (by omega) (by omega)).mono ?_; rintro e w1 ⟨rfl, rfl⟩))
  go_ret
  exact ⟨ret_int (by rw [unhide HY]), rfl⟩
end Go.Proofs.YtnnhnihgeheahaaGreatDoor

/- The program's calendar: yearOf, dayOf, dateOf. -/
set_option linter.unusedSimpArgs false
set_option linter.unusedVariables false
namespace Go.Proofs.YtnnhnihgeheahaaGreatDoor
open Go.RowKit

set_option maxHeartbeats 2000000 in
theorem code_yearOf (D : Nat) (d : Int) (e1 : d = (D : Int) - 3653) (w : World) (h1 : 600 ≤ D) (h2 : D ≤ 70000) :
    Calls Tryz.prog 90 #[.int .i64 d] w fun e w' => ∃ n : Nat, n ≤ 200 ∧ (Cal.yd n ≤ D ∧ D < Cal.yd (n + 1)) ∧ e = .returned (.int .i64 ((1960 + n : Nat) : Int)) ∧ w' = w := by
  subst e1
  obtain ⟨g, hg⟩ : ∃ g : Int, g = ((D : Int) - 3653) * 400 / 146097 := ⟨_, rfl⟩
  have hgb : -9 ≤ g ∧ g ≤ 190 := by omega
  have HG := hide hg
  clear hg
  go_enter Tryz.func90, Tryz.ntmps90
  go_wp2_with (go_at_call 60; refine (code_floorDiv' (((D : Int) - 3653) * 400) 146097 _ _ (by omega) (by omega) _ (by omega) (by omega) (by omega) (by omega)).mono ?_; rintro e w1 ⟨rfl, rfl⟩; rw [← unhide HG])
  go_loop [3] (fun y => ∃ j : Nat, j ≤ 200 ∧ y = .int .i64 ((1960 + j : Nat) : Int)) (fun y => (intOf y).toNat)
  case atStart => exact ⟨(g + 10).toNat, by omega, by go_num⟩
  case round =>
    obtain ⟨j, hj, rfl⟩ := hrel
    obtain ⟨F, hF⟩ : ∃ F, F = Cal.yd j := ⟨_, rfl⟩
    have hle := Cal.yd_le j
    rw [← hF] at hle
    have HF := hide hF
    clear hF
    by_cases hlt : D < F
    · have hj0 : 0 < j := by
        rcases Nat.eq_zero_or_pos j with h | h
        · have := unhide HF; rw [h] at this; simp [Cal.yd] at this; omega
        · exact h
      go_wp2_with (go_at_call 91; refine (code_firstDay j _ (by omega) _ (by omega)).mono ?_; rintro e w1 ⟨rfl, rfl⟩; rw [← unhide HF])
      go_round
      case rel => exact ⟨j - 1, by omega, by go_num⟩
      case measure => simp [intOf]; omega
    · go_wp2_with (go_at_call 91; refine (code_firstDay j _ (by omega) _ (by omega)).mono ?_; rintro e w1 ⟨rfl, rfl⟩; rw [← unhide HF])
      go_loop [3] (fun y => ∃ i : Nat, i ≤ 200 ∧ Hid (Cal.yd i ≤ D) ∧ y = .int .i64 ((1960 + i : Nat) : Int)) (fun y => 4000 - (intOf y).toNat)
      case atStart => exact ⟨j, hj, by have := unhide HF; simp only [Hid]; omega, rfl⟩
      case round =>
        obtain ⟨i, hi, HI, rfl⟩ := hrel
        obtain ⟨G, hG⟩ : ∃ G, G = Cal.yd (i + 1) := ⟨_, rfl⟩
        have hle := Cal.yd_le (i + 1)
        have hge := Cal.yd_ge (i + 1)
        rw [← hG] at hle hge
        have HG2 := hide hG
        clear hG
        by_cases hlt2 : G ≤ D
        · go_wp2_with (go_at_call 91; refine (code_firstDay (i + 1) _ (by omega) _ (by omega)).mono ?_; rintro e w1 ⟨rfl, rfl⟩; rw [← unhide HG2])
          go_round
          case rel => exact ⟨i + 1, by omega, by have := unhide HG2; simp only [Hid]; omega, by go_num⟩
          case measure => simp [intOf]; omega
        · go_wp2_with (go_at_call 91; refine (code_firstDay (i + 1) _ (by omega) _ (by omega)).mono ?_; rintro e w1 ⟨rfl, rfl⟩; rw [← unhide HG2])
          go_ret
          exact ⟨i, hi, ⟨unhide HI, by have := unhide HG2; omega⟩, rfl, rfl⟩

theorem Months.alloc {w : World} (h : Months w) (o : Obj) : Months (w.alloc o) := h.only ((Only.refl [] w).alloc o) (by simp)

set_option maxHeartbeats 2000000 in
theorem code_dayOf (n m d : Nat) (y' m' d' : Int) (e1 : y' = 1960 + n) (e2 : m' = m + 1) (e3 : d' = d) (w : World) (hM : Months w) (hn : n ≤ 1000) (hm : m < 12) (hd : d ≤ 1000) :
    Calls Tryz.prog 187 #[.agg #[.int .i64 y', .int .i64 m', .int .i64 d']] w fun e w' => e = .returned (.int .i64 ((Cal.yd n : Int) + Cal.md (1960 + n) m + d - 3654)) ∧ Only [] w w' := by
  subst e1 e2 e3
  obtain ⟨F, hF⟩ : ∃ F, F = Cal.yd n := ⟨_, rfl⟩
  have hle := Cal.yd_le n
  rw [← hF] at hle
  have HF := hide hF
  have HM := hide hM
  obtain ⟨y, hy⟩ : ∃ y, y = 1960 + n := ⟨_, rfl⟩
  have hyi : (1960 : Int) + n = y := by omega
  rw [hyi, ← hy, ← hF]
  have hyb : y ≤ 3000 := by omega
  have HY := hide hyi
  have HB := hide (Blk.new w #[.int .i64 y, .int .i64 ((m : Int) + 1), .int .i64 (d : Int)] 130)
  clear hF hM hy hyi
  go_enter Tryz.func187, Tryz.ntmps187
  go_wp2_with (go_at_call 91; refine (code_firstDay n _ (unhide HY).symm _ (by omega)).mono ?_; rintro e w1 ⟨rfl, rfl⟩; rw [← unhide HF])
  go_loop [3, 4] (fun a k => ∃ i u : Nat, i ≤ m ∧ k = .int .i64 ((1 + i : Nat) : Int) ∧ u ≤ 1000 ∧ Hid (u = Cal.md y i) ∧ a = .int .i64 ((F : Int) + u - 3653)) (fun _ k => 20 - (intOf k).toNat)
  case atStart => exact ⟨0, 0, Nat.zero_le _, rfl, by omega, rfl, by go_num⟩
  case round =>
    obtain ⟨i, u, hi, rfl, hu4, HU, rfl⟩ := hrel
    by_cases hlt : i < m
    · have hb := Cal.ml_bd y (i + 1)
      have hle2 := Cal.md_mono y (show i + 1 ≤ 12 by omega)
      rw [Cal.md_12] at hle2
      have hyl := (Cal.yl_bd y).2
      have he : Cal.md y (i + 1) = Cal.md y i + Cal.ml y (i + 1) := rfl
      obtain ⟨L, hL⟩ : ∃ L, L = Cal.ml y (i + 1) := ⟨_, rfl⟩
      have hfin : u + L = Cal.md y (i + 1) := by rw [hL, he, unhide HU]
      rw [← hL] at hb he
      have HL := hide hL
      have huL : u + L ≤ 1000 := by omega
      have HFI := hide hfin
      clear hfin he hle2 hL hyl
      go_wp2_with (go_at_call 92; refine (code_monthLength y i _ _ (by rfl) (by omega) _ ((unhide HM).alloc _) (by omega) (by omega)).mono ?_; rintro e w1 ⟨rfl, rfl⟩; rw [← unhide HL])
      go_round
      case rel => exact ⟨i + 1, u + L, hlt, by go_num, huL, unhide HFI, by go_num⟩
      case measure => simp [intOf]; omega
    · have him : i = m := by omega
      subst him
      clear hlt
      go_wp2
      go_ret
      refine ⟨ret_int ?_, (Only.refl _ _).alloc _⟩
      rw [← unhide HU]
      omega

def dateC (n m k : Nat) : Value := .agg #[.int .i64 ((1960 + n : Nat) : Int), .int .i64 ((1 + m : Nat) : Int), .int .i64 ((k + 1 : Nat) : Int)]

set_option maxHeartbeats 2000000 in
theorem code_dateOf (D : Nat) (d : Int) (e1 : d = (D : Int) - 3653) (w : World) (hM : Months w) (h1 : 600 ≤ D) (h2 : D ≤ 70000) :
    Calls Tryz.prog 62 #[.int .i64 d] w fun e w' => ∃ n m k : Nat, n ≤ 200 ∧ Cal.Is D n m k ∧ e = .returned (dateC n m k) ∧ Only [] w w' := by
  subst e1
  have HM := hide hM
  clear hM
  go_enter Tryz.func62, Tryz.ntmps62
  go_wp2_with (go_at_call 90; refine (code_yearOf D _ (by rfl) _ h1 h2).mono ?_; rintro e w1 ⟨n, hn, hy12, rfl, rfl⟩; have HN := hide hy12; clear hy12)
  obtain ⟨F, hF⟩ : ∃ F, F = Cal.yd n := ⟨_, rfl⟩
  have hFD : F ≤ D := by rw [hF]; exact (unhide HN).1
  obtain ⟨y, hy⟩ : ∃ y, y = 1960 + n := ⟨_, rfl⟩
  have hyi : (1960 : Int) + n = y := by omega
  obtain ⟨v, hv⟩ : ∃ v, v = D - F := ⟨_, rfl⟩
  have hvi : (D : Int) - 3653 - ((F : Int) - 3653) = v := by omega
  have hvL : v < Cal.yl y := by
    have h := (unhide HN).2
    have e : Cal.yd (n + 1) = Cal.yd n + Cal.yl (1960 + n) := rfl
    rw [hy]; omega
  have hvb : v ≤ 366 := by have := (Cal.yl_bd y).2; omega
  have hyb : y ≤ 3000 := by omega
  have HVL := hide hvL
  have HF := hide hF
  have HY := hide hy
  have HV := hide hv
  rw [hyi]
  have HYI := hide hyi
  clear hF hy hv hvL hyi
  go_wp2_with (go_at_call 91; refine (code_firstDay n _ (unhide HYI).symm _ (by omega)).mono ?_; rintro e w1 ⟨rfl, rfl⟩; rw [← unhide HF])
  go_loop [4, 5] (fun d m => ∃ i u : Nat, Hid (Cal.md y i + u = v) ∧ u ≤ 400 ∧ i < 12 ∧ d = .int .i64 (u : Int) ∧ m = .int .i64 ((1 + i : Nat) : Int)) (fun d _ => (intOf d).toNat)
  case atStart => exact ⟨0, v, by simp [Hid, Cal.md], by omega, by omega, rfl, rfl⟩
  case round =>
    obtain ⟨i, u, HU, hu1, hi, rfl, rfl⟩ := hrel
    have hb := Cal.ml_bd y (i + 1)
    obtain ⟨M, hM⟩ : ∃ M, M = Cal.ml y (i + 1) := ⟨_, rfl⟩
    rw [← hM] at hb
    have HMl := hide hM
    clear hM
    by_cases hlt2 : M ≤ u
    · have he : Cal.md y (i + 1) = Cal.md y i + M := by rw [unhide HMl]; rfl
      have hi1 : i + 1 < 12 := by
        rcases Nat.lt_or_ge (i + 1) 12 with h | h
        · exact h
        · have e12 : i + 1 = 12 := by omega
          have h12 := Cal.md_12 y
          rw [e12] at he
          have := unhide HVL
          have := unhide HU
          omega
      have hfin : Cal.md y (i + 1) + (u - M) = v := by have := unhide HU; omega
      have HFI := hide hfin
      have HI := hide hi1
      clear hfin he hi1
      go_wp2_with (go_at_call 92; refine (code_monthLength y i _ _ (by rfl) (by omega) _ ((unhide HM).alloc _) (by omega) (by omega)).mono ?_; rintro e w1 ⟨rfl, rfl⟩; rw [← unhide HMl])
      go_round
      case rel => exact ⟨i + 1, u - M, unhide HFI, by omega, unhide HI, by go_num, by go_num⟩
      case measure => simp [intOf]; omega
    · go_wp2_with (go_at_call 92; refine (code_monthLength y i _ _ (by rfl) (by omega) _ ((unhide HM).alloc _) (by omega) (by omega)).mono ?_; rintro e w1 ⟨rfl, rfl⟩; rw [← unhide HMl])
      refine bodyPost_ret (v := .agg #[.int .i64 (y : Int), .int .i64 (1 + i : Int), .int .i64 ((u : Int) + 1)]) (results_cell_row rfl _ _ w.heap.size 130 _ (0, 0) _ rfl (Blk.new w _ _) Tryz.underlying130 rfl (by kernel_rfl)) rfl ?_
      refine ⟨n, i, u, hn, ⟨?_, ?_, ?_⟩, ?_, ((Only.refl _ _).alloc _)⟩
      · have h1 := unhide HY
        have h2 := unhide HU
        have h3 := unhide HV
        have h4 := unhide HF
        rw [← h1]; omega
      · have h1 := unhide HY
        have h2 := unhide HMl
        rw [← h1, ← h2]; omega
      · exact hi
      · have h1 := unhide HY
        simp only [dateC]
        rw [h1]
        simp
end Go.Proofs.YtnnhnihgeheahaaGreatDoor

/- The program's rules: day, minute. -/
set_option linter.unusedSimpArgs false
set_option linter.unusedVariables false
namespace Go.Proofs.YtnnhnihgeheahaaGreatDoor
open Go.RowKit

theorem code_floorModR (n b n' b' r : Int) (e1 : n' = n) (e2 : b' = b) (er : r = n % b) (w : World) (hb : 0 < b) (hb2 : b ≤ 1000000) (hn1 : -1000000000000 ≤ n) (hn2 : n ≤ 1000000000000) :
    Calls Tryz.prog 61 #[.int .i64 n', .int .i64 b'] w fun e w' => e = .returned (.int .i64 r) ∧ w' = w := by
  subst e1 e2 er; exact code_floorMod _ _ w hb hb2 hn1 hn2
theorem code_weekdayOfR (d d' r : Int) (e1 : d' = d) (er : r = (d + 4) % 7) (w : World) (h1 : -1000000 ≤ d) (h2 : d ≤ 1000000) : Calls Tryz.prog 66 #[.int .i64 d'] w fun e w' => e = .returned (.int .i64 r) ∧ w' = w := by
  subst e1 er; exact code_weekdayOf _ w h1 h2

theorem late_last (F L d : Nat) (hL : 28 ≤ L) (hL2 : L ≤ 31) (hd : d ≤ 6) :
    ((F : Int) - 3653 + L - 1) - ((((F : Int) - 3653 + L - 1 + 4) % 7 - d) % 7) = ((F + (if L ≤ (d + 7 - (F + 5) % 7) % 7 + 7 * 4 then (d + 7 - (F + 5) % 7) % 7 + 7 * 4 - 7 else (d + 7 - (F + 5) % 7) % 7 + 7 * 4) : Nat) : Int) - 3653 := by
  split <;> omega
theorem late_week (F L d k : Nat) (hL : 28 ≤ L) (hd : d ≤ 6) (hk : 1 ≤ k) (hk4 : k ≤ 4) :
    ((F : Int) - 3653) + (((d : Int) - ((F : Int) - 3653 + 4) % 7) % 7) + 7 * ((k : Int) - 1) = ((F + (if L ≤ (d + 7 - (F + 5) % 7) % 7 + 7 * (k - 1) then (d + 7 - (F + 5) % 7) % 7 + 7 * (k - 1) - 7 else (d + 7 - (F + 5) % 7) % 7 + 7 * (k - 1)) : Nat) : Int) - 3653 := by
  split <;> omega

set_option maxRecDepth 2000 in
set_option maxHeartbeats 2000000 in
theorem code_day (n : Nat) (r : Rul) (y' : Int) (e1 : y' = 1960 + n) (w : World) (hM : Months w) (hn : n ≤ 1000) (hr : r.Good) :
    Calls Tryz.prog 166 #[rulV r, .int .i64 y'] w fun e w' => e = .returned (.int .i64 ((Cal.ruleDay n r : Int) - 3653)) ∧ Only [] w w' := by
  subst e1
  obtain ⟨⟨hm1, hm2⟩, ⟨hk1, hk2⟩, hd1, ⟨ht1, ht2⟩⟩ := hr
  obtain ⟨F, hF⟩ : ∃ F, F = Cal.first n r := ⟨_, rfl⟩
  have hFb : F ≤ 400000 := by
    have h1 := Cal.yd_le n
    have h2 := Cal.md_mono (1960 + n) (show r.month - 1 ≤ 12 by omega)
    rw [Cal.md_12] at h2
    have h3 := (Cal.yl_bd (1960 + n)).2
    rw [hF]; unfold Cal.first
    omega
  obtain ⟨L, hL⟩ : ∃ L, L = Cal.ml (1960 + n) r.month := ⟨_, rfl⟩
  have hLb := Cal.ml_bd (1960 + n) r.month
  rw [← hL] at hLb
  have hfin : Cal.ruleDay n r = F + (if L ≤ (r.day + 7 - (F + 5) % 7) % 7 + 7 * (r.week - 1) then (r.day + 7 - (F + 5) % 7) % 7 + 7 * (r.week - 1) - 7 else (r.day + 7 - (F + 5) % 7) % 7 + 7 * (r.week - 1)) := by
    rw [hF, hL]; rfl
  have hF2 : ((Cal.yd n : Int) + Cal.md (1960 + n) (r.month - 1) + (1 : Nat) - 3654) = (F : Int) - 3653 := by rw [hF]; unfold Cal.first; omega
  have hL2 : (Cal.ml (1960 + n) (r.month - 1 + 1) : Int) = L := by rw [hL, show r.month - 1 + 1 = r.month by omega]
  obtain ⟨m, k, d, t⟩ := r
  simp only at hm1 hm2 hk1 hk2 hd1 ht1 ht2 hF2 hL2 hfin
  have HF2 := hide hF2
  have HL2 := hide hL2
  have HFI := hide hfin
  have HM := hide hM
  clear hF hL hF2 hL2 hfin hM
  unfold rulV
  have HZ0 := hide (Blk.new w #[.int .i64 (m : Int), .int .i64 (k : Int), .int .i64 (d : Int), .int .i64 (t : Int)] 77)
  by_cases h5 : k = 5
  · subst h5
    have hfin : Cal.ruleDay n ⟨m, 5, d, t⟩ - 3653 = 0 ∨ True := .inr trivial
    clear hfin
    obtain ⟨x, hx⟩ : ∃ x : Int, x = ((F : Int) - 3653 + L - 1 + 4) % 7 := ⟨_, rfl⟩
    obtain ⟨z, hz⟩ : ∃ z : Int, z = (x - d) % 7 := ⟨_, rfl⟩
    have hres : ((F : Int) - 3653 + L - 1) - z = (Cal.ruleDay n ⟨m, 5, d, t⟩ : Int) - 3653 := by
      rw [hz, hx, unhide HFI]; exact late_last F L d hLb.1 hLb.2 hd1
    have hxz : 0 ≤ x ∧ x ≤ 6 ∧ 0 ≤ z ∧ z ≤ 6 := by omega
    have HX := hide hx
    have HZ := hide hz
    have HR := hide hres
    clear hx hz hres
    go_enter Tryz.func166, Tryz.ntmps166
    go_wp2_with (first
      | (go_at_call 187; refine (code_dayOf n (m - 1) 1 _ _ _ (by rfl) (by omega) (by rfl) _ ((unhide HM).alloc _) hn (by omega) (by omega)).mono ?_; rintro e w1 ⟨rfl, ho1⟩; rw [unhide HF2]
         have HZ1 := hide ((unhide HZ0).only ho1 (by simp))
         have HM1 := hide (((unhide HM).alloc _).only ho1 (by simp))
         have HO1 := hide (((Only.refl [] w).alloc _).trans ho1)
         have uf := (unhide HZ1).frozen
         have u0 := (unhide HZ1).cell 0
         have u1 := (unhide HZ1).cell 1
         have u2 := (unhide HZ1).cell 2
         simp at u0 u1 u2
         clear HZ0 ho1)
      | (go_at_call 92; refine (code_monthLength (1960 + n) (m - 1) _ _ (by omega) (by omega) _ (unhide HM1) (by omega) (by omega)).mono ?_; rintro e w2 ⟨rfl, rfl⟩; rw [unhide HL2]))
    go_quiet (first
      | (go_at_call 66; exact Calls.quiet_of_same (code_weekdayOfR ((F : Int) - 3653 + L - 1) _ x (by omega) (unhide HX) _ (by omega) (by omega)))
      | (go_at_call 61; exact Calls.quiet_of_same (code_floorModR (x - d) 7 _ _ z (by go_num) (by omega) (unhide HZ) _ (by omega) (by omega) (by omega) (by omega))))
    go_wp2
    go_ret
    refine ⟨ret_int ?_, (unhide HO1).drewN _⟩
    exact unhide HR
  · obtain ⟨x, hx⟩ : ∃ x : Int, x = ((F : Int) - 3653 + 4) % 7 := ⟨_, rfl⟩
    obtain ⟨z, hz⟩ : ∃ z : Int, z = ((d : Int) - x) % 7 := ⟨_, rfl⟩
    have hres : ((F : Int) - 3653) + z + 7 * ((k : Int) - 1) = (Cal.ruleDay n ⟨m, k, d, t⟩ : Int) - 3653 := by
      rw [hz, hx, unhide HFI]; exact late_week F L d k hLb.1 hd1 hk1 (by omega)
    have hxz : 0 ≤ x ∧ x ≤ 6 ∧ 0 ≤ z ∧ z ≤ 6 := by omega
    have HX := hide hx
    have HZ := hide hz
    have HR := hide hres
    clear hx hz hres
    have h5i : ((k : Int) == 5) = false := by rw [beq_eq_false_iff_ne]; omega
    go_enter Tryz.func166, Tryz.ntmps166
    go_wp2_with (first
      | (go_at_call 187; refine (code_dayOf n (m - 1) 1 _ _ _ (by rfl) (by omega) (by rfl) _ ((unhide HM).alloc _) hn (by omega) (by omega)).mono ?_; rintro e w1 ⟨rfl, ho1⟩; rw [unhide HF2]
         have HZ1 := hide ((unhide HZ0).only ho1 (by simp))
         have HO1 := hide (((Only.refl [] w).alloc _).trans ho1)
         have uf := (unhide HZ1).frozen
         have u0 := (unhide HZ1).cell 0
         have u1 := (unhide HZ1).cell 1
         have u2 := (unhide HZ1).cell 2
         simp at u0 u1 u2
         clear HZ0 ho1))
    go_quiet (first
      | (go_at_call 66; exact Calls.quiet_of_same (code_weekdayOfR ((F : Int) - 3653) _ x (by omega) (unhide HX) _ (by omega) (by omega)))
      | (go_at_call 61; exact Calls.quiet_of_same (code_floorModR ((d : Int) - x) 7 _ _ z (by go_num) (by omega) (unhide HZ) _ (by omega) (by omega) (by omega) (by omega))))
    go_wp2
    go_ret
    refine ⟨ret_int ?_, (unhide HO1).drewN _⟩
    exact unhide HR

theorem ruleDay_bd (n : Nat) (r : Rul) (hn : n ≤ 1000) (hr : r.Good) : Cal.ruleDay n r ≤ 400000 := by
  obtain ⟨⟨hm1, hm2⟩, ⟨hk1, hk2⟩, hd1, ⟨ht1, ht2⟩⟩ := hr
  have h1 := Cal.yd_le n
  have h2 := Cal.md_mono (1960 + n) (show r.month - 1 ≤ 12 by omega)
  rw [Cal.md_12] at h2
  have h3 := (Cal.yl_bd (1960 + n)).2
  have h4 : Cal.late n r ≤ 34 := by unfold Cal.late; omega
  unfold Cal.ruleDay Cal.first
  split <;> omega

theorem cell_lt' {w : World} {a : Addr} {v : Value} (h : w.cell? a = some v) : a.block < w.heap.size := by
  unfold World.cell? at h
  cases hb : w.heap[a.block]? with
  | none => rw [hb] at h; cases h
  | some o => exact (Array.getElem?_eq_some_iff.1 hb).1
theorem cell_keep {w w' : World} (k : Only [] w w') {a : Addr} {v : Value} (h : w.cell? a = some v) : w'.cell? a = some v := by
  rw [← h]; exact World.cell?_of_block (w := w) (k.block _ (cell_lt' h) (by simp))

/-- What the region of 'minute' holds. -/
abbrev MS (w : World) (m k d t : Nat) (w' : World) : Prop :=
  (w'.cell? ⟨w.heap.size, 0, none⟩ = some (.int .i64 (m : Int)) ∧ w'.cell? ⟨w.heap.size, 1, none⟩ = some (.int .i64 (k : Int)) ∧ w'.cell? ⟨w.heap.size, 2, none⟩ = some (.int .i64 (d : Int)) ∧ w'.cell? ⟨w.heap.size, 3, none⟩ = some (.int .i64 (t : Int))) ∧ Hid (Only [] w w') ∧ Hid (Months w')
theorem MS.months {w : World} {m k d t : Nat} {w' : World} (h : MS w m k d t w') : Months w' := h.2.2
theorem MS.next {w : World} {m k d t : Nat} {w' w1 : World} (h : MS w m k d t w') (ho : Only [] w' w1) : MS w m k d t w1 := by
  obtain ⟨⟨u0, u1, u2, u3⟩, HO, HM⟩ := h
  exact ⟨⟨cell_keep ho u0, cell_keep ho u1, cell_keep ho u2, cell_keep ho u3⟩, (unhide HO).trans ho, (unhide HM).only ho (by simp)⟩

set_option maxRecDepth 2000 in
set_option maxHeartbeats 2000000 in
theorem code_minute (n : Nat) (r : Rul) (y' : Int) (e1 : y' = 1960 + n) (w : World) (hM : Months w) (hn : n ≤ 1000) (hr : r.Good) :
    Calls Tryz.prog 136 #[rulV r, .int .i64 y'] w fun e w' => e = .returned (.int .i64 (Cal.ruleMin n r)) ∧ Only [] w w' := by
  subst e1
  obtain ⟨D, hD⟩ : ∃ D, D = Cal.ruleDay n r := ⟨_, rfl⟩
  have hDb := ruleDay_bd n r hn hr
  rw [← hD] at hDb
  have htb := hr.time
  have hfin : Cal.ruleMin n r = ((D : Int) - 3653) * 1440 + r.time := by rw [hD]; rfl
  have HD := hide hD
  have HFI := hide hfin
  have HG := hide hr
  have HM := hide hM
  clear hD hfin hr hM
  obtain ⟨m, k, d, t⟩ := r
  simp only at htb
  unfold rulV
  have hz0 := Blk.new w #[.int .i64 (m : Int), .int .i64 (k : Int), .int .i64 (d : Int), .int .i64 (t : Int)] 77
  have hkeep0 : MS w m k d t (w.alloc (.cells #[.int .i64 (m : Int), .int .i64 (k : Int), .int .i64 (d : Int), .int .i64 (t : Int)] 77)).drew :=
    ⟨⟨hz0.cell 0, hz0.cell 1, hz0.cell 2, hz0.cell 3⟩, ((Only.refl [] w).alloc _).drew, (unhide HM).alloc _⟩
  have HK0 := hide hkeep0
  clear hkeep0 hz0
  go_enter Tryz.func136, Tryz.ntmps136
  go_wp2
  go_region_held3 (fun w' => (w'.cell? ⟨w.heap.size, 0, none⟩ = some (.int .i64 (m : Int)) ∧ w'.cell? ⟨w.heap.size, 1, none⟩ = some (.int .i64 (k : Int)) ∧ w'.cell? ⟨w.heap.size, 2, none⟩ = some (.int .i64 (d : Int)) ∧ w'.cell? ⟨w.heap.size, 3, none⟩ = some (.int .i64 (t : Int))) ∧ Hid (Only [] w w') ∧ Hid (Months w')) (first | exact unhide HK0 | exact unhide HK1)
    ((
    go_at_call 166
    refine (code_day n ⟨m, k, d, t⟩ _ rfl _ (MS.months (w := w) (m := m) (k := k) (d := d) (t := t) (by assumption)) hn (unhide HG)).mono ?_
    rintro e w1 ⟨rfl, ho1⟩
    rw [← unhide HD]
    have HK1 := hide (MS.next (w := w) (m := m) (k := k) (d := d) (t := t) (by assumption) ho1)
    clear ho1))
  all_goals
    go_wp2
    go_ret
    refine ⟨?_, unhide (unhide HK1).2.1⟩
    refine ret_int ?_
    have := unhide HFI
    simp only [IntKind.wrap_i64]
    omega
end Go.Proofs.YtnnhnihgeheahaaGreatDoor
