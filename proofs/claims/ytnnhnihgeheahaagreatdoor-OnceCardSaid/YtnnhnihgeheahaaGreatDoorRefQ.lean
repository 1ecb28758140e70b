/- The reference's calendar: Days, Show. -/
import Derived.Test.YtnnhnihgeheahaaGreatDoorRefP
set_option linter.unusedSimpArgs false
set_option linter.unusedVariables false
namespace Go.Proofs.YtnnhnihgeheahaaGreatDoor
open Go.RowKit

set_option maxHeartbeats 1000000 in
theorem ref_Days (n m : Nat) (y' m' : Int) (e1 : y' = 1960 + n) (e2 : m' = m + 1) (w : World) (hn : n ≤ 1000) (hm : m < 12) :
    Calls Tryz.prog 103 #[.int .i64 y', .int .i64 m'] w fun e w' => e = .returned (.int .i64 ((Cal.yd n + Cal.md (1960 + n) m : Nat) - 3653 : Int)) ∧ w' = w := by
  subst e1 e2
  obtain ⟨y, hy⟩ : ∃ y, y = 1960 + n := ⟨_, rfl⟩
  have hyi : (1960 : Int) + n = y := by omega
  rw [hyi, ← hy]
  have hy1 : 1960 ≤ y := by omega
  have hy2 : y ≤ 3000 := by omega
  have HY := hide hy
  clear hy hyi
  go_enter Tryz.func103, Tryz.ntmps103
  go_wp2
  go_loop [5, 6] (fun a k => ∃ j v : Nat, j ≤ n ∧ k = .int .i64 ((1960 + j : Nat) : Int) ∧ v ≤ 400000 ∧ Hid (v = Cal.yd j) ∧ a = .int .i64 ((v : Int) - 3653)) (fun _ k => 4000 - (intOf k).toNat)
  case atStart => exact ⟨0, 0, Nat.zero_le _, rfl, by omega, rfl, rfl⟩
  case round =>
    obtain ⟨j, v, hj, rfl, hv4, HV, rfl⟩ := hrel
    by_cases hlt : j < n
    · have hy0 := unhide HY
      have hb := Cal.yl_bd (1960 + j)
      have hle := Cal.yd_le (j + 1)
      have hd : (1960 : Int) + j < y := by omega
      have he : Cal.yd (j + 1) = Cal.yd j + Cal.yl (1960 + j) := rfl
      obtain ⟨L, hL⟩ : ∃ L, L = Cal.yl (1960 + j) := ⟨_, rfl⟩
      have hfin : v + L = Cal.yd (j + 1) := by rw [hL, he, unhide HV]
      rw [← hL] at hb he
      have HL := hide hL
      have HFI := hide hfin
      have hvL : v + L ≤ 400000 := by omega
      clear hfin he hle hL hy0
      go_wp2_with (go_at_call 71; refine (ref_year (1960 + j) _ (by omega)).mono ?_; rintro e w1 ⟨rfl, rfl⟩; rw [← unhide HL])
      go_round
      case rel => exact ⟨j + 1, v + L, hlt, by go_num, hvL, unhide HFI, by go_num⟩
      case measure => simp [intOf]; omega
    · have hjn : j = n := by omega
      subst hjn
      have hd : ¬ ((1960 : Int) + j < y) := by have := unhide HY; omega
      clear hlt
      go_wp2
      go_loop [5, 8] (fun a k => ∃ i u : Nat, i ≤ m ∧ k = .int .i64 ((1 + i : Nat) : Int) ∧ u ≤ 1000 ∧ Hid (u = Cal.md y i) ∧ a = .int .i64 ((v : Int) + u - 3653)) (fun _ k => 20 - (intOf k).toNat)
      case atStart => exact ⟨0, 0, Nat.zero_le _, rfl, by omega, rfl, by go_num⟩
      case round =>
        obtain ⟨i, u, hi, rfl, hu4, HU, rfl⟩ := hrel
        by_cases hlt : i < m
        · have hb := Cal.ml_bd y (1 + i)
          have hle := Cal.md_mono y (show i + 1 ≤ 12 by omega)
          rw [Cal.md_12] at hle
          have hyl := (Cal.yl_bd y).2
          have he : Cal.md y (i + 1) = Cal.md y i + Cal.ml y (1 + i) := by rw [Nat.add_comm 1 i]; rfl
          obtain ⟨L, hL⟩ : ∃ L, L = Cal.ml y (1 + i) := ⟨_, rfl⟩
          have hfin : u + L = Cal.md y (i + 1) := by rw [hL, he, unhide HU]
          rw [← hL] at hb he
          have HL := hide hL
          have huL : u + L ≤ 1000 := by omega
          have HFI := hide hfin
          clear hfin he hle hL hyl
          go_wp2_with (go_at_call 72; refine (ref_Length y (1 + i) _ (by omega) (by omega)).mono ?_; rintro e w1 ⟨rfl, rfl⟩; rw [← unhide HL])
          go_round
          case rel => exact ⟨i + 1, u + L, hlt, by go_num, huL, unhide HFI, by go_num⟩
          case measure => simp [intOf]; omega
        · have him : i = m := by omega
          subst him
          clear hlt
          go_wp2
          go_ret
          refine ⟨ret_int ?_, rfl⟩
          rw [← unhide HV, ← unhide HU]
end Go.Proofs.YtnnhnihgeheahaaGreatDoor
