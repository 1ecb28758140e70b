/- The reference's Show. -/
import Derived.Test.YtnnhnihgeheahaaGreatDoorRefQ
set_option linter.unusedSimpArgs false
set_option linter.unusedVariables false
namespace Go.Proofs.YtnnhnihgeheahaaGreatDoor
open Go.RowKit

theorem ref_Length' (y m : Nat) (y' m' : Int) (e1 : y' = y) (e2 : m' = m) (w : World) (hy : y ≤ 100000) (hm : m ≤ 1000000) : Calls Tryz.prog 72 #[.int .i64 y', .int .i64 m'] w fun e w' => e = .returned (.int .i64 (Cal.ml y m : Nat)) ∧ w' = w := by
  subst e1 e2; exact ref_Length y m w hy hm

def dateV (N n m k : Nat) : Array Value := #[.int .i64 ((1960 + n : Nat) : Int), .int .i64 ((1 + m : Nat) : Int), .int .i64 ((k + 1 : Nat) : Int), .int .i64 ((N % 1440 : Nat) : Int), .int .i64 (((N / 1440 + 5) % 7 : Nat) : Int)]

set_option maxHeartbeats 2000000 in
theorem ref_Show (N : Nat) (x : Int) (ex : x = (N : Int) - 5260320) (w : World) (hN : N ≤ 100000000) :
    Calls Tryz.prog 46 #[.int .i64 x] w fun e w' => ∃ n m k, Cal.Is (N / 1440) n m k ∧ e = .returned (.agg (dateV N n m k)) ∧ Only [] w w' := by
  subst ex
  obtain ⟨D, hD⟩ : ∃ D, D = N / 1440 := ⟨_, rfl⟩
  have hq : ((N : Int)).tdiv 1440 = D := by rw [Int.tdiv_eq_ediv_of_nonneg (by omega)]; omega
  have hD1 : D ≤ 70000 := by omega
  have HDD := hide hD
  rw [← hD]
  clear hD
  go_enter Tryz.func46, Tryz.ntmps46
  go_wp2_with (go_at_call 71; refine (ref_year 1960 _ (by omega)).mono ?_; rintro e w1 ⟨rfl, rfl⟩)
  go_loop [3, 5, 6] (fun d y k => ∃ j v L : Nat, Hid (Cal.yd j + v = D) ∧ v ≤ 70000 ∧ j ≤ 200 ∧ d = .int .i64 (v : Int) ∧ y = .int .i64 ((1960 + j : Nat) : Int) ∧ k = .int .i64 (L : Int) ∧ L = Cal.yl (1960 + j)) (fun d _ _ => (intOf d).toNat)
  case atStart => exact ⟨0, D, _, by simp [Hid, Cal.yd], hD1, by omega, rfl, rfl, rfl, rfl⟩
  case round =>
    obtain ⟨j, v, L, HV, hv1, hj, rfl, rfl, rfl, HL'⟩ := hrel
    have HL := hide HL'
    have hb := Cal.yl_bd (1960 + j)
    rw [← HL'] at hb
    clear HL'
    by_cases hlt : L ≤ v
    · have hg := Cal.yd_ge (j + 1)
      have he : Cal.yd (j + 1) = Cal.yd j + L := by rw [unhide HL]; rfl
      have hv' := unhide HV
      have hj1 : j + 1 ≤ 200 := by omega
      have hfin : Cal.yd (j + 1) + (v - L) = D := by omega
      have HFI := hide hfin
      have HJ := hide hj1
      clear hfin hg he hv' hj1
      go_wp2_with (go_at_call 71; refine (ref_year (1960 + (j + 1)) _ (by omega)).mono ?_; rintro e w1 ⟨rfl, rfl⟩)
      go_round
      case rel => exact ⟨j + 1, v - L, _, unhide HFI, by omega, unhide HJ, by go_num, by go_num, rfl, rfl⟩
      case measure => simp [intOf]; omega
    · obtain ⟨n, hn⟩ : ∃ n, n = j := ⟨_, rfl⟩
      subst hn
      obtain ⟨y, hy⟩ : ∃ y, y = 1960 + n := ⟨_, rfl⟩
      have hy2 : y ≤ 3000 := by omega
      have hvL : v < Cal.yl y := by rw [hy, ← unhide HL]; omega
      have HVL := hide hvL
      rw [← hy]
      have HY := hide hy
      clear hvL hy
      go_wp2_with (go_at_call 72; refine (ref_Length y 1 _ (by omega) (by omega)).mono ?_; rintro e w1 ⟨rfl, rfl⟩)
      go_loop [3, 7, 8] (fun d m k => ∃ i u M : Nat, Hid (Cal.md y i + u = v) ∧ u ≤ 400 ∧ i < 12 ∧ d = .int .i64 (u : Int) ∧ m = .int .i64 ((1 + i : Nat) : Int) ∧ k = .int .i64 (M : Int) ∧ M = Cal.ml y (i + 1)) (fun d _ _ => (intOf d).toNat)
      case atStart => exact ⟨0, v, _, by simp [Hid, Cal.md], by have := (Cal.yl_bd y).2; have := unhide HVL; omega, by omega, rfl, rfl, rfl, rfl⟩
      case round =>
        obtain ⟨i, u, M, HU, hu1, hi, rfl, rfl, rfl, HM'⟩ := hrel
        have HM := hide HM'
        have hb := Cal.ml_bd y (i + 1)
        rw [← HM'] at hb
        clear HM'
        by_cases hlt2 : M ≤ u
        · have he : Cal.md y (i + 1) = Cal.md y i + M := by rw [unhide HM]; rfl
          have hi1 : i + 1 < 12 := by
            rcases Nat.lt_or_ge (i + 1) 12 with h | h
            · exact h
            · have e12 : i + 1 = 12 := by omega
              have h12 := Cal.md_12 y
              rw [e12] at he
              have := unhide HVL
              have := unhide HU
              omega
          have hfin : Cal.md y (i + 1) + (u - M) = v := by have := unhide HU; omega
          have HFI := hide hfin
          have HI := hide hi1
          clear hfin he hi1
          go_wp2_with (go_at_call 72; refine (ref_Length' y (i + 1 + 1) _ _ (by omega) (by omega) _ (by omega) (by omega)).mono ?_; rintro e w1 ⟨rfl, rfl⟩)
          go_round
          case rel => exact ⟨i + 1, u - M, _, unhide HFI, by omega, unhide HI, by go_num, by go_num, rfl, rfl⟩
          case measure => simp [intOf]; omega
        · go_wp2
          refine bodyPost_ret (v := .agg #[.int .i64 (y : Int), .int .i64 (1 + i : Int), .int .i64 ((u : Int) + 1), .int .i64 ((N : Int) % 1440), .int .i64 (((D : Int) + 5) % 7)]) (results_cell_row rfl _ _ w.heap.size 94 _ (0, 0) _ rfl (Blk.new w _ _) Tryz.underlying94 rfl (by kernel_rfl)) rfl ?_
          refine ⟨n, i, u, ⟨?_, ?_, ?_⟩, ?_, ((Only.refl _ _).alloc _)⟩
          · have h1 := unhide HY
            have h2 := unhide HU
            have h3 := unhide HV
            rw [← h1]; omega
          · have h1 := unhide HY
            have h2 := unhide HM
            rw [← h1, ← h2]; omega
          · exact hi
          · have h1 := unhide HY
            have h2 := unhide HDD
            simp only [dateV, ← h2]
            rw [h1]
            simp
end Go.Proofs.YtnnhnihgeheahaaGreatDoor
