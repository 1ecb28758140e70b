/- The program's calendar: yearOf, dayOf, dateOf. -/
import Derived.Test.YtdepepggfoiefaaGreatDoorCalB
import Derived.Test.YtdepepggfoiefaaGreatDoorRefT
set_option linter.unusedSimpArgs false
set_option linter.unusedVariables false
namespace Go.Proofs.YtdepepggfoiefaaGreatDoor
open Go.RowKit

set_option maxHeartbeats 2000000 in
theorem code_yearOf (D : Nat) (d : Int) (e1 : d = (D : Int) - 3653) (w : World) (h1 : 600 ≤ D) (h2 : D ≤ 70000) :
    Calls Tryz.prog 46 #[.int .i64 d] w fun e w' => ∃ n : Nat, n ≤ 200 ∧ (Cal.yd n ≤ D ∧ D < Cal.yd (n + 1)) ∧ e = .returned (.int .i64 ((1960 + n : Nat) : Int)) ∧ w' = w := by
  subst e1
  obtain ⟨g, hg⟩ : ∃ g : Int, g = ((D : Int) - 3653) * 400 / 146097 := ⟨_, rfl⟩
  have hgb : -9 ≤ g ∧ g ≤ 190 := by omega
  have HG := hide hg
  clear hg
  go_enter Tryz.func46, Tryz.ntmps46
  go_wp2_with (go_at_call 25; refine (code_floorDiv' (((D : Int) - 3653) * 400) 146097 _ _ (by omega) (by omega) _ (by omega) (by omega) (by omega) (by omega)).mono ?_; rintro e w1 ⟨rfl, rfl⟩; rw [← unhide HG])
  go_loop [3] (fun y => ∃ j : Nat, j ≤ 200 ∧ y = .int .i64 ((1960 + j : Nat) : Int)) (fun y => (intOf y).toNat)
  case atStart => exact ⟨(g + 10).toNat, by omega, by go_num⟩
  case round =>
    obtain ⟨j, hj, rfl⟩ := hrel
    obtain ⟨F, hF⟩ : ∃ F, F = Cal.yd j := ⟨_, rfl⟩
    have hle := Cal.yd_le j
    rw [← hF] at hle
    have HF := hide hF
    clear hF
    by_cases hlt : D < F
    · have hj0 : 0 < j := by
        rcases Nat.eq_zero_or_pos j with h | h
        · have := unhide HF; rw [h] at this; simp [Cal.yd] at this; omega
        · exact h
      go_wp2_with (go_at_call 47; refine (code_firstDay j _ (by omega) _ (by omega)).mono ?_; rintro e w1 ⟨rfl, rfl⟩; rw [← unhide HF])
      go_round
      case rel => exact ⟨j - 1, by omega, by go_num⟩
      case measure => simp [intOf]; omega
    · go_wp2_with (go_at_call 47; refine (code_firstDay j _ (by omega) _ (by omega)).mono ?_; rintro e w1 ⟨rfl, rfl⟩; rw [← unhide HF])
      go_loop [3] (fun y => ∃ i : Nat, i ≤ 200 ∧ Hid (Cal.yd i ≤ D) ∧ y = .int .i64 ((1960 + i : Nat) : Int)) (fun y => 4000 - (intOf y).toNat)
      case atStart => exact ⟨j, hj, by have := unhide HF; simp only [Hid]; omega, rfl⟩
      case round =>
        obtain ⟨i, hi, HI, rfl⟩ := hrel
        obtain ⟨G, hG⟩ : ∃ G, G = Cal.yd (i + 1) := ⟨_, rfl⟩
        have hle := Cal.yd_le (i + 1)
        have hge := Cal.yd_ge (i + 1)
        rw [← hG] at hle hge
        have HG2 := hide hG
        clear hG
        by_cases hlt2 : G ≤ D
        · go_wp2_with (go_at_call 47; refine (code_firstDay (i + 1) _ (by omega) _ (by omega)).mono ?_; rintro e w1 ⟨rfl, rfl⟩; rw [← unhide HG2])
          go_round
          case rel => exact ⟨i + 1, by omega, by have := unhide HG2; simp only [Hid]; omega, by go_num⟩
          case measure => simp [intOf]; omega
        · go_wp2_with (go_at_call 47; refine (code_firstDay (i + 1) _ (by omega) _ (by omega)).mono ?_; rintro e w1 ⟨rfl, rfl⟩; rw [← unhide HG2])
          go_ret
          exact ⟨i, hi, ⟨unhide HI, by have := unhide HG2; omega⟩, rfl, rfl⟩

theorem Months.alloc {w : World} (h : Months w) (o : Obj) : Months (w.alloc o) := h.only ((Only.refl [] w).alloc o) (by simp)

set_option maxHeartbeats 2000000 in
theorem code_dayOf (n m d : Nat) (y' m' d' : Int) (e1 : y' = 1960 + n) (e2 : m' = m + 1) (e3 : d' = d) (w : World) (hM : Months w) (hn : n ≤ 1000) (hm : m < 12) (hd : d ≤ 1000) :
    Calls Tryz.prog 82 #[.agg #[.int .i64 y', .int .i64 m', .int .i64 d']] w fun e w' => e = .returned (.int .i64 ((Cal.yd n : Int) + Cal.md (1960 + n) m + d - 3654)) ∧ Only [] w w' := by
  subst e1 e2 e3
  obtain ⟨F, hF⟩ : ∃ F, F = Cal.yd n := ⟨_, rfl⟩
  have hle := Cal.yd_le n
  rw [← hF] at hle
  have HF := hide hF
  have HM := hide hM
  obtain ⟨y, hy⟩ : ∃ y, y = 1960 + n := ⟨_, rfl⟩
  have hyi : (1960 : Int) + n = y := by omega
  rw [hyi, ← hy, ← hF]
  have hyb : y ≤ 3000 := by omega
  have HY := hide hyi
  have HB := hide (Blk.new w #[.int .i64 y, .int .i64 ((m : Int) + 1), .int .i64 (d : Int)] 70)
  clear hF hM hy hyi
  go_enter Tryz.func82, Tryz.ntmps82
  go_wp2_with (go_at_call 47; refine (code_firstDay n _ (unhide HY).symm _ (by omega)).mono ?_; rintro e w1 ⟨rfl, rfl⟩; rw [← unhide HF])
  go_loop [3, 4] (fun a k => ∃ i u : Nat, i ≤ m ∧ k = .int .i64 ((1 + i : Nat) : Int) ∧ u ≤ 1000 ∧ Hid (u = Cal.md y i) ∧ a = .int .i64 ((F : Int) + u - 3653)) (fun _ k => 20 - (intOf k).toNat)
  case atStart => exact ⟨0, 0, Nat.zero_le _, rfl, by omega, rfl, by go_num⟩
  case round =>
    obtain ⟨i, u, hi, rfl, hu4, HU, rfl⟩ := hrel
    by_cases hlt : i < m
    · have hb := Cal.ml_bd y (i + 1)
      have hle2 := Cal.md_mono y (show i + 1 ≤ 12 by omega)
      rw [Cal.md_12] at hle2
      have hyl := (Cal.yl_bd y).2
      have he : Cal.md y (i + 1) = Cal.md y i + Cal.ml y (i + 1) := rfl
      obtain ⟨L, hL⟩ : ∃ L, L = Cal.ml y (i + 1) := ⟨_, rfl⟩
      have hfin : u + L = Cal.md y (i + 1) := by rw [hL, he, unhide HU]
      rw [← hL] at hb he
      have HL := hide hL
      have huL : u + L ≤ 1000 := by omega
      have HFI := hide hfin
      clear hfin he hle2 hL hyl
      go_wp2_with (go_at_call 48; refine (code_monthLength y i _ _ (by rfl) (by omega) _ ((unhide HM).alloc _) (by omega) (by omega)).mono ?_; rintro e w1 ⟨rfl, rfl⟩; rw [← unhide HL])
      go_round
      case rel => exact ⟨i + 1, u + L, hlt, by go_num, huL, unhide HFI, by go_num⟩
      case measure => simp [intOf]; omega
    · have him : i = m := by omega
      subst him
      clear hlt
      go_wp2
      go_ret
      refine ⟨ret_int ?_, (Only.refl _ _).alloc _⟩
      rw [← unhide HU]
      omega

def dateC (n m k : Nat) : Value := .agg #[.int .i64 ((1960 + n : Nat) : Int), .int .i64 ((1 + m : Nat) : Int), .int .i64 ((k + 1 : Nat) : Int)]

set_option maxHeartbeats 2000000 in
theorem code_dateOf (D : Nat) (d : Int) (e1 : d = (D : Int) - 3653) (w : World) (hM : Months w) (h1 : 600 ≤ D) (h2 : D ≤ 70000) :
    Calls Tryz.prog 27 #[.int .i64 d] w fun e w' => ∃ n m k : Nat, n ≤ 200 ∧ Cal.Is D n m k ∧ e = .returned (dateC n m k) ∧ Only [] w w' := by
  subst e1
  have HM := hide hM
  clear hM
  go_enter Tryz.func27, Tryz.ntmps27
  go_wp2_with (go_at_call 46; refine (code_yearOf D _ (by rfl) _ h1 h2).mono ?_; rintro e w1 ⟨n, hn, hy12, rfl, rfl⟩; have HN := hide hy12; clear hy12)
  obtain ⟨F, hF⟩ : ∃ F, F = Cal.yd n := ⟨_, rfl⟩
  have hFD : F ≤ D := by rw [hF]; exact (unhide HN).1
  obtain ⟨y, hy⟩ : ∃ y, y = 1960 + n := ⟨_, rfl⟩
  have hyi : (1960 : Int) + n = y := by omega
  obtain ⟨v, hv⟩ : ∃ v, v = D - F := ⟨_, rfl⟩
  have hvi : (D : Int) - 3653 - ((F : Int) - 3653) = v := by omega
  have hvL : v < Cal.yl y := by
    have h := (unhide HN).2
    have e : Cal.yd (n + 1) = Cal.yd n + Cal.yl (1960 + n) := rfl
    rw [hy]; omega
  have hvb : v ≤ 366 := by have := (Cal.yl_bd y).2; omega
  have hyb : y ≤ 3000 := by omega
  have HVL := hide hvL
  have HF := hide hF
  have HY := hide hy
  have HV := hide hv
  rw [hyi]
  have HYI := hide hyi
  clear hF hy hv hvL hyi
  go_wp2_with (go_at_call 47; refine (code_firstDay n _ (unhide HYI).symm _ (by omega)).mono ?_; rintro e w1 ⟨rfl, rfl⟩; rw [← unhide HF])
  go_loop [4, 5] (fun d m => ∃ i u : Nat, Hid (Cal.md y i + u = v) ∧ u ≤ 400 ∧ i < 12 ∧ d = .int .i64 (u : Int) ∧ m = .int .i64 ((1 + i : Nat) : Int)) (fun d _ => (intOf d).toNat)
  case atStart => exact ⟨0, v, by simp [Hid, Cal.md], by omega, by omega, rfl, rfl⟩
  case round =>
    obtain ⟨i, u, HU, hu1, hi, rfl, rfl⟩ := hrel
    have hb := Cal.ml_bd y (i + 1)
    obtain ⟨M, hM⟩ : ∃ M, M = Cal.ml y (i + 1) := ⟨_, rfl⟩
    rw [← hM] at hb
    have HMl := hide hM
    clear hM
    by_cases hlt2 : M ≤ u
    · have he : Cal.md y (i + 1) = Cal.md y i + M := by rw [unhide HMl]; rfl
      have hi1 : i + 1 < 12 := by
        rcases Nat.lt_or_ge (i + 1) 12 with h | h
        · exact h
        · have e12 : i + 1 = 12 := by omega
          have h12 := Cal.md_12 y
          rw [e12] at he
          have := unhide HVL
          have := unhide HU
          omega
      have hfin : Cal.md y (i + 1) + (u - M) = v := by have := unhide HU; omega
      have HFI := hide hfin
      have HI := hide hi1
      clear hfin he hi1
      go_wp2_with (go_at_call 48; refine (code_monthLength y i _ _ (by rfl) (by omega) _ ((unhide HM).alloc _) (by omega) (by omega)).mono ?_; rintro e w1 ⟨rfl, rfl⟩; rw [← unhide HMl])
      go_round
      case rel => exact ⟨i + 1, u - M, unhide HFI, by omega, unhide HI, by go_num, by go_num⟩
      case measure => simp [intOf]; omega
    · go_wp2_with (go_at_call 48; refine (code_monthLength y i _ _ (by rfl) (by omega) _ ((unhide HM).alloc _) (by omega) (by omega)).mono ?_; rintro e w1 ⟨rfl, rfl⟩; rw [← unhide HMl])
      refine bodyPost_ret (v := .agg #[.int .i64 (y : Int), .int .i64 (1 + i : Int), .int .i64 ((u : Int) + 1)]) (results_cell_row rfl _ _ w.heap.size 70 _ (0, 0) _ rfl (Blk.new w _ _) Tryz.underlying70 rfl (by kernel_rfl)) rfl ?_
      refine ⟨n, i, u, hn, ⟨?_, ?_, ?_⟩, ?_, ((Only.refl _ _).alloc _)⟩
      · have h1 := unhide HY
        have h2 := unhide HU
        have h3 := unhide HV
        have h4 := unhide HF
        rw [← h1]; omega
      · have h1 := unhide HY
        have h2 := unhide HMl
        rw [← h1, ← h2]; omega
      · exact hi
      · have h1 := unhide HY
        simp only [dateC]
        rw [h1]
        simp
end Go.Proofs.YtdepepggfoiefaaGreatDoor
