/- The reference's Local. -/
import Derived.Test.YtlelhahklepdiaaGreatDoorRefU
set_option linter.unusedSimpArgs false
set_option linter.unusedVariables false
namespace Go.Proofs.YtlelhahklepdiaaGreatDoor
open Go.RowKit

/-- One digit. -/
def oneS (n : Nat) : ByteArray := ⟨#[UInt8.ofNat (48 + n)]⟩

/-- What is told of what the clock shows: N minutes from the beginning of 1960 on, the day being the (k+1)-th of the (m+1)-th month of the n-th year behind it. -/
def told (N n m k : Nat) : ByteArray :=
  ((((((((((twoS ((1960 + n) / 100) ++ twoS ((1960 + n) % 100)) ++ ⟨#[45]⟩) ++ twoS (1 + m)) ++ ⟨#[45]⟩) ++ twoS (k + 1)) ++ ⟨#[32]⟩) ++ twoS (N % 1440 / 60)) ++ ⟨#[58]⟩) ++ twoS (N % 1440 % 60)) ++ ⟨#[32]⟩) ++ oneS ((N / 1440 + 5) % 7)

set_option maxRecDepth 4000 in
set_option maxHeartbeats 4000000 in
theorem ref_Local (z : Zon) (t : Int) (w : World) (hz : z.Good) (ht1 : 0 ≤ t) (ht2 : t ≤ 70000000) :
    Calls Tryz.prog 14 #[zonV z, .int .i64 t] w fun e w' => ∃ N n m k : Nat, Cal.shown z t = (N : Int) - 5260320 ∧ N ≤ 100000000 ∧ Cal.Is (N / 1440) n m k ∧ e = .returned (.string (told N n m k)) ∧ Only [] w w' := by
  obtain ⟨ho1, ho2⟩ := hz.offset
  have hs2 := hz.shift
  obtain ⟨N, hN⟩ : ∃ N : Nat, N = (Cal.shown z t + 5260320).toNat := ⟨_, rfl⟩
  have hNi : Cal.shown z t = (N : Int) - 5260320 ∧ N ≤ 100000000 := by
    have : 0 ≤ Cal.shown z t + 5260320 ∧ Cal.shown z t ≤ 90000000 := by
      unfold Cal.shown
      split <;> omega
    omega
  have HG := hide hz
  have HN := hide hNi
  clear hz hN hNi
  unfold zonV
  go_enter Tryz.func14, Tryz.ntmps14
  go_wp2_with (
    go_at_call 36
    refine (ref_Clock z t _ (unhide HG) (by omega) (by omega)).mono ?_
    rintro e w1 ⟨rfl, hc1⟩
    have HO1 := hide (((Only.refl [] w).alloc _).trans hc1)
    clear hc1)
  go_wp2_with (
    go_at_call 37
    refine (ref_Show N _ (unhide HN).1 _ (unhide HN).2).mono ?_
    rintro e w2 ⟨n, m, k, hIs, rfl, hc2⟩
    obtain ⟨Y, hY⟩ : ∃ Y, Y = 1960 + n := ⟨_, rfl⟩
    obtain ⟨M, hM⟩ : ∃ M, M = 1 + m := ⟨_, rfl⟩
    obtain ⟨E, hE⟩ : ∃ E, E = k + 1 := ⟨_, rfl⟩
    obtain ⟨T, hT⟩ : ∃ T, T = N % 1440 := ⟨_, rfl⟩
    obtain ⟨V, hV⟩ : ∃ V, V = (N / 1440 + 5) % 7 := ⟨_, rfl⟩
    have hdv : dateV N n m k = #[.int .i64 (Y : Int), .int .i64 (M : Int), .int .i64 (E : Int), .int .i64 (T : Int), .int .i64 (V : Int)] := by rw [hY, hM, hE, hT, hV]; rfl
    rw [hdv]
    have hn := hIs.le (by have := (unhide HN).2; omega)
    have hm := hIs.2.2
    have hk := hIs.2.1
    have hml := Cal.ml_bd (1960 + n) (m + 1)
    have hY1 : 1960 ≤ Y := by omega
    have hY2 : Y ≤ 2160 := by omega
    have hM2 : M ≤ 12 := by omega
    have hE2 : E ≤ 31 := by omega
    have hT2 : T ≤ 1439 := by omega
    have hV2 : V ≤ 6 := by omega
    have HO2 := hide (((unhide HO1).trans hc2).alloc (.cells #[.int .i64 (Y : Int), .int .i64 (M : Int), .int .i64 (E : Int), .int .i64 (T : Int), .int .i64 (V : Int)] 75))
    have HD2 := hide (Blk.new w2 #[.int .i64 (Y : Int), .int .i64 (M : Int), .int .i64 (E : Int), .int .i64 (T : Int), .int .i64 (V : Int)] 75)
    have HIS := hide hIs
    have HTOLD : Hid (told N n m k = ((((((((((twoS (Y / 100) ++ twoS (Y % 100)) ++ ⟨#[45]⟩) ++ twoS M) ++ ⟨#[45]⟩) ++ twoS E) ++ ⟨#[32]⟩) ++ twoS (T / 60)) ++ ⟨#[58]⟩) ++ twoS (T % 60)) ++ ⟨#[32]⟩) ++ oneS V) := by
      rw [hY, hM, hE, hT, hV]; rfl
    obtain ⟨Y1, g1⟩ : ∃ Y1, Y1 = Y / 100 := ⟨_, rfl⟩
    obtain ⟨Y2, g2⟩ : ∃ Y2, Y2 = Y % 100 := ⟨_, rfl⟩
    obtain ⟨T1, g3⟩ : ∃ T1, T1 = T / 60 := ⟨_, rfl⟩
    obtain ⟨T2, g4⟩ : ∃ T2, T2 = T % 60 := ⟨_, rfl⟩
    have q1 : (Y : Int) / 100 = Y1 := by omega
    have q2 : (Y : Int) % 100 = Y2 := by omega
    have q3 : (T : Int) / 60 = T1 := by omega
    have q4 : (T : Int) % 60 = T2 := by omega
    have q5 : (Y : Int).tdiv 100 = Y1 := by rw [Int.tdiv_eq_ediv_of_nonneg (by omega)]; exact q1
    have q6 : (Y : Int).tmod 100 = Y2 := by rw [Int.tmod_eq_emod_of_nonneg (by omega)]; exact q2
    have q7 : (T : Int).tdiv 60 = T1 := by rw [Int.tdiv_eq_ediv_of_nonneg (by omega)]; exact q3
    have q8 : (T : Int).tmod 60 = T2 := by rw [Int.tmod_eq_emod_of_nonneg (by omega)]; exact q4
    have b1 : Y1 ≤ 99 := by omega
    have b2 : Y2 ≤ 99 := by omega
    have b3 : T1 ≤ 99 := by omega
    have b4 : T2 ≤ 99 := by omega
    rw [← g1, ← g2, ← g3, ← g4] at HTOLD
    clear hIs hY hM hE hT hV hdv hn hm hk hml g1 g2 g3 g4 hc2 HO1)
  go_wp2_with (
    go_at_call 38
    refine (ref_twoS Y1 _ (by rfl) _ (by omega)).mono ?_
    rintro e w3 ⟨rfl, hc3⟩
    have HD3 := hide ((unhide HD2).only hc3 (by simp))
    have HO3 := hide ((unhide HO2).trans hc3)
    clear HD2 HO2 hc3 
    have uf := (unhide HD3).frozen
    have u0 := (unhide HD3).cell 0
    have u1 := (unhide HD3).cell 1
    have u2 := (unhide HD3).cell 2
    have u3 := (unhide HD3).cell 3
    have u4 := (unhide HD3).cell 4
    simp at u0 u1 u2 u3 u4)
  go_wp2_with (
    go_at_call 38
    refine (ref_twoS Y2 _ (by rfl) _ (by omega)).mono ?_
    rintro e w4 ⟨rfl, hc4⟩
    have HD4 := hide ((unhide HD3).only hc4 (by simp))
    have HO4 := hide ((unhide HO3).trans hc4)
    clear HD3 HO3 hc4 uf u0 u1 u2 u3 u4
    have uf := (unhide HD4).frozen
    have u0 := (unhide HD4).cell 0
    have u1 := (unhide HD4).cell 1
    have u2 := (unhide HD4).cell 2
    have u3 := (unhide HD4).cell 3
    have u4 := (unhide HD4).cell 4
    simp at u0 u1 u2 u3 u4)
  go_wp2_with (
    go_at_call 38
    refine (ref_twoS M _ (by rfl) _ (by omega)).mono ?_
    rintro e w5 ⟨rfl, hc5⟩
    have HD5 := hide ((unhide HD4).only hc5 (by simp))
    have HO5 := hide ((unhide HO4).trans hc5)
    clear HD4 HO4 hc5 uf u0 u1 u2 u3 u4
    have uf := (unhide HD5).frozen
    have u0 := (unhide HD5).cell 0
    have u1 := (unhide HD5).cell 1
    have u2 := (unhide HD5).cell 2
    have u3 := (unhide HD5).cell 3
    have u4 := (unhide HD5).cell 4
    simp at u0 u1 u2 u3 u4)
  go_wp2_with (
    go_at_call 38
    refine (ref_twoS E _ (by rfl) _ (by omega)).mono ?_
    rintro e w6 ⟨rfl, hc6⟩
    have HD6 := hide ((unhide HD5).only hc6 (by simp))
    have HO6 := hide ((unhide HO5).trans hc6)
    clear HD5 HO5 hc6 uf u0 u1 u2 u3 u4
    have uf := (unhide HD6).frozen
    have u0 := (unhide HD6).cell 0
    have u1 := (unhide HD6).cell 1
    have u2 := (unhide HD6).cell 2
    have u3 := (unhide HD6).cell 3
    have u4 := (unhide HD6).cell 4
    simp at u0 u1 u2 u3 u4)
  go_wp2_with (
    go_at_call 38
    refine (ref_twoS T1 _ (by rfl) _ (by omega)).mono ?_
    rintro e w7 ⟨rfl, hc7⟩
    have HD7 := hide ((unhide HD6).only hc7 (by simp))
    have HO7 := hide ((unhide HO6).trans hc7)
    clear HD6 HO6 hc7 uf u0 u1 u2 u3 u4
    have uf := (unhide HD7).frozen
    have u0 := (unhide HD7).cell 0
    have u1 := (unhide HD7).cell 1
    have u2 := (unhide HD7).cell 2
    have u3 := (unhide HD7).cell 3
    have u4 := (unhide HD7).cell 4
    simp at u0 u1 u2 u3 u4)
  go_wp2_with (
    go_at_call 38
    refine (ref_twoS T2 _ (by rfl) _ (by omega)).mono ?_
    rintro e w8 ⟨rfl, hc8⟩
    have HD8 := hide ((unhide HD7).only hc8 (by simp))
    have HO8 := hide ((unhide HO7).trans hc8)
    clear HD7 HO7 hc8 uf u0 u1 u2 u3 u4
    have uf := (unhide HD8).frozen
    have u0 := (unhide HD8).cell 0
    have u1 := (unhide HD8).cell 1
    have u2 := (unhide HD8).cell 2
    have u3 := (unhide HD8).cell 3
    have u4 := (unhide HD8).cell 4
    simp at u0 u1 u2 u3 u4
    have s1 : (twoS Y1).size = 2 := rfl
    have s2 : (twoS Y2).size = 2 := rfl
    have s3 : (twoS M).size = 2 := rfl
    have s4 : (twoS E).size = 2 := rfl
    have s5 : (twoS T1).size = 2 := rfl
    have s6 : (twoS T2).size = 2 := rfl
    have s7 : (oneS V).size = 1 := rfl
    have hcv : (convert 77 9 (.slice (some ⟨w8.heap.size, 0, none⟩) 1 1)).run Tryz.prog (w8.alloc (.cells #[.int .u8 (48 + (V : Int))] 5)) = .ok (.string (oneS V)) (w8.alloc (.cells #[.int .u8 (48 + (V : Int))] 5)) := run_conv1 w8 (48 + (V : Int)))
  go_ret
  refine ⟨N, n, m, k, (unhide HN).1, (unhide HN).2, unhide HIS, ?_, (unhide HO8).alloc _⟩
  rw [unhide HTOLD]
  rfl
end Go.Proofs.YtlelhahklepdiaaGreatDoor
