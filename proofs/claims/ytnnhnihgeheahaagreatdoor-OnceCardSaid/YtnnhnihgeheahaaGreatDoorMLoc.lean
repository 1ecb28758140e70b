/- RefV, ClkB, CalF, CalG, LocA, in one text. -/
import Derived.Test.YtnnhnihgeheahaaGreatDoorRefU
import Derived.Test.YtnnhnihgeheahaaGreatDoorClkA
import Derived.Test.YtnnhnihgeheahaaGreatDoorShelf
import Derived.Test.YtnnhnihgeheahaaGreatDoorShelfB
import Derived.Lib.AppendIntMem
import Derived.Test.YtnnhnihgeheahaaGreatDoorCodeG
import Derived.Test.YtnnhnihgeheahaaGreatDoorMStr
/- The reference's Local. -/
set_option linter.unusedSimpArgs false
set_option linter.unusedVariables false
namespace Go.Proofs.YtnnhnihgeheahaaGreatDoor
open Go.RowKit

/-- One digit. -/
def oneS (n : Nat) : ByteArray := ⟨#[UInt8.ofNat (48 + n)]⟩

/-- What is told of what the clock shows: N minutes from the beginning of 1960 on, the day being the (k+1)-th of the (m+1)-th month of the n-th year behind it. -/
def told (N n m k : Nat) : ByteArray :=
  ((((((((((twoS ((1960 + n) / 100) ++ twoS ((1960 + n) % 100)) ++ ⟨#[45]⟩) ++ twoS (1 + m)) ++ ⟨#[45]⟩) ++ twoS (k + 1)) ++ ⟨#[32]⟩) ++ twoS (N % 1440 / 60)) ++ ⟨#[58]⟩) ++ twoS (N % 1440 % 60)) ++ ⟨#[32]⟩) ++ oneS ((N / 1440 + 5) % 7)

set_option maxRecDepth 4000 in
set_option maxHeartbeats 4000000 in
theorem ref_Local (z : Zon) (t : Int) (w : World) (hz : z.Good) (ht1 : 0 ≤ t) (ht2 : t ≤ 70000000) :
    Calls Tryz.prog 18 #[zonV z, .int .i64 t] w fun e w' => ∃ N n m k : Nat, Cal.shown z t = (N : Int) - 5260320 ∧ N ≤ 100000000 ∧ Cal.Is (N / 1440) n m k ∧ e = .returned (.string (told N n m k)) ∧ Only [] w w' := by
  obtain ⟨ho1, ho2⟩ := hz.offset
  have hs2 := hz.shift
  obtain ⟨N, hN⟩ : ∃ N : Nat, N = (Cal.shown z t + 5260320).toNat := ⟨_, rfl⟩
  have hNi : Cal.shown z t = (N : Int) - 5260320 ∧ N ≤ 100000000 := by
    have : 0 ≤ Cal.shown z t + 5260320 ∧ Cal.shown z t ≤ 90000000 := by
      unfold Cal.shown
      split <;> omega
    omega
  have HG := hide hz
  have HN := hide hNi
  clear hz hN hNi
  unfold zonV
  go_enter Tryz.func18, Tryz.ntmps18
  go_wp2_with (
    go_at_call 45
    refine (ref_Clock z t _ (unhide HG) (by omega) (by omega)).mono ?_
    rintro e w1 ⟨rfl, hc1⟩
    have HO1 := hide (((Only.refl [] w).alloc _).trans hc1)
    clear hc1)
  go_wp2_with (
    go_at_call 46
    refine (ref_Show N _ (unhide HN).1 _ (unhide HN).2).mono ?_
    rintro e w2 ⟨n, m, k, hIs, rfl, hc2⟩
    obtain ⟨Y, hY⟩ : ∃ Y, Y = 1960 + n := ⟨_, rfl⟩
    obtain ⟨M, hM⟩ : ∃ M, M = 1 + m := ⟨_, rfl⟩
    obtain ⟨E, hE⟩ : ∃ E, E = k + 1 := ⟨_, rfl⟩
    obtain ⟨T, hT⟩ : ∃ T, T = N % 1440 := ⟨_, rfl⟩
    obtain ⟨V, hV⟩ : ∃ V, V = (N / 1440 + 5) % 7 := ⟨_, rfl⟩
    have hdv : dateV N n m k = #[.int .i64 (Y : Int), .int .i64 (M : Int), .int .i64 (E : Int), .int .i64 (T : Int), .int .i64 (V : Int)] := by rw [hY, hM, hE, hT, hV]; rfl
    rw [hdv]
    have hn := hIs.le (by have := (unhide HN).2; omega)
    have hm := hIs.2.2
    have hk := hIs.2.1
    have hml := Cal.ml_bd (1960 + n) (m + 1)
    have hY1 : 1960 ≤ Y := by omega
    have hY2 : Y ≤ 2160 := by omega
    have hM2 : M ≤ 12 := by omega
    have hE2 : E ≤ 31 := by omega
    have hT2 : T ≤ 1439 := by omega
    have hV2 : V ≤ 6 := by omega
    have HO2 := hide (((unhide HO1).trans hc2).alloc (.cells #[.int .i64 (Y : Int), .int .i64 (M : Int), .int .i64 (E : Int), .int .i64 (T : Int), .int .i64 (V : Int)] 94))
    have HD2 := hide (Blk.new w2 #[.int .i64 (Y : Int), .int .i64 (M : Int), .int .i64 (E : Int), .int .i64 (T : Int), .int .i64 (V : Int)] 94)
    have HIS := hide hIs
    have HTOLD : Hid (told N n m k = ((((((((((twoS (Y / 100) ++ twoS (Y % 100)) ++ ⟨#[45]⟩) ++ twoS M) ++ ⟨#[45]⟩) ++ twoS E) ++ ⟨#[32]⟩) ++ twoS (T / 60)) ++ ⟨#[58]⟩) ++ twoS (T % 60)) ++ ⟨#[32]⟩) ++ oneS V) := by
      rw [hY, hM, hE, hT, hV]; rfl
    obtain ⟨Y1, g1⟩ : ∃ Y1, Y1 = Y / 100 := ⟨_, rfl⟩
    obtain ⟨Y2, g2⟩ : ∃ Y2, Y2 = Y % 100 := ⟨_, rfl⟩
    obtain ⟨T1, g3⟩ : ∃ T1, T1 = T / 60 := ⟨_, rfl⟩
    obtain ⟨T2, g4⟩ : ∃ T2, T2 = T % 60 := ⟨_, rfl⟩
    have q1 : (Y : Int) / 100 = Y1 := by omega
    have q2 : (Y : Int) % 100 = Y2 := by omega
    have q3 : (T : Int) / 60 = T1 := by omega
    have q4 : (T : Int) % 60 = T2 := by omega
    have q5 : (Y : Int).tdiv 100 = Y1 := by rw [Int.tdiv_eq_ediv_of_nonneg (by omega)]; exact q1
    have q6 : (Y : Int).tmod 100 = Y2 := by rw [Int.tmod_eq_emod_of_nonneg (by omega)]; exact q2
    have q7 : (T : Int).tdiv 60 = T1 := by rw [Int.tdiv_eq_ediv_of_nonneg (by omega)]; exact q3
    have q8 : (T : Int).tmod 60 = T2 := by rw [Int.tmod_eq_emod_of_nonneg (by omega)]; exact q4
    have b1 : Y1 ≤ 99 := by omega
    have b2 : Y2 ≤ 99 := by omega
    have b3 : T1 ≤ 99 := by omega
    have b4 : T2 ≤ 99 := by omega
    rw [← g1, ← g2, ← g3, ← g4] at HTOLD
    clear hIs hY hM hE hT hV hdv hn hm hk hml g1 g2 g3 g4 hc2 HO1)
  go_wp2_with (
    go_at_call 47
    refine (ref_twoS Y1 _ (by rfl) _ (by omega)).mono ?_
    rintro e w3 ⟨rfl, hc3⟩
    have HD3 := hide ((unhide HD2).only hc3 (by simp))
    have HO3 := hide ((unhide HO2).trans hc3)
    clear HD2 HO2 hc3 
    have uf := (unhide HD3).frozen
    have u0 := (unhide HD3).cell 0
    have u1 := (unhide HD3).cell 1
    have u2 := (unhide HD3).cell 2
    have u3 := (unhide HD3).cell 3
    have u4 := (unhide HD3).cell 4
    simp at u0 u1 u2 u3 u4)
  go_wp2_with (
    go_at_call 47
    refine (ref_twoS Y2 _ (by rfl) _ (by omega)).mono ?_
    rintro e w4 ⟨rfl, hc4⟩
    have HD4 := hide ((unhide HD3).only hc4 (by simp))
    have HO4 := hide ((unhide HO3).trans hc4)
    clear HD3 HO3 hc4 uf u0 u1 u2 u3 u4
    have uf := (unhide HD4).frozen
    have u0 := (unhide HD4).cell 0
    have u1 := (unhide HD4).cell 1
    have u2 := (unhide HD4).cell 2
    have u3 := (unhide HD4).cell 3
    have u4 := (unhide HD4).cell 4
    simp at u0 u1 u2 u3 u4)
  go_wp2_with (
    go_at_call 47
    refine (ref_twoS M _ (by rfl) _ (by omega)).mono ?_
    rintro e w5 ⟨rfl, hc5⟩
    have HD5 := hide ((unhide HD4).only hc5 (by simp))
    have HO5 := hide ((unhide HO4).trans hc5)
    clear HD4 HO4 hc5 uf u0 u1 u2 u3 u4
    have uf := (unhide HD5).frozen
    have u0 := (unhide HD5).cell 0
    have u1 := (unhide HD5).cell 1
    have u2 := (unhide HD5).cell 2
    have u3 := (unhide HD5).cell 3
    have u4 := (unhide HD5).cell 4
    simp at u0 u1 u2 u3 u4)
  go_wp2_with (
    go_at_call 47
    refine (ref_twoS E _ (by rfl) _ (by omega)).mono ?_
    rintro e w6 ⟨rfl, hc6⟩
    have HD6 := hide ((unhide HD5).only hc6 (by simp))
    have HO6 := hide ((unhide HO5).trans hc6)
    clear HD5 HO5 hc6 uf u0 u1 u2 u3 u4
    have uf := (unhide HD6).frozen
    have u0 := (unhide HD6).cell 0
    have u1 := (unhide HD6).cell 1
    have u2 := (unhide HD6).cell 2
    have u3 := (unhide HD6).cell 3
    have u4 := (unhide HD6).cell 4
    simp at u0 u1 u2 u3 u4)
  go_wp2_with (
    go_at_call 47
    refine (ref_twoS T1 _ (by rfl) _ (by omega)).mono ?_
    rintro e w7 ⟨rfl, hc7⟩
    have HD7 := hide ((unhide HD6).only hc7 (by simp))
    have HO7 := hide ((unhide HO6).trans hc7)
    clear HD6 HO6 hc7 uf u0 u1 u2 u3 u4
    have uf := (unhide HD7).frozen
    have u0 := (unhide HD7).cell 0
    have u1 := (unhide HD7).cell 1
    have u2 := (unhide HD7).cell 2
    have u3 := (unhide HD7).cell 3
    have u4 := (unhide HD7).cell 4
    simp at u0 u1 u2 u3 u4)
  go_wp2_with (
    go_at_call 47
    refine (ref_twoS T2 _ (by rfl) _ (by omega)).mono ?_
    rintro e w8 ⟨rfl, hc8⟩
    have HD8 := hide ((unhide HD7).only hc8 (by simp))
    have HO8 := hide ((unhide HO7).trans hc8)
    clear HD7 HO7 hc8 uf u0 u1 u2 u3 u4
    have uf := (unhide HD8).frozen
    have u0 := (unhide HD8).cell 0
    have u1 := (unhide HD8).cell 1
    have u2 := (unhide HD8).cell 2
    have u3 := (unhide HD8).cell 3
    have u4 := (unhide HD8).cell 4
    simp at u0 u1 u2 u3 u4
    have s1 : (twoS Y1).size = 2 := rfl
    have s2 : (twoS Y2).size = 2 := rfl
    have s3 : (twoS M).size = 2 := rfl
    have s4 : (twoS E).size = 2 := rfl
    have s5 : (twoS T1).size = 2 := rfl
    have s6 : (twoS T2).size = 2 := rfl
    have s7 : (oneS V).size = 1 := rfl
    have hcv : (convert 96 9 (.slice (some ⟨w8.heap.size, 0, none⟩) 1 1)).run Tryz.prog (w8.alloc (.cells #[.int .u8 (48 + (V : Int))] 5)) = .ok (.string (oneS V)) (w8.alloc (.cells #[.int .u8 (48 + (V : Int))] 5)) := run_conv1 w8 (48 + (V : Int)))
  go_ret
  refine ⟨N, n, m, k, (unhide HN).1, (unhide HN).2, unhide HIS, ?_, (unhide HO8).alloc _⟩
  rw [unhide HTOLD]
  rfl
end Go.Proofs.YtnnhnihgeheahaaGreatDoor

/- The program's clock: shown. -/
set_option linter.unusedSimpArgs false
set_option linter.unusedVariables false
namespace Go.Proofs.YtnnhnihgeheahaaGreatDoor
open Go.RowKit

theorem run_str2 (a b c : Int) (w : World) : (Instr.field 135 (.agg #[.int .i64 a, .int .i64 b, .int .i64 c]) 2).run Tryz.prog w = .ok (.int .i64 c) w := by kernel_rfl

set_option maxRecDepth 4000 in
set_option maxHeartbeats 4000000 in
theorem code_shown (z : Zon) (t : Int) (w : World) (hM : Months w) (hz : Cal.Fine z) (ht1 : 0 ≤ t) (ht2 : t ≤ 70000000) :
    Calls Tryz.prog 37 #[zonV z, .int .i64 t] w fun e w' => e = .returned (.int .i64 (Cal.shown z t)) ∧ Only [] w w' := by
  have hoff := hz.good.offset
  have hshb := hz.good.shift
  have hst : ∀ (s : Int) (w' : World), s = t + z.offset → Months w' → Calls Tryz.prog 67 #[zonV z, .int .i64 s] w' fun e w'' => (∃ a b ah : Int, e = .returned (.agg #[.int .i64 a, .int .i64 b, .int .i64 ah]) ∧ t + z.offset + ah = Cal.shown z t ∧ 0 ≤ ah ∧ ah ≤ 120) ∧ Only [] w' w'' := by
    intro s w' hs hM'
    refine (code_stretchAt z s w' hM' hz (by omega) (by omega)).mono ?_
    rintro e w'' ⟨⟨a, b, ah, su, rfl, hS, hah, _, _⟩, ho⟩
    have h1 := hS.same s hS.lo hS.hi
    refine ⟨⟨a, b, ah, rfl, ?_, ?_, ?_⟩, ho⟩
    · unfold Cal.shown
      rw [← hs, h1, hah]
    · rw [hah]; split <;> omega
    · rw [hah]; split <;> omega
  obtain ⟨X, hX⟩ : ∃ X, X = Cal.shown z t := ⟨_, rfl⟩
  rw [← hX] at hst ⊢
  have HM := hide hM
  clear hz hM hX
  obtain ⟨off, sh, ⟨m1, k1, d1, t1⟩, ⟨m2, k2, d2, t2⟩⟩ := z
  simp only at *
  unfold zonV
  unfold zonV at hst
  have HST := hide hst
  clear hst
  have HO0 := hide ((Only.refl [] w).alloc (.cells (zonA off sh m1 k1 d1 t1 m2 k2 d2 t2) 79))
  have HM0 := hide ((unhide HM).alloc (.cells (zonA off sh m1 k1 d1 t1 m2 k2 d2 t2) 79))
  have hfd := run_str2
  go_enter Tryz.func37, Tryz.ntmps37
  go_wp2_with (
    go_at_call 67
    refine (unhide HST _ _ rfl (unhide HM0)).mono ?_
    rintro e w1 ⟨⟨a, b, ah, rfl, hah, ha1, ha2⟩, ho⟩
    have HAH := hide hah
    have HO1 := hide ((unhide HO0).trans ho)
    clear ho HO0 hah)
  go_ret
  exact ⟨ret_int (by have := unhide HAH; omega), unhide HO1⟩
end Go.Proofs.YtnnhnihgeheahaaGreatDoor

/- The program's telling: together, padded. -/
set_option linter.unusedSimpArgs false
set_option linter.unusedVariables false
namespace Go.Proofs.YtnnhnihgeheahaaGreatDoor
open Go.RowKit

theorem join_plain (xs : List (List UInt8)) : Lib.join xs [] = xs.flatten := by
  cases xs with
  | nil => rfl
  | cons x r => rw [Lib.join_cons]; simp [Lib.joinTail]

/-- Strings one behind the other. -/
def cat (xs : List ByteArray) : ByteArray := ⟨(xs.map (·.data.toList)).flatten.toArray⟩

set_option maxHeartbeats 1000000 in
theorem code_together (bk n c : Nat) (xs : List ByteArray) (hn : n = xs.length) (w : World)
    (hcells : ∀ (j : Nat) x, xs[j]? = some x → w.cell? ⟨bk, 0 + j, none⟩ = some (.string x)) (hbk : bk < w.heap.size) (hN : xs.length ≤ 1000) (hcap : xs.length ≤ c)
    (hlen : (xs.map (·.data.toList)).flatten.length ≤ 100000) :
    Calls Tryz.prog 63 #[.slice (some ⟨bk, 0, none⟩) n c] w fun e w' => e = .returned (.string (cat xs)) ∧ Only [] w w' := by
  subst hn
  have hl : (Lib.join (xs.map (·.data.toList)) (ByteArray.mk #[]).data.toList).length ≤ 140737488355328 := by
    show (Lib.join (xs.map (·.data.toList)) []).length ≤ _
    rw [join_plain]; omega
  have hr : (⟨(Lib.join (xs.map (·.data.toList)) (ByteArray.mk #[]).data.toList).toArray⟩ : ByteArray) = cat xs := by
    show (⟨(Lib.join (xs.map (·.data.toList)) []).toArray⟩ : ByteArray) = cat xs
    rw [join_plain]; rfl
  have HC := hide hcells
  have HB := hide hbk
  have HL := hide hl
  have HR := hide hr
  clear hcells hbk hlen hl hr
  go_enter Tryz.func63, Tryz.ntmps63
  go_wp2_with (
    go_at_call 93
    refine (Any.strings_Join Tryz.lays156 Tryz.Builder_Extra_156 bk 0 c xs ⟨#[]⟩ _ (unhide HC) (unhide HB) (by omega) hcap (unhide HL)).mono ?_
    rintro e w1 ⟨rfl, hb⟩
    rw [unhide HR]
    have HO := hide (Only.of_below [] hb)
    clear hb)
  go_ret
  exact ⟨rfl, unhide HO⟩

theorem cells_strs {w : World} {b : Nat} {xs : List ByteArray} {T : TypeId} (h : Blk w b (xs.map Value.string).toArray T) : ∀ (j : Nat) x, xs[j]? = some x → w.cell? ⟨b, 0 + j, none⟩ = some (.string x) := by
  intro j x hj
  rw [h.cell]
  simp [hj]

theorem dec_one {n : Nat} (h : n < 10) : Lib.decDigits n = [UInt8.ofNat (48 + n)] := by rw [Lib.decDigits, dif_pos h]
theorem dec_two {n : Nat} (h : ¬ n < 10) (h2 : n < 100) : Lib.decDigits n = [UInt8.ofNat (48 + n / 10), UInt8.ofNat (48 + n % 10)] := by
  rw [Lib.decDigits, dif_neg h, dec_one (by omega)]; rfl
theorem dec_four {n : Nat} (h : 1000 ≤ n) (h2 : n < 10000) : (⟨(Lib.decDigits n).toArray⟩ : ByteArray) = twoS (n / 100) ++ twoS (n % 100) := by
  rw [Lib.decDigits, dif_neg (by omega), Lib.decDigits, dif_neg (by omega), dec_two (by omega) (by omega)]
  have e1 : n / 10 / 10 / 10 = n / 100 / 10 := by omega
  have e2 : n / 10 / 10 % 10 = n / 100 % 10 := by omega
  have e3 : n / 10 % 10 = n % 100 / 10 := by omega
  have e4 : n % 10 = n % 100 % 10 := by omega
  rw [e1, e2, e3, e4]
  rfl

set_option maxRecDepth 2000 in
set_option maxHeartbeats 1000000 in
theorem code_padded2 (n : Nat) (x y : Int) (ex : x = n) (ey : y = 2) (w : World) (hn : n < 100) :
    Calls Tryz.prog 64 #[.int .i64 x, .int .i64 y] w fun e w' => e = .returned (.string (twoS n)) ∧ Only [] w w' := by
  subst ex ey
  by_cases h10 : n < 10
  · obtain ⟨T, hT⟩ : ∃ T : ByteArray, T = ⟨(Lib.decDigits n).toArray⟩ := ⟨_, rfl⟩
    have hTs : T.size = 1 := by rw [hT, dec_one h10]; rfl
    have hfin : cat [⟨#[48]⟩, T] = twoS n := by
      rw [hT, dec_one h10]
      have e1 : n / 10 = 0 := by omega
      have e2 : n % 10 = n := by omega
      simp only [twoS, e1, e2]
      rfl
    have hl : ([⟨#[48]⟩, T].map (fun (b : ByteArray) => b.data.toList)).flatten.length ≤ 100000 := by
      have : T.data.toList.length = 1 := by rw [hT, dec_one h10]; rfl
      simp [this]
    have HT := hide hT
    have HF := hide hfin
    have HL := hide hl
    have HC := hide (Blk.new w #[.string ⟨#[48]⟩, .string T] 9)
    clear hT hfin hl
    go_enter Tryz.func64, Tryz.ntmps64
    go_wp2_with (first
      | (go_at_call 65; refine (Any.strconv_Itoa_small Tryz.lays171 n hn _).mono ?_; rintro e w1 ⟨rfl, rfl⟩; rw [← unhide HT])
      | (go_at_call 94; refine (Any.strings_Repeat_one Tryz.lays105 ⟨#[48]⟩ _).mono ?_; rintro e w1 ⟨rfl, rfl⟩)
      | (go_at_call 63
         refine (code_together _ 2 2 [⟨#[48]⟩, T] rfl _ (cells_strs (unhide HC)) (unhide HC).lt (by simp) (by simp) (unhide HL)).mono ?_
         rintro e w2 ⟨rfl, ho⟩
         rw [unhide HF]
         have HO := hide (((Only.refl [] _).alloc _).trans ho)
         clear ho))
    go_ret
    exact ⟨rfl, unhide HO⟩
  · obtain ⟨T, hT⟩ : ∃ T : ByteArray, T = ⟨(Lib.decDigits n).toArray⟩ := ⟨_, rfl⟩
    have hTs : T.size = 2 := by rw [hT, dec_two h10 hn]; rfl
    have hfin : cat [⟨#[]⟩, T] = twoS n := by rw [hT, dec_two h10 hn]; rfl
    have hl : ([⟨#[]⟩, T].map (fun (b : ByteArray) => b.data.toList)).flatten.length ≤ 100000 := by
      have : T.data.toList.length = 2 := by rw [hT, dec_two h10 hn]; rfl
      simp [this]
    have HT := hide hT
    have HF := hide hfin
    have HL := hide hl
    have HC := hide (Blk.new w #[.string ⟨#[]⟩, .string T] 9)
    clear hT hfin hl
    go_enter Tryz.func64, Tryz.ntmps64
    go_wp2_with (first
      | (go_at_call 65; refine (Any.strconv_Itoa_small Tryz.lays171 n hn _).mono ?_; rintro e w1 ⟨rfl, rfl⟩; rw [← unhide HT])
      | (go_at_call 94; refine (Any.strings_Repeat_zero Tryz.lays105 ⟨#[48]⟩ _).mono ?_; rintro e w1 ⟨rfl, rfl⟩)
      | (go_at_call 63
         refine (code_together _ 2 2 [⟨#[]⟩, T] rfl _ (cells_strs (unhide HC)) (unhide HC).lt (by simp) (by simp) (unhide HL)).mono ?_
         rintro e w2 ⟨rfl, ho⟩
         rw [unhide HF]
         have HO := hide (((Only.refl [] _).alloc _).trans ho)
         clear ho))
    go_ret
    exact ⟨rfl, unhide HO⟩

/-- The library's table of powers lies as the program's text lays it. -/
def Pow (w : World) : Prop := Lib.TabIs Tryz.prog w "internal/strconv.uint64pow10" .u64 Lib.pow10Tab
theorem gPow : Tryz.prog.globalNamed "internal/strconv.uint64pow10" = some 2 := by kernel_rfl
theorem Pow.only {w w' : World} (h : Pow w) (k : Only [] w w') : Pow w' := by
  unfold Pow Lib.TabIs World.var? at *
  rw [gPow] at *
  simp only [Option.bind_some] at *
  have hlt : 2 < w.heap.size := by
    cases hb : w.heap[2]? with
    | none => rw [hb] at h; cases h
    | some o => exact (Array.getElem?_eq_some_iff.1 hb).1
  rw [k.block _ hlt (by simp)]
  exact h

set_option maxRecDepth 2000 in
set_option maxHeartbeats 1000000 in
theorem code_padded4 (n : Nat) (x y : Int) (ex : x = n) (ey : y = 4) (w : World) (hP : Pow w) (h1 : 1000 ≤ n) (h2 : n < 10000) :
    Calls Tryz.prog 64 #[.int .i64 x, .int .i64 y] w fun e w' => e = .returned (.string (twoS (n / 100) ++ twoS (n % 100))) ∧ Only [] w w' := by
  subst ex ey
  obtain ⟨T, hT⟩ : ∃ T : ByteArray, T = ⟨(Lib.itoa (n : Int)).toArray⟩ := ⟨_, rfl⟩
  have hT2 : T = twoS (n / 100) ++ twoS (n % 100) := by
    rw [hT, ← dec_four h1 h2]
    unfold Lib.itoa
    rw [if_neg (by omega)]
    rfl
  have hTs : T.size = 4 := by rw [hT2]; rfl
  have hfin : cat [⟨#[]⟩, T] = twoS (n / 100) ++ twoS (n % 100) := by rw [hT2]; rfl
  have hl : ([⟨#[]⟩, T].map (fun (b : ByteArray) => b.data.toList)).flatten.length ≤ 100000 := by
    have : T.data.toList.length = 4 := by rw [hT2]; rfl
    simp [this]
  have HT := hide hT
  have HF := hide hfin
  have HL := hide hl
  have HP := hide hP
  clear hT hT2 hfin hl hP
  go_enter Tryz.func64, Tryz.ntmps64
  go_wp2_with (first
    | (go_at_call 65
       refine (Any.strconv_Itoa Tryz.laysM171 (n : Int) (by omega) (by omega) _ (unhide HP)).mono ?_
       rintro e w1 ⟨rfl, k, os, hw1⟩
       rw [← unhide HT]
       have HO1 : Hid (Only [] w w1) := by rw [hw1]; exact Only.of_below [] (Lib.below_grow w.heap.size w (Nat.le_refl _) k os)
       have HC := hide (Blk.new w1 #[.string ⟨#[]⟩, .string T] 9)
       clear hw1)
    | (go_at_call 94; refine (Any.strings_Repeat_zero Tryz.lays105 ⟨#[48]⟩ _).mono ?_; rintro e w3 ⟨rfl, hw3⟩; rw [hw3])
    | (go_at_call 63
       refine (code_together _ 2 2 [⟨#[]⟩, T] rfl _ (cells_strs (unhide HC)) (unhide HC).lt (by simp) (by simp) (unhide HL)).mono ?_
       rintro e w2 ⟨rfl, ho⟩
       rw [unhide HF]
       have HO := hide (((unhide HO1).alloc _).trans ho)
       clear ho))
  go_ret
  exact ⟨rfl, unhide HO⟩
end Go.Proofs.YtnnhnihgeheahaaGreatDoor

/- The program's tellTime. -/
set_option linter.unusedSimpArgs false
set_option linter.unusedVariables false
namespace Go.Proofs.YtnnhnihgeheahaaGreatDoor
open Go.RowKit

/-- What the region of 'tellTime' holds. -/
abbrev TS (w : World) (b Y M E : Nat) (w' : World) : Prop :=
  (w'.cell? ⟨b, 0, none⟩ = some (.int .i64 (Y : Int)) ∧ w'.cell? ⟨b, 1, none⟩ = some (.int .i64 (M : Int)) ∧ w'.cell? ⟨b, 2, none⟩ = some (.int .i64 (E : Int))) ∧ Hid (Only [] w w') ∧ Hid (Pow w')
theorem TS.pow {w : World} {b Y M E : Nat} {w' : World} (h : TS w b Y M E w') : Pow w' := h.2.2
theorem TS.next {w : World} {b Y M E : Nat} {w' w1 : World} (h : TS w b Y M E w') (ho : Only [] w' w1) : TS w b Y M E w1 := by
  obtain ⟨⟨u0, u1, u2⟩, HO, HP⟩ := h
  exact ⟨⟨cell_keep ho u0, cell_keep ho u1, cell_keep ho u2⟩, (unhide HO).trans ho, (unhide HP).only ho⟩
theorem TS.alloc {w : World} {b Y M E : Nat} {w' : World} (h : TS w b Y M E w') (o : Obj) : TS w b Y M E (w'.alloc o) := h.next ((Only.refl [] w').alloc o)

theorem told_cat (N n m k : Nat) : cat [twoS ((1960 + n) / 100) ++ twoS ((1960 + n) % 100), ⟨#[45]⟩, twoS (1 + m), ⟨#[45]⟩, twoS (k + 1), ⟨#[32]⟩, twoS (N % 1440 / 60), ⟨#[58]⟩, twoS (N % 1440 % 60), ⟨#[32]⟩, oneS ((N / 1440 + 5) % 7)] = told N n m k := rfl

set_option maxRecDepth 4000 in
set_option maxHeartbeats 4000000 in
theorem code_tellTime (N n m k : Nat) (x : Int) (ex : x = (N : Int) - 5260320) (w : World) (hIs : Cal.Is (N / 1440) n m k) (hM : Months w) (hP : Pow w) (h1 : 1000000 ≤ N) (h2 : N ≤ 100000000) :
    Calls Tryz.prog 36 #[.int .i64 x] w fun e w' => e = .returned (.string (told N n m k)) ∧ Only [] w w' := by
  subst ex
  obtain ⟨D, hD⟩ : ∃ D, D = N / 1440 := ⟨_, rfl⟩
  have hDi : ((N : Int) - 5260320) / 1440 = (D : Int) - 3653 := by omega
  have hTi : ((N : Int) - 5260320) % 1440 = ((N % 1440 : Nat) : Int) := by omega
  have hDb : 600 ≤ D ∧ D ≤ 70000 := by omega
  have hn := hIs.le (by omega)
  have hm := hIs.2.2
  have hk := hIs.2.1
  have hml := Cal.ml_bd (1960 + n) (m + 1)
  obtain ⟨Y, hY⟩ : ∃ Y, Y = 1960 + n := ⟨_, rfl⟩
  obtain ⟨M, hMm⟩ : ∃ M, M = 1 + m := ⟨_, rfl⟩
  obtain ⟨E, hE⟩ : ∃ E, E = k + 1 := ⟨_, rfl⟩
  obtain ⟨T, hT⟩ : ∃ T, T = N % 1440 := ⟨_, rfl⟩
  obtain ⟨V, hV⟩ : ∃ V, V = (D + 5) % 7 := ⟨_, rfl⟩
  obtain ⟨T1, g3⟩ : ∃ T1, T1 = T / 60 := ⟨_, rfl⟩
  obtain ⟨T2, g4⟩ : ∃ T2, T2 = T % 60 := ⟨_, rfl⟩
  have hVi : (V : Int) = ((D : Int) - 3653 + 4) % 7 := by omega
  have hfin : cat [twoS (Y / 100) ++ twoS (Y % 100), ⟨#[45]⟩, twoS M, ⟨#[45]⟩, twoS E, ⟨#[32]⟩, twoS T1, ⟨#[58]⟩, twoS T2, ⟨#[32]⟩, oneS V] = told N n m k := by
    rw [g3, g4, hY, hMm, hE, hT, hV, hD]; exact told_cat N n m k
  have hlen : ([twoS (Y / 100) ++ twoS (Y % 100), ⟨#[45]⟩, twoS M, ⟨#[45]⟩, twoS E, ⟨#[32]⟩, twoS T1, ⟨#[58]⟩, twoS T2, ⟨#[32]⟩, oneS V].map (fun (b : ByteArray) => b.data.toList)).flatten.length ≤ 100000 := by
    have : ([twoS (Y / 100) ++ twoS (Y % 100), ⟨#[45]⟩, twoS M, ⟨#[45]⟩, twoS E, ⟨#[32]⟩, twoS T1, ⟨#[58]⟩, twoS T2, ⟨#[32]⟩, oneS V].map (fun (b : ByteArray) => b.data.toList)).flatten.length = 18 := rfl
    omega
  have hdc : ∀ n' m' k', Cal.Is D n' m' k' → dateC n' m' k' = .agg #[.int .i64 (Y : Int), .int .i64 (M : Int), .int .i64 (E : Int)] := by
    intro n' m' k' h
    rw [hD] at h
    obtain ⟨rfl, rfl, rfl⟩ := h.unique hIs
    rw [hY, hMm, hE]; rfl
  have hY2 : 1960 ≤ Y ∧ Y ≤ 2160 := by omega
  have hM2 : M ≤ 12 := by omega
  have hE2 : E ≤ 31 := by omega
  have hT2 : T ≤ 1439 := by omega
  have hV2 : V ≤ 6 := by omega
  have q3 : (T : Int) / 60 = T1 := by omega
  have q4 : (T : Int) % 60 = T2 := by omega
  have q7 : (T : Int).tdiv 60 = T1 := by rw [Int.tdiv_eq_ediv_of_nonneg (by omega)]; exact q3
  have q8 : (T : Int).tmod 60 = T2 := by rw [Int.tmod_eq_emod_of_nonneg (by omega)]; exact q4
  have b3 : T1 ≤ 99 := by omega
  have b4 : T2 ≤ 99 := by omega
  have hone : (⟨(Lib.decDigits V).toArray⟩ : ByteArray) = oneS V := by rw [dec_one (by omega)]; rfl
  rw [← hT] at hTi
  have HDI := hide hDi
  have HTI := hide hTi
  have HVI := hide hVi
  have HF := hide hfin
  have HL := hide hlen
  have HDC := hide hdc
  have HM := hide hM
  have HP := hide hP
  have HONE := hide hone
  clear hD hDi hTi hn hm hk hml hY hMm hE hT hV g3 g4 hVi hfin hlen hdc hM hP hIs hone
  go_enter Tryz.func36, Tryz.ntmps36
  go_wp2_with (first
    | (go_at_call 60; refine (code_floorDiv' ((N : Int) - 5260320) 1440 _ _ (by omega) (by omega) _ (by omega) (by omega) (by omega) (by omega)).mono ?_; rintro e w1 ⟨rfl, hw⟩; rw [hw, unhide HDI]; clear hw)
    | (go_at_call 61; refine (code_floorMod' ((N : Int) - 5260320) 1440 _ _ (by omega) (by omega) _ (by omega) (by omega) (by omega) (by omega)).mono ?_; rintro e w1 ⟨rfl, hw⟩; rw [hw, unhide HTI]; clear hw)
    | (go_at_call 62
       refine (code_dateOf D _ (by omega) _ (unhide HM) (by omega) (by omega)).mono ?_
       rintro e w1 ⟨n', m', k', hn', hI', rfl, ho1⟩
       rw [unhide HDC n' m' k' hI']
       have HO1 := hide ho1
       have HP1 := hide ((unhide HP).only ho1)
       clear hI' hn' ho1 HP))
  have hb0 := Blk.new w1 #[.int .i64 (Y : Int), .int .i64 (M : Int), .int .i64 (E : Int)] 130
  have HK0 : Hid (TS w w1.heap.size Y M E (w1.alloc (.cells #[.int .i64 (Y : Int), .int .i64 (M : Int), .int .i64 (E : Int)] 130)).drew) :=
    ⟨⟨hb0.cell 0, hb0.cell 1, hb0.cell 2⟩, ((unhide HO1).alloc _).drew, (unhide HP1).only ((Only.refl [] w1).alloc _).drew⟩
  clear hb0 HP1 HO1
  go_region_held3 (fun w' => (w'.cell? ⟨w1.heap.size, 0, none⟩ = some (.int .i64 (Y : Int)) ∧ w'.cell? ⟨w1.heap.size, 1, none⟩ = some (.int .i64 (M : Int)) ∧ w'.cell? ⟨w1.heap.size, 2, none⟩ = some (.int .i64 (E : Int))) ∧ Hid (Only [] w w') ∧ Hid (Pow w')) (first | exact unhide HK0 | assumption | exact unhide HK | exact TS.alloc (w := w) (b := w1.heap.size) (Y := Y) (M := M) (E := E) (by assumption) _)
    (first
      | (go_at_call 64
         refine (code_padded4 Y _ _ (by omega) (by omega) _ (TS.pow (w := w) (b := w1.heap.size) (Y := Y) (M := M) (E := E) (by assumption)) (by omega) (by omega)).mono ?_
         rintro e w2 ⟨rfl, ho⟩
         have HK := hide (TS.next (w := w) (b := w1.heap.size) (Y := Y) (M := M) (E := E) (by assumption) ho)
         clear ho)
      | (go_at_call 64
         refine (code_padded2 M _ _ (by omega) (by omega) _ (by omega)).mono ?_
         rintro e w2 ⟨rfl, ho⟩
         have HK := hide (TS.next (w := w) (b := w1.heap.size) (Y := Y) (M := M) (E := E) (by assumption) ho)
         clear ho)
      | (go_at_call 64
         refine (code_padded2 E _ _ (by omega) (by omega) _ (by omega)).mono ?_
         rintro e w2 ⟨rfl, ho⟩
         have HK := hide (TS.next (w := w) (b := w1.heap.size) (Y := Y) (M := M) (E := E) (by assumption) ho)
         clear ho)
      | (go_at_call 64
         refine (code_padded2 T1 _ _ (by first | omega | (rw [q7]) | (simp only [IntKind.wrap_i64, q7]; omega)) (by omega) _ (by omega)).mono ?_
         rintro e w2 ⟨rfl, ho⟩
         have HK := hide (TS.next (w := w) (b := w1.heap.size) (Y := Y) (M := M) (E := E) (by assumption) ho)
         clear ho)
      | (go_at_call 64
         refine (code_padded2 T2 _ _ (by first | omega | (rw [q8]) | (simp only [IntKind.wrap_i64, q8]; omega)) (by omega) _ (by omega)).mono ?_
         rintro e w2 ⟨rfl, ho⟩
         have HK := hide (TS.next (w := w) (b := w1.heap.size) (Y := Y) (M := M) (E := E) (by assumption) ho)
         clear ho)
      | (go_at_call 66
         refine (code_weekdayOfR ((D : Int) - 3653) _ (V : Int) (by omega) (unhide HVI) _ (by omega) (by omega)).mono ?_
         rintro e w2 ⟨rfl, hw⟩
         rw [hw]
         clear hw)
      | (go_at_call 65
         refine (Any.strconv_Itoa_small Tryz.lays171 V (by omega) _).mono ?_
         rintro e w2 ⟨rfl, hw⟩
         rw [hw, unhide HONE]
         clear hw)
      | (go_at_call 63
         refine (code_together _ 11 11 [twoS (Y / 100) ++ twoS (Y % 100), ⟨#[45]⟩, twoS M, ⟨#[45]⟩, twoS E, ⟨#[32]⟩, twoS T1, ⟨#[58]⟩, twoS T2, ⟨#[32]⟩, oneS V] rfl _ (cells_strs (Blk.new _ _ _)) (by rw [World.size_alloc]; omega) (by simp) (by simp) (unhide HL)).mono ?_
         rintro e w2 ⟨rfl, ho⟩
         rw [unhide HF]
         have HK := hide (TS.next (w := w) (b := w1.heap.size) (Y := Y) (M := M) (E := E) (by assumption) ho)
         clear ho))
  go_wp2
  go_ret
  exact ⟨rfl, unhide (unhide HK).2.1⟩
end Go.Proofs.YtnnhnihgeheahaaGreatDoor

/- The program's Local. -/
set_option linter.unusedSimpArgs false
set_option linter.unusedVariables false
namespace Go.Proofs.YtnnhnihgeheahaaGreatDoor
open Go.RowKit

set_option maxHeartbeats 400000 in
theorem code_inRangeL (m : Int) (b : Bool) (hb : b = (decide (0 ≤ m) && decide (m ≤ 70000000))) (w : World) : Calls Tryz.prog 35 #[.int .i64 m] w fun e w' => e = .returned (.bool b) ∧ w' = w := by
  by_cases h1 : 0 ≤ m <;> by_cases h2 : m ≤ 70000000
  all_goals
    have HB := hide hb
    clear hb
    go_enter Tryz.func35, Tryz.ntmps35
    go_wp2
    go_ret
    exact ⟨ret_bool (by rw [unhide HB]; simp [h1, h2]), rfl⟩

set_option maxRecDepth 2000 in
set_option maxHeartbeats 1000000 in
theorem c_Local_zone (s : ByteArray) (t : Int) (n0 : Nat) (w : World) (hs : s.size ≤ 281474976710656) (hE : Errs w) (h : (100 < s.size ∧ n0 = 1) ∨ (s.size ≤ 100 ∧ (∃ q, pZone s = .error q) ∧ n0 = 2)) :
    Calls Tryz.prog 13 #[.string s, .int .i64 t] w fun e w' => e = .returned (.tuple #[.string ⟨#[]⟩, .int .i64 (n0 : Int)]) ∧ Only [] w w' := by
  have HH := hide h
  have HE := hide hE
  have hn0 : ((n0 : Int) != 0) = true := by rw [bne_iff_ne]; omega
  clear h hE
  go_enter Tryz.func13, Tryz.ntmps13
  go_wp2_with (
    go_at_call 34
    refine (c_read s _ hs (unhide HE)).mono ?_
    rintro e w1 ⟨hbel, zz, n, p, rfl, hl, hsm⟩
    obtain rfl : n = (n0 : Int) := by
      rcases unhide HH with ⟨h1, h2⟩ | ⟨h1, ⟨q, hq⟩, h2⟩
      · rw [(hl h1).1, h2]; rfl
      · rw [((hsm h1).2 q hq).1, h2]; rfl
    have HO := hide (Only.of_below [] hbel)
    unfold zonV
    clear hl hsm hbel HH)
  go_ret2
  exact ⟨rfl, (unhide HO).alloc _⟩

set_option maxRecDepth 2000 in
set_option maxHeartbeats 1000000 in
theorem c_Local_range (s : ByteArray) (t : Int) (z : Zon) (w : World) (hs : s.size ≤ 100) (hE : Errs w) (hz : pZone s = .ok z) (ht : t < 0 ∨ 70000000 < t) :
    Calls Tryz.prog 13 #[.string s, .int .i64 t] w fun e w' => e = .returned (.tuple #[.string ⟨#[]⟩, .int .i64 4]) ∧ Only [] w w' := by
  have HE := hide hE
  have HZ := hide hz
  have hri : false = (decide (0 ≤ t) && decide (t ≤ 70000000)) := by
    rcases ht with h | h
    · simp; omega
    · simp; omega
  have HRI := hide hri
  clear hz hE hri
  rcases ht with ht | ht
  all_goals
    go_enter Tryz.func13, Tryz.ntmps13
    go_wp2_with (first
      | (go_at_call 34
         refine (c_read s _ (by omega) (unhide HE)).mono ?_
         rintro e w1 ⟨hbel, zz, n, p, rfl, hl, hsm⟩
         obtain ⟨rfl, rfl, rfl⟩ := (hsm hs).1 z (unhide HZ)
         have HO := hide (Only.of_below [] hbel)
         unfold zonV
         clear hl hsm hbel)
      | (go_at_call 35; refine (code_inRangeL t false (unhide HRI) _).mono ?_; rintro e w2 ⟨rfl, rfl⟩))
    go_ret2
    exact ⟨rfl, (unhide HO).alloc _⟩

set_option maxRecDepth 2000 in
set_option maxHeartbeats 2000000 in
theorem c_Local_ok (s : ByteArray) (t : Int) (z : Zon) (N n m k : Nat) (w : World) (hs : s.size ≤ 100) (hE : Errs w) (hM : Months w) (hP : Pow w) (hz : pZone s = .ok z) (ht1 : 0 ≤ t) (ht2 : t ≤ 70000000)
    (hN : Cal.shown z t = (N : Int) - 5260320) (hIs : Cal.Is (N / 1440) n m k) :
    Calls Tryz.prog 13 #[.string s, .int .i64 t] w fun e w' => e = .returned (.tuple #[.string (told N n m k), .int .i64 0]) ∧ Only [] w w' := by
  have hg := pZone_good hz
  have hNb : 1000000 ≤ N ∧ N ≤ 100000000 := by
    have h1 := hg.offset
    have h2 := hg.shift
    have h3 : t + z.offset ≤ Cal.shown z t ∧ Cal.shown z t ≤ t + z.offset + 120 := by
      unfold Cal.shown
      split <;> omega
    omega
  have HE := hide hE
  have HZ := hide hz
  have HM := hide hM
  have HP := hide hP
  have HN := hide hN
  have HI := hide hIs
  have HG := hide (pZone_fine hz)
  have hri : true = (decide (0 ≤ t) && decide (t ≤ 70000000)) := by simp; omega
  have HRI := hide hri
  clear hz hE hM hP hN hIs hg hri
  go_enter Tryz.func13, Tryz.ntmps13
  go_wp2_with (
    go_at_call 34
    refine (c_read s _ (by omega) (unhide HE)).mono ?_
    rintro e w1 ⟨hbel, zz, n1, p, rfl, hl, hsm⟩
    obtain ⟨rfl, rfl, rfl⟩ := (hsm hs).1 z (unhide HZ)
    have HO1 := hide (Only.of_below [] hbel)
    obtain ⟨off, sh, ⟨m1, k1, d1, t1⟩, ⟨m2, k2, d2, t2⟩⟩ := zz
    unfold zonV
    have HM1 := hide (((unhide HM).only (unhide HO1) (by simp)).alloc (.cells (zonA off sh m1 k1 d1 t1 m2 k2 d2 t2) 79))
    have HO2 := hide ((unhide HO1).alloc (.cells (zonA off sh m1 k1 d1 t1 m2 k2 d2 t2) 79))
    clear hl hsm hbel)
  go_wp2_with (first
    | (go_at_call 35; refine (code_inRangeL t true (unhide HRI) _).mono ?_; rintro e w2 ⟨rfl, hw⟩; rw [hw]; clear hw)
    | (go_at_call 37
       refine (code_shown ⟨off, sh, ⟨m1, k1, d1, t1⟩, ⟨m2, k2, d2, t2⟩⟩ t _ (unhide HM1) (unhide HG) ht1 ht2).mono ?_
       rintro e w2 ⟨rfl, ho2⟩
       have HO3 := hide ((unhide HO2).trans ho2)
       have HM3 := hide ((unhide HM1).only ho2 (by simp))
       clear ho2))
  go_wp2_with (
    go_at_call 36
    refine (code_tellTime N n m k _ (unhide HN) _ (unhide HI) (unhide HM3) ((unhide HP).only (unhide HO3)) hNb.1 hNb.2).mono ?_
    rintro e w3 ⟨rfl, ho3⟩
    have HO4 := hide ((unhide HO3).trans ho3)
    clear ho3)
  go_ret2
  exact ⟨rfl, unhide HO4⟩
end Go.Proofs.YtnnhnihgeheahaaGreatDoor
