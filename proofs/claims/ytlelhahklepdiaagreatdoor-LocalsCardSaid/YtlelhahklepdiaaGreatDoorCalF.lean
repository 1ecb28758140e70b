/- The program's telling: together, padded. -/
import Derived.Test.YtlelhahklepdiaaGreatDoorClkB
import Derived.Test.YtlelhahklepdiaaGreatDoorShelf
import Derived.Test.YtlelhahklepdiaaGreatDoorShelfB
import Derived.Lib.AppendIntMem
import Derived.Test.YtlelhahklepdiaaGreatDoorRefV
set_option linter.unusedSimpArgs false
set_option linter.unusedVariables false
namespace Go.Proofs.YtlelhahklepdiaaGreatDoor
open Go.RowKit

theorem join_plain (xs : List (List UInt8)) : Lib.join xs [] = xs.flatten := by
  cases xs with
  | nil => rfl
  | cons x r => rw [Lib.join_cons]; simp [Lib.joinTail]

/-- Strings one behind the other. -/
def cat (xs : List ByteArray) : ByteArray := ⟨(xs.map (·.data.toList)).flatten.toArray⟩

set_option maxHeartbeats 1000000 in
theorem code_together (bk n c : Nat) (xs : List ByteArray) (hn : n = xs.length) (w : World)
    (hcells : ∀ (j : Nat) x, xs[j]? = some x → w.cell? ⟨bk, 0 + j, none⟩ = some (.string x)) (hbk : bk < w.heap.size) (hN : xs.length ≤ 1000) (hcap : xs.length ≤ c)
    (hlen : (xs.map (·.data.toList)).flatten.length ≤ 100000) :
    Calls Tryz.prog 48 #[.slice (some ⟨bk, 0, none⟩) n c] w fun e w' => e = .returned (.string (cat xs)) ∧ Only [] w w' := by
  subst hn
  have hl : (Lib.join (xs.map (·.data.toList)) (ByteArray.mk #[]).data.toList).length ≤ 140737488355328 := by
    show (Lib.join (xs.map (·.data.toList)) []).length ≤ _
    rw [join_plain]; omega
  have hr : (⟨(Lib.join (xs.map (·.data.toList)) (ByteArray.mk #[]).data.toList).toArray⟩ : ByteArray) = cat xs := by
    show (⟨(Lib.join (xs.map (·.data.toList)) []).toArray⟩ : ByteArray) = cat xs
    rw [join_plain]; rfl
  have HC := hide hcells
  have HB := hide hbk
  have HL := hide hl
  have HR := hide hr
  clear hcells hbk hlen hl hr
  go_enter Tryz.func48, Tryz.ntmps48
  go_wp2_with (
    go_at_call 71
    refine (Any.strings_Join Tryz.lays156 Tryz.Builder_Extra_156 bk 0 c xs ⟨#[]⟩ _ (unhide HC) (unhide HB) (by omega) hcap (unhide HL)).mono ?_
    rintro e w1 ⟨rfl, hb⟩
    rw [unhide HR]
    have HO := hide (Only.of_below [] hb)
    clear hb)
  go_ret
  exact ⟨rfl, unhide HO⟩

theorem cells_strs {w : World} {b : Nat} {xs : List ByteArray} {T : TypeId} (h : Blk w b (xs.map Value.string).toArray T) : ∀ (j : Nat) x, xs[j]? = some x → w.cell? ⟨b, 0 + j, none⟩ = some (.string x) := by
  intro j x hj
  rw [h.cell]
  simp [hj]

theorem dec_one {n : Nat} (h : n < 10) : Lib.decDigits n = [UInt8.ofNat (48 + n)] := by rw [Lib.decDigits, dif_pos h]
theorem dec_two {n : Nat} (h : ¬ n < 10) (h2 : n < 100) : Lib.decDigits n = [UInt8.ofNat (48 + n / 10), UInt8.ofNat (48 + n % 10)] := by
  rw [Lib.decDigits, dif_neg h, dec_one (by omega)]; rfl
theorem dec_four {n : Nat} (h : 1000 ≤ n) (h2 : n < 10000) : (⟨(Lib.decDigits n).toArray⟩ : ByteArray) = twoS (n / 100) ++ twoS (n % 100) := by
  rw [Lib.decDigits, dif_neg (by omega), Lib.decDigits, dif_neg (by omega), dec_two (by omega) (by omega)]
  have e1 : n / 10 / 10 / 10 = n / 100 / 10 := by omega
  have e2 : n / 10 / 10 % 10 = n / 100 % 10 := by omega
  have e3 : n / 10 % 10 = n % 100 / 10 := by omega
  have e4 : n % 10 = n % 100 % 10 := by omega
  rw [e1, e2, e3, e4]
  rfl

set_option maxRecDepth 2000 in
set_option maxHeartbeats 1000000 in
theorem code_padded2 (n : Nat) (x y : Int) (ex : x = n) (ey : y = 2) (w : World) (hn : n < 100) :
    Calls Tryz.prog 49 #[.int .i64 x, .int .i64 y] w fun e w' => e = .returned (.string (twoS n)) ∧ Only [] w w' := by
  subst ex ey
  by_cases h10 : n < 10
  · obtain ⟨T, hT⟩ : ∃ T : ByteArray, T = ⟨(Lib.decDigits n).toArray⟩ := ⟨_, rfl⟩
    have hTs : T.size = 1 := by rw [hT, dec_one h10]; rfl
    have hfin : cat [⟨#[48]⟩, T] = twoS n := by
      rw [hT, dec_one h10]
      have e1 : n / 10 = 0 := by omega
      have e2 : n % 10 = n := by omega
      simp only [twoS, e1, e2]
      rfl
    have hl : ([⟨#[48]⟩, T].map (fun (b : ByteArray) => b.data.toList)).flatten.length ≤ 100000 := by
      have : T.data.toList.length = 1 := by rw [hT, dec_one h10]; rfl
      simp [this]
    have HT := hide hT
    have HF := hide hfin
    have HL := hide hl
    have HC := hide (Blk.new w #[.string ⟨#[48]⟩, .string T] 9)
    clear hT hfin hl
    go_enter Tryz.func49, Tryz.ntmps49
    go_wp2_with (first
      | (go_at_call 50; refine (Any.strconv_Itoa_small Tryz.lays171 n hn _).mono ?_; rintro e w1 ⟨rfl, rfl⟩; rw [← unhide HT])
      | (go_at_call 72; refine (Any.strings_Repeat_one Tryz.lays105 ⟨#[48]⟩ _).mono ?_; rintro e w1 ⟨rfl, rfl⟩)
      | (go_at_call 48
         refine (code_together _ 2 2 [⟨#[48]⟩, T] rfl _ (cells_strs (unhide HC)) (unhide HC).lt (by simp) (by simp) (unhide HL)).mono ?_
         rintro e w2 ⟨rfl, ho⟩
         rw [unhide HF]
         have HO := hide (((Only.refl [] _).alloc _).trans ho)
         clear ho))
    go_ret
    exact ⟨rfl, unhide HO⟩
  · obtain ⟨T, hT⟩ : ∃ T : ByteArray, T = ⟨(Lib.decDigits n).toArray⟩ := ⟨_, rfl⟩
    have hTs : T.size = 2 := by rw [hT, dec_two h10 hn]; rfl
    have hfin : cat [⟨#[]⟩, T] = twoS n := by rw [hT, dec_two h10 hn]; rfl
    have hl : ([⟨#[]⟩, T].map (fun (b : ByteArray) => b.data.toList)).flatten.length ≤ 100000 := by
      have : T.data.toList.length = 2 := by rw [hT, dec_two h10 hn]; rfl
      simp [this]
    have HT := hide hT
    have HF := hide hfin
    have HL := hide hl
    have HC := hide (Blk.new w #[.string ⟨#[]⟩, .string T] 9)
    clear hT hfin hl
    go_enter Tryz.func49, Tryz.ntmps49
    go_wp2_with (first
      | (go_at_call 50; refine (Any.strconv_Itoa_small Tryz.lays171 n hn _).mono ?_; rintro e w1 ⟨rfl, rfl⟩; rw [← unhide HT])
      | (go_at_call 72; refine (Any.strings_Repeat_zero Tryz.lays105 ⟨#[48]⟩ _).mono ?_; rintro e w1 ⟨rfl, rfl⟩)
      | (go_at_call 48
         refine (code_together _ 2 2 [⟨#[]⟩, T] rfl _ (cells_strs (unhide HC)) (unhide HC).lt (by simp) (by simp) (unhide HL)).mono ?_
         rintro e w2 ⟨rfl, ho⟩
         rw [unhide HF]
         have HO := hide (((Only.refl [] _).alloc _).trans ho)
         clear ho))
    go_ret
    exact ⟨rfl, unhide HO⟩

/-- The library's table of powers lies as the program's text lays it. -/
def Pow (w : World) : Prop := Lib.TabIs Tryz.prog w "internal/strconv.uint64pow10" .u64 Lib.pow10Tab
theorem gPow : Tryz.prog.globalNamed "internal/strconv.uint64pow10" = some 2 := by kernel_rfl
theorem Pow.only {w w' : World} (h : Pow w) (k : Only [] w w') : Pow w' := by
  unfold Pow Lib.TabIs World.var? at *
  rw [gPow] at *
  simp only [Option.bind_some] at *
  have hlt : 2 < w.heap.size := by
    cases hb : w.heap[2]? with
    | none => rw [hb] at h; cases h
    | some o => exact (Array.getElem?_eq_some_iff.1 hb).1
  rw [k.block _ hlt (by simp)]
  exact h

set_option maxRecDepth 2000 in
set_option maxHeartbeats 1000000 in
theorem code_padded4 (n : Nat) (x y : Int) (ex : x = n) (ey : y = 4) (w : World) (hP : Pow w) (h1 : 1000 ≤ n) (h2 : n < 10000) :
    Calls Tryz.prog 49 #[.int .i64 x, .int .i64 y] w fun e w' => e = .returned (.string (twoS (n / 100) ++ twoS (n % 100))) ∧ Only [] w w' := by
  subst ex ey
  obtain ⟨T, hT⟩ : ∃ T : ByteArray, T = ⟨(Lib.itoa (n : Int)).toArray⟩ := ⟨_, rfl⟩
  have hT2 : T = twoS (n / 100) ++ twoS (n % 100) := by
    rw [hT, ← dec_four h1 h2]
    unfold Lib.itoa
    rw [if_neg (by omega)]
    rfl
  have hTs : T.size = 4 := by rw [hT2]; rfl
  have hfin : cat [⟨#[]⟩, T] = twoS (n / 100) ++ twoS (n % 100) := by rw [hT2]; rfl
  have hl : ([⟨#[]⟩, T].map (fun (b : ByteArray) => b.data.toList)).flatten.length ≤ 100000 := by
    have : T.data.toList.length = 4 := by rw [hT2]; rfl
    simp [this]
  have HT := hide hT
  have HF := hide hfin
  have HL := hide hl
  have HP := hide hP
  clear hT hT2 hfin hl hP
  go_enter Tryz.func49, Tryz.ntmps49
  go_wp2_with (first
    | (go_at_call 50
       refine (Any.strconv_Itoa Tryz.laysM171 (n : Int) (by omega) (by omega) _ (unhide HP)).mono ?_
       rintro e w1 ⟨rfl, k, os, hw1⟩
       rw [← unhide HT]
       have HO1 : Hid (Only [] w w1) := by rw [hw1]; exact Only.of_below [] (Lib.below_grow w.heap.size w (Nat.le_refl _) k os)
       have HC := hide (Blk.new w1 #[.string ⟨#[]⟩, .string T] 9)
       clear hw1)
    | (go_at_call 72; refine (Any.strings_Repeat_zero Tryz.lays105 ⟨#[48]⟩ _).mono ?_; rintro e w3 ⟨rfl, hw3⟩; rw [hw3])
    | (go_at_call 48
       refine (code_together _ 2 2 [⟨#[]⟩, T] rfl _ (cells_strs (unhide HC)) (unhide HC).lt (by simp) (by simp) (unhide HL)).mono ?_
       rintro e w2 ⟨rfl, ho⟩
       rw [unhide HF]
       have HO := hide (((unhide HO1).alloc _).trans ho)
       clear ho))
  go_ret
  exact ⟨rfl, unhide HO⟩
end Go.Proofs.YtlelhahklepdiaaGreatDoor
