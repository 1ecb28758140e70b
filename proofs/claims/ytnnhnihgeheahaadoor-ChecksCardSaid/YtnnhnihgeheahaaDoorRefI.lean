/- The reference's fill. -/
import Derived.Test.YtnnhnihgeheahaaDoorRefC
import Derived.Test.YtnnhnihgeheahaaDoorBaseF
set_option linter.unusedSimpArgs false
set_option linter.unusedVariables false
namespace Go.Proofs.YtnnhnihgeheahaaDoor
open Go.RowKit

/-- What stands in the set when the loop has come to k. -/
def fillTo (h : Nat → Bool) (a b n K : Nat) (k : Nat) : Bool := h k || (decide (a ≤ k) && decide (k ≤ b) && decide (k < K) && decide ((k - a) % n = 0))

theorem fill_step (h : Nat → Bool) (a b n k j : Nat) (hn : 0 < n) (hk : (k - a) % n = 0) (hak : a ≤ k) (hkb : k ≤ b) : fillTo h a b n (k + n) j = if j = k then true else fillTo h a b n k j := by
  by_cases e : j = k
  · subst e
    simp [fillTo, hak, hkb, hk, hn]
  · rw [if_neg e]
    unfold fillTo
    congr 1
    rw [Bool.eq_iff_iff]
    simp only [Bool.and_eq_true, decide_eq_true_eq]
    constructor
    · rintro ⟨⟨⟨h1, h2⟩, h3⟩, h4⟩
      refine ⟨⟨⟨h1, h2⟩, ?_⟩, h4⟩
      rcases Nat.lt_or_ge j k with h5 | h5
      · exact h5
      · exfalso
        have e1 : j - a = (j - k) + (k - a) := by omega
        rw [e1, Nat.add_mod, hk, Nat.add_zero, Nat.mod_mod, Nat.mod_eq_of_lt (by omega)] at h4
        omega
    · rintro ⟨⟨⟨h1, h2⟩, h3⟩, h4⟩
      exact ⟨⟨⟨h1, h2⟩, by omega⟩, h4⟩
theorem fill_end (h : Nat → Bool) (a b n k j : Nat) (hj : j < 60) (hnk : 0 < n ∨ k = a) (hc : ¬ (k ≤ b ∧ k < 60 ∧ 0 < n)) : fillTo h a b n k j = fillB h a b n j := by
  unfold fillTo fillB
  congr 1
  rw [Bool.eq_iff_iff]
  simp only [Bool.and_eq_true, decide_eq_true_eq]
  constructor
  · rintro ⟨⟨⟨h1, h2⟩, h3⟩, h4⟩
    exact ⟨⟨⟨⟨h1, h2⟩, hj⟩, by omega⟩, h4⟩
  · rintro ⟨⟨⟨⟨h1, h2⟩, h3⟩, h4⟩, h5⟩
    exact ⟨⟨⟨h1, h2⟩, by omega⟩, h5⟩

set_option maxHeartbeats 1000000 in
theorem ref_fill (bf : Nat) (h : Nat → Bool) (star : Bool) (a b n : Nat) (a' b' n' : Int) (e1 : a' = a) (e2 : b' = b) (e3 : n' = n) (w : World) (hb : Blk w bf (setA h star) 49) (ha : a ≤ 1000000) (hbb : b ≤ 1000000) (hn : n ≤ 1000000) :
    Calls Tryd.prog 26 #[.pointer (some ⟨bf, 0, none⟩), .int .i64 a', .int .i64 b', .int .i64 n'] w fun e w' =>
      e = .returned (.tuple #[]) ∧ Blk w' bf (setA (fillB h a b n) star) 49 ∧ Only [bf] w w' := by
  subst e1 e2 e3
  have HB := hide hb
  clear hb
  go_enter Tryd.func26, Tryd.ntmps26
  go_wp2
  go_loopw [8] (fun v wr => ∃ k : Nat, v = .int .i64 k ∧ Hid (a ≤ k ∧ (k - a) % n = 0 ∧ k ≤ 2000000 ∧ (0 < n ∨ k = a) ∧ Blk wr bf (setA (fillTo h a b n k) star) 49 ∧ Only [bf] w wr)) (fun v wr => 60 - (intOf v).toNat)
  case atStart =>
    refine ⟨a, rfl, Nat.le_refl _, by simp, by omega, .inr rfl, ?_, Only.refl _ _⟩
    rw [setA_congr (g := h)]
    · exact unhide HB
    · intro k hk
      simp only [fillTo, Bool.or_eq_left_iff_imp, Bool.and_eq_true, decide_eq_true_eq]
      intro hh
      omega
  case round =>
    obtain ⟨k, rfl, HR⟩ := hrel
    obtain ⟨hak, hmod, hk2, hnk, hB, hO⟩ := unhide HR
    by_cases hc : k ≤ b ∧ k < 60 ∧ 0 < n
    · obtain ⟨h1, h2, h3⟩ := hc
      have hck := hB.cell k
      rw [setA_get _ _ _ h2] at hck
      have hf := hB.frozen
      have HB' := hide hB
      have HO := hide hO
      have HM := hide hmod
      clear hB hO hmod hnk
      go_wp2
      go_roundw
      case rel =>
        refine ⟨k + n, by go_num, ?_⟩
        refine ⟨by omega, ?_, by omega, .inl h3, ?_, (unhide HO).setCell (by simp) _⟩
        · have := unhide HM
          rw [show k + n - a = (k - a) + n by omega, Nat.add_mod_right]
          exact this
        · have := (unhide HB').set k (.bool true)
          rw [setA_set _ _ _ h2] at this
          rw [setA_congr (g := fun j => if j = k then true else fillTo h a b n k j)]
          · exact this
          · intro j hj
            exact fill_step h a b n k j h3 (unhide HM) hak h1
      case measure =>
        simp [intOf]; omega
    · have hfin : Blk wr bf (setA (fillB h a b n) star) 49 := by
        rw [← setA_congr (g := fillB h a b n) star (fun j hj => fill_end h a b n k j hj hnk hc)]
        exact hB
      have HF := hide hfin
      have HO := hide hO
      clear hB hO hfin hmod
      by_cases h1 : k ≤ b
      · have d1 : decide ((k : Int) ≤ b) = true := by simp; omega
        by_cases h2 : k < 60
        · have d2 : decide ((k : Int) < 60) = true := by simp; omega
          have d3 : decide ((0 : Int) < n) = false := by simp; omega
          go_wp2
          go_end0
          exact ⟨rfl, unhide HF, unhide HO⟩
        · have d2 : decide ((k : Int) < 60) = false := by simp; omega
          go_wp2
          go_end0
          exact ⟨rfl, unhide HF, unhide HO⟩
      · have d1 : decide ((k : Int) ≤ b) = false := by simp; omega
        go_wp2
        go_end0
        exact ⟨rfl, unhide HF, unhide HO⟩
end Go.Proofs.YtnnhnihgeheahaaDoor
