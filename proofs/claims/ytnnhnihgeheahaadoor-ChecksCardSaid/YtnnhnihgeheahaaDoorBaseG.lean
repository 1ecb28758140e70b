/- Plain: rounds of a field's items. -/
import Derived.Test.YtnnhnihgeheahaaDoorBaseF
set_option linter.unusedSimpArgs false
set_option linter.unusedVariables false
namespace Go.Proofs.YtnnhnihgeheahaaDoor
open Go.RowKit

theorem pNum_ok {s : ByteArray} {lo hi i : Nat} {x : Nat × Nat} (h : pNum s lo hi i = .ok x) : i < x.1 ∧ lo ≤ x.2 ∧ x.2 ≤ hi ∧ x.1 ≤ s.size := by
  unfold pNum at h
  split at h
  · cases h
  · rename_i hc
    cases h
    have hne : digs s i ≠ [] := fun e => hc (.inl e)
    have hp : 0 < (digs s i).length := List.length_pos_iff.2 hne
    have hin : i < s.size := by
      rcases Nat.lt_or_ge i s.size with h | h
      · exact h
      · exact absurd (digs_end h) hne
    have := digs_len (Nat.le_of_lt hin)
    refine ⟨by simp only []; omega, ?_, ?_, by simp only []; omega⟩ <;> (simp only []; omega)
theorem pStep_ok {s : ByteArray} {i : Nat} {x : Nat × Nat} (h : pStep s i = .ok x) : i ≤ x.1 := by
  unfold pStep at h
  split at h
  · have := (pNum_ok h).1; omega
  · cases h; exact Nat.le_refl _
theorem pItem_ok {s : ByteArray} {lo hi i : Nat} {x : Nat × (Nat × Nat × Nat)} (h : pItem s lo hi i = .ok x) : i < x.1 := by
  unfold pItem at h
  cases h1 : pNum s lo hi i with
  | error q => rw [h1] at h; cases h
  | ok y =>
    have g1 := (pNum_ok h1).1
    rw [h1] at h
    simp only [Except.bind] at h
    split at h
    · cases h2 : pNum s y.2 hi (y.1 + 1) with
      | error q => rw [h2] at h; cases h
      | ok z =>
        have g2 := (pNum_ok h2).1
        rw [h2] at h
        simp only [] at h
        cases h3 : pStep s z.1 with
        | error q => rw [h3] at h; cases h
        | ok u =>
          have g3 := pStep_ok h3
          rw [h3] at h
          cases h
          simp only []; omega
    · cases h
      exact g1

theorem items_round {s : ByteArray} {lo hi f j va vb vn : Nat} {h : Nat → Bool} {R : Except Nat (Nat × (Nat → Bool))} {τ : Except Nat Nat} (hR : pItems s lo hi (f + 1) j h = R) (h3 : τ = posOf (pItem s lo hi j))
    (hval : ∀ x, pItem s lo hi j = .ok x → (va, vb, vn) = x.2) :
    (∀ p, τ = .error p → R = .error p) ∧ (∀ k, τ = .ok k → j < k ∧ (byteAt s k = 44 → pItems s lo hi f (k + 1) (fillB h va vb vn) = R) ∧ (byteAt s k ≠ 44 → R = .ok (k, fillB h va vb vn))) := by
  subst h3
  unfold pItems at hR
  cases hc : pItem s lo hi j with
  | error q =>
    rw [hc] at hR
    refine ⟨fun p hp => ?_, fun k hk => (by cases hk)⟩
    cases hp
    exact hR.symm
  | ok x =>
    have hv := hval x hc
    have hg := pItem_ok hc
    rw [hc] at hR
    obtain ⟨x1, x2⟩ := x
    simp only [] at hv
    subst hv
    simp only [Except.bind] at hR
    refine ⟨fun p hp => (by cases hp), fun k hk => ?_⟩
    cases hk
    refine ⟨hg, fun e => ?_, fun e => ?_⟩
    · rw [if_pos e] at hR; exact hR
    · rw [if_neg e] at hR; exact hR.symm

/-- The loop's invariant. -/
def FInv (s : ByteArray) (lo hi : Nat) (R : Except Nat (Nat × (Nat → Bool))) (mb : Bool) (τ : Except Nat Nat) (h : Nat → Bool) : Prop :=
  (∀ p, τ = .error p → R = .error p) ∧ (∀ j, τ = .ok j → mb = true → ∃ f, s.size + 2 - j ≤ f ∧ pItems s lo hi f j h = R) ∧ (∀ j, τ = .ok j → mb = false → R = .ok (j, h))
/-- The loop's measure. -/
def boolOf : Value → Bool
  | .bool q => q
  | _ => false
def fmeas (s : ByteArray) (b : Nat) (m : Value) (w : World) : Nat := if boolOf m = true then (if badIn w b = true then 0 else s.size + 3 - posIn w b) else 0
end Go.Proofs.YtnnhnihgeheahaaDoor
