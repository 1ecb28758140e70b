/- Plain facts on the parser: what a row of calls comes to. -/
import Derived.Test.YtnnhnihgeheahaaDoorBase
set_option linter.unusedSimpArgs false
set_option linter.unusedVariables false
namespace Go.Proofs.YtnnhnihgeheahaaDoor
open Go.RowKit

theorem Holds.place {w : World} {b : Nat} {T : TypeId} {s : ByteArray} {σ : Except Nat Nat} (h : Holds w b T s σ) : ∃ i bad a, i ≤ s.size + 1 ∧ Blk w b (rdr s i bad a) T ∧ (∀ j, σ = .ok j → i = j ∧ bad = false) ∧ (∀ p, σ = .error p → bad = true ∧ a = p) := by
  cases σ with
  | ok j => obtain ⟨hj, a, h⟩ := h; exact ⟨_, _, _, hj, h, fun k hk => ⟨Except.ok.inj hk, rfl⟩, fun p hp => by cases hp⟩
  | error p => obtain ⟨i, hi, h⟩ := h; exact ⟨_, _, _, hi, h, fun k hk => (by cases hk), fun q hq => ⟨rfl, Except.error.inj hq⟩⟩

theorem Holds.setOther {w : World} {b : Nat} {T : TypeId} {s : ByteArray} {σ : Except Nat Nat} (h : Holds w b T s σ) {p : Addr} (hp : p.block ≠ b) (u : Value) : Holds (w.setCell p u) b T s σ := by
  cases σ with
  | ok j => obtain ⟨hj, a, h⟩ := h; exact ⟨hj, a, h.setOther hp u⟩
  | error p => obtain ⟨i, hi, h⟩ := h; exact ⟨i, hi, h.setOther hp u⟩
theorem Holds.alloc {w : World} {b : Nat} {T : TypeId} {s : ByteArray} {σ : Except Nat Nat} (h : Holds w b T s σ) (o : Obj) : Holds (w.alloc o) b T s σ := by
  cases σ with
  | ok j => obtain ⟨hj, a, h⟩ := h; exact ⟨hj, a, h.alloc o⟩
  | error p => obtain ⟨i, hi, h⟩ := h; exact ⟨i, hi, h.alloc o⟩

theorem rule_cases (s : ByteArray) (σ σ1 σ2 σ3 σ4 σ5 σ6 : Except Nat Nat) (m k d t i : Nat)
    (e1 : σ1 = posOf (σ.bind (pNum s 1 12))) (v1 : ∀ x, σ.bind (pNum s 1 12) = .ok x → m = x.2) (e2 : σ2 = σ1.bind (pEat s 46))
    (e3 : σ3 = posOf (σ2.bind (pNum s 1 5))) (v3 : ∀ x, σ2.bind (pNum s 1 5) = .ok x → k = x.2) (e4 : σ4 = σ3.bind (pEat s 46))
    (e5 : σ5 = posOf (σ4.bind (pNum s 0 6))) (v5 : ∀ x, σ4.bind (pNum s 0 6) = .ok x → d = x.2) (e6 : σ6 = σ5.bind (pEat s 64)) (hi : ∀ j, σ6 = .ok j → i = j)
    (v7 : ∀ x, σ6.bind (pClock s 120 1319 i) = .ok x → t = x.2) :
    posOf (σ6.bind (pClock s 120 1319 i)) = posOf (σ.bind (pRule s)) ∧ ∀ x, σ.bind (pRule s) = .ok x → (⟨m, k, d, t⟩ : Rul) = x.2 := by
  subst e1 e2 e3 e4 e5 e6
  cases σ with
  | error q => exact ⟨rfl, fun x hx => by cases hx⟩
  | ok i0 =>
    simp only [Except.bind, posOf, pRule] at *
    cases h1 : pNum s 1 12 i0 with
    | error q => exact ⟨rfl, fun x hx => by cases hx⟩
    | ok x1 =>
      have q1 := v1 x1 h1
      simp only [h1] at *
      cases h2 : pEat s 46 x1.1 with
      | error q => exact ⟨rfl, fun x hx => by cases hx⟩
      | ok j2 =>
        simp only [h2] at *
        cases h3 : pNum s 1 5 j2 with
        | error q => exact ⟨rfl, fun x hx => by cases hx⟩
        | ok x3 =>
          have q3 := v3 x3 h3
          simp only [h3] at *
          cases h4 : pEat s 46 x3.1 with
          | error q => exact ⟨rfl, fun x hx => by cases hx⟩
          | ok j4 =>
            simp only [h4] at *
            cases h5 : pNum s 0 6 j4 with
            | error q => exact ⟨rfl, fun x hx => by cases hx⟩
            | ok x5 =>
              have q5 := v5 x5 h5
              simp only [h5] at *
              cases h6 : pEat s 64 x5.1 with
              | error q => exact ⟨rfl, fun x hx => by cases hx⟩
              | ok j6 =>
                simp only [h6] at *
                have q6 := hi j6 rfl
                subst q6
                cases h7 : pClock s 120 1319 i i with
                | error q => exact ⟨rfl, fun x hx => by cases hx⟩
                | ok x7 =>
                  have q7 := v7 x7 h7
                  exact ⟨rfl, fun x hx => by cases hx; subst q1 q3 q5 q7; rfl⟩
theorem rules_cases (s : ByteArray) (off : Int) (x i sh : Nat) (r1 r2 : Rul) (σ3 σ4 σ5 σ6 σ7 : Except Nat Nat)
    (e3 : σ3 = (Except.ok x : Except Nat Nat).bind (pEat s 32)) (e4 : σ4 = posOf (σ3.bind (pNum s 1 120))) (v4 : ∀ x, σ3.bind (pNum s 1 120) = .ok x → sh = x.2) (e5 : σ5 = σ4.bind (pEat s 32))
    (e6 : σ6 = posOf (σ5.bind (pRule s))) (v6 : ∀ x, σ5.bind (pRule s) = .ok x → r1 = x.2) (e7 : σ7 = σ6.bind (pEat s 32)) (hi : ∀ j, σ7 = .ok j → i = j) (v8 : ∀ x, σ7.bind (pRule s) = .ok x → r2 = x.2) :
    (∃ q, posOf (σ7.bind (pRule s)) = .error q ∧ pRules s off x = .error q) ∨
    (∃ k, posOf (σ7.bind (pRule s)) = .ok k ∧ pRules s off x = if k < s.size then .error k else if r1.month = r2.month then .error i else .ok (k, ⟨off, sh, r1, r2⟩)) := by
  subst e3 e4 e5 e6 e7
  simp only [Except.bind, posOf, pRules] at *
  cases h3 : pEat s 32 x with
  | error q => exact .inl ⟨q, rfl, rfl⟩
  | ok j3 =>
    simp only [h3] at *
    cases h4 : pNum s 1 120 j3 with
    | error q => exact .inl ⟨q, rfl, rfl⟩
    | ok x4 =>
      have q4 := v4 x4 h4
      simp only [h4] at *
      cases h5 : pEat s 32 x4.1 with
      | error q => exact .inl ⟨q, rfl, rfl⟩
      | ok j5 =>
        simp only [h5] at *
        cases h6 : pRule s j5 with
        | error q => exact .inl ⟨q, rfl, rfl⟩
        | ok x6 =>
          have q6 := v6 x6 h6
          simp only [h6] at *
          cases h7 : pEat s 32 x6.1 with
          | error q => exact .inl ⟨q, rfl, rfl⟩
          | ok j7 =>
            simp only [h7] at *
            have q7 := hi j7 rfl
            subst q7
            cases h8 : pRule s i with
            | error q => exact .inl ⟨q, rfl, rfl⟩
            | ok x8 =>
              have q8 := v8 x8 h8
              subst q4 q6 q8
              exact .inr ⟨x8.1, rfl, rfl⟩
end Go.Proofs.YtnnhnihgeheahaaDoor
