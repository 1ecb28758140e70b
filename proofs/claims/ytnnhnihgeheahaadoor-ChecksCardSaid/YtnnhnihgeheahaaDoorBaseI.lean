/- Plain: all five fields. -/
import Derived.Test.YtnnhnihgeheahaaDoorBaseH
set_option linter.unusedSimpArgs false
set_option linter.unusedVariables false
namespace Go.Proofs.YtnnhnihgeheahaaDoor
open Go.RowKit

structure Fld where
  m : Bool × (Nat → Bool)
  h : Bool × (Nat → Bool)
  d : Bool × (Nat → Bool)
  n : Bool × (Nat → Bool)
  w : Bool × (Nat → Bool)
def fldV (F : Fld) : Array Value := fldA (setA F.m.2 F.m.1) (setA F.h.2 F.h.1) (setA F.d.2 F.d.1) (setA F.n.2 F.n.1) (setA F.w.2 F.w.1)
theorem fldV_size (F : Fld) : (fldV F).size = 305 := fldA_size (setA_size _ _) (setA_size _ _) (setA_size _ _) (setA_size _ _) (setA_size _ _)
theorem fldV_one (F : Fld) : (fldV F).all (·.oneCell') = true := by
  have h := fun a b => setA_one a b
  simp only [fldV, fldA, Array.all_append, h, Bool.and_self]
def pFields (s : ByteArray) : Except Nat Fld :=
  (pField s 0 59 0).bind fun a => (pEat s 32 a.1).bind fun i => (pField s 0 23 i).bind fun b => (pEat s 32 b.1).bind fun i => (pField s 1 31 i).bind fun c => (pEat s 32 c.1).bind fun i =>
    (pField s 1 12 i).bind fun d => (pEat s 32 d.1).bind fun i => (pField s 0 6 i).bind fun e => if e.1 < s.size then .error e.1 else .ok ⟨a.2, b.2, c.2, d.2, e.2⟩

theorem fields_cases (s : ByteArray) (σ1 σ2 σ3 σ4 σ5 σ6 σ7 σ8 : Except Nat Nat) (x1 x2 x3 x4 x5 : Bool × (Nat → Bool))
    (e1 : σ1 = posOf ((Except.ok 0 : Except Nat Nat).bind (pField s 0 59))) (v1 : ∀ x, (Except.ok 0 : Except Nat Nat).bind (pField s 0 59) = .ok x → x1 = x.2) (e2 : σ2 = σ1.bind (pEat s 32))
    (e3 : σ3 = posOf (σ2.bind (pField s 0 23))) (v2 : ∀ x, σ2.bind (pField s 0 23) = .ok x → x2 = x.2) (e4 : σ4 = σ3.bind (pEat s 32))
    (e5 : σ5 = posOf (σ4.bind (pField s 1 31))) (v3 : ∀ x, σ4.bind (pField s 1 31) = .ok x → x3 = x.2) (e6 : σ6 = σ5.bind (pEat s 32))
    (e7 : σ7 = posOf (σ6.bind (pField s 1 12))) (v4 : ∀ x, σ6.bind (pField s 1 12) = .ok x → x4 = x.2) (e8 : σ8 = σ7.bind (pEat s 32))
    (v5 : ∀ x, σ8.bind (pField s 0 6) = .ok x → x5 = x.2) :
    (∃ q, posOf (σ8.bind (pField s 0 6)) = .error q ∧ pFields s = .error q) ∨ (∃ k, posOf (σ8.bind (pField s 0 6)) = .ok k ∧ pFields s = if k < s.size then .error k else .ok ⟨x1, x2, x3, x4, x5⟩) := by
  subst e1 e2 e3 e4 e5 e6 e7 e8
  simp only [Except.bind, posOf, pFields] at *
  cases h1 : pField s 0 59 0 with
  | error q => exact .inl ⟨q, rfl, rfl⟩
  | ok y1 =>
    have q1 := v1 y1 h1
    simp only [h1] at *
    cases h2 : pEat s 32 y1.1 with
    | error q => exact .inl ⟨q, rfl, rfl⟩
    | ok j2 =>
      simp only [h2] at *
      cases h3 : pField s 0 23 j2 with
      | error q => exact .inl ⟨q, rfl, rfl⟩
      | ok y3 =>
        have q3 := v2 y3 h3
        simp only [h3] at *
        cases h4 : pEat s 32 y3.1 with
        | error q => exact .inl ⟨q, rfl, rfl⟩
        | ok j4 =>
          simp only [h4] at *
          cases h5 : pField s 1 31 j4 with
          | error q => exact .inl ⟨q, rfl, rfl⟩
          | ok y5 =>
            have q5 := v3 y5 h5
            simp only [h5] at *
            cases h6 : pEat s 32 y5.1 with
            | error q => exact .inl ⟨q, rfl, rfl⟩
            | ok j6 =>
              simp only [h6] at *
              cases h7 : pField s 1 12 j6 with
              | error q => exact .inl ⟨q, rfl, rfl⟩
              | ok y7 =>
                have q7 := v4 y7 h7
                simp only [h7] at *
                cases h8 : pEat s 32 y7.1 with
                | error q => exact .inl ⟨q, rfl, rfl⟩
                | ok j8 =>
                  simp only [h8] at *
                  cases h9 : pField s 0 6 j8 with
                  | error q => exact .inl ⟨q, rfl, rfl⟩
                  | ok y9 =>
                    have q9 := v5 y9 h9
                    subst q1 q3 q5 q7 q9
                    exact .inr ⟨y9.1, rfl, rfl⟩
end Go.Proofs.YtnnhnihgeheahaaDoor
