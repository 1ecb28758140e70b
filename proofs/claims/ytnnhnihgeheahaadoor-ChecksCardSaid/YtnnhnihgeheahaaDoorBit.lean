/- Plain: sets as bits. -/
import Derived.Test.YtnnhnihgeheahaaDoorBaseG
import Derived.Lib.TrailingZeros
set_option linter.unusedSimpArgs false
set_option linter.unusedVariables false
namespace Go.Proofs.YtnnhnihgeheahaaDoor
namespace Cal
def nbUp (h : Nat → Bool) : Nat → Nat
  | 0 => 0
  | n + 1 => nbUp h n ||| (if h n then 2 ^ n else 0)
def nb (h : Nat → Bool) : Nat := nbUp h 64
theorem nbUp_bit (h : Nat → Bool) (n k : Nat) : (nbUp h n).testBit k = (decide (k < n) && h k) := by
  induction n with
  | zero => simp [nbUp]
  | succ n ih =>
    rw [nbUp, Nat.testBit_or, ih]
    by_cases hk : k = n
    · subst hk
      cases hh : h k <;> simp [hh]
    · have : (if h n then 2 ^ n else 0).testBit k = false := by
        split
        · rw [Nat.testBit_two_pow]; simp; omega
        · simp
      rw [this]
      by_cases h1 : k < n
      · simp [h1, show k < n + 1 by omega]
      · simp [h1, show ¬ k < n + 1 by omega]
theorem nb_bit (h : Nat → Bool) (k : Nat) : (nb h).testBit k = (decide (k < 64) && h k) := nbUp_bit h 64 k
theorem nb_lt (h : Nat → Bool) : nb h < 18446744073709551616 := by
  have : nb h < 2 ^ 64 := Nat.lt_pow_two_of_testBit _ fun k hk => by rw [nb_bit]; simp; omega
  simpa using this
theorem nb_unique {x : Nat} {h : Nat → Bool} (hx : ∀ k, x.testBit k = (decide (k < 64) && h k)) : x = nb h := Nat.eq_of_testBit_eq fun k => by rw [hx, nb_bit]
theorem nb_or (h g : Nat → Bool) : nb h ||| nb g = nb (fun k => h k || g k) := nb_unique fun k => by
  rw [Nat.testBit_or, nb_bit, nb_bit]
  cases decide (k < 64) <;> simp
theorem nb_congr {h g : Nat → Bool} (e : ∀ k, k < 64 → h k = g k) : nb h = nb g := nb_unique fun k => by
  rw [nb_bit]
  by_cases hk : k < 64
  · rw [e k hk]
  · simp [hk]
theorem nb_fill (h : Nat → Bool) (a b n : Nat) : nb (fillB h a b n) = nb h ||| nb (fillB (fun _ => false) a b n) := by
  rw [nb_or]
  exact nb_congr fun k _ => by simp [fillB]
/-- The steps from a on that lie ahead of a place. -/
def upto (a n i : Nat) (k : Nat) : Bool := decide (a ≤ k) && decide (k < a + i * n) && decide ((k - a) % n = 0)
theorem upto_zero (a n : Nat) : nb (upto a n 0) = 0 := by
  have : nb (upto a n 0) = nb (fun _ => false) := nb_congr fun k _ => by
    unfold upto
    by_cases h : a ≤ k <;> simp [h] <;> omega
  rw [this]
  exact (nb_unique fun k => by simp).symm
theorem upto_step (a n i : Nat) (hn : 0 < n) (hi : a + i * n < 64) : nb (upto a n i) ||| 2 ^ (a + i * n) = nb (upto a n (i + 1)) := nb_unique fun k => by
  rw [Nat.testBit_or, nb_bit, Nat.testBit_two_pow]
  have e : (i + 1) * n = i * n + n := Nat.succ_mul i n
  unfold upto
  rw [e]
  by_cases hk : a + i * n = k
  · have hm : (k - a) % n = 0 := by rw [show k - a = i * n by omega]; exact Nat.mul_mod_left _ _
    simp [hk, hm]
    omega
  · by_cases h64 : k < 64 <;> by_cases hak : a ≤ k <;> by_cases hmod : (k - a) % n = 0
    all_goals simp only [hk, h64, hak, hmod, decide_true, decide_false, Bool.true_and, Bool.and_true, Bool.or_false, Bool.false_and, Bool.and_false, decide_eq_decide]
    by_cases h1 : k < a + i * n
    · simp [h1]; omega
    · have h2 : ¬ k < a + (i * n + n) := by
        intro h2
        have h3 : (k - a) = n * ((k - a) / n) := by have := Nat.div_add_mod (k - a) n; omega
        have h4 : i < (k - a) / n := by
          rcases Nat.lt_or_ge i ((k - a) / n) with h | h
          · exact h
          · have : n * ((k - a) / n) ≤ n * i := Nat.mul_le_mul_left n h
            rw [Nat.mul_comm n i] at this
            omega
        have h5 : n * (i + 1) ≤ n * ((k - a) / n) := Nat.mul_le_mul_left n h4
        rw [Nat.mul_comm n (i + 1), e] at h5
        omega
      simp [h1, h2]
theorem upto_end (a b n i : Nat) (hb : b < 60) (h1 : b < a + i * n) (h2 : a + i * n ≤ b + n ∨ i = 0) : nb (upto a n i) = nb (fillB (fun _ => false) a b n) ∨ n = 0 := by
  rcases Nat.eq_zero_or_pos n with hn | hn
  · exact .inr hn
  · refine .inl (nb_congr fun k hk => ?_)
    unfold upto fillB
    by_cases hak : a ≤ k <;> by_cases hmod : (k - a) % n = 0
    all_goals simp only [hak, hmod, hn, decide_true, decide_false, Bool.true_and, Bool.and_true, Bool.or_false, Bool.false_or, Bool.false_and, Bool.and_false]
    rw [← Bool.decide_and, decide_eq_decide]
    constructor
    · intro h3
      refine ⟨?_, ?_⟩
      · rcases h2 with h2 | h2
        · rcases Nat.lt_or_ge b k with h | h
          · exfalso
            -- k and a + i n are both steps, b < k < a + i n ≤ b + n
            have h4 : (k - a) = n * ((k - a) / n) := by have := Nat.div_add_mod (k - a) n; omega
            have h5 : (k - a) / n < i := by
              rcases Nat.lt_or_ge ((k - a) / n) i with g | g
              · exact g
              · have : n * i ≤ n * ((k - a) / n) := Nat.mul_le_mul_left n g
                rw [Nat.mul_comm n i] at this
                omega
            have h6 : n * ((k - a) / n + 1) ≤ n * i := Nat.mul_le_mul_left n h5
            rw [Nat.mul_add, Nat.mul_one, Nat.mul_comm n i] at h6
            omega
          · exact h
        · subst h2; omega
      · rcases h2 with h2 | h2
        · rcases Nat.lt_or_ge b k with h | h
          · exfalso
            have h4 : (k - a) = n * ((k - a) / n) := by have := Nat.div_add_mod (k - a) n; omega
            have h5 : (k - a) / n < i := by
              rcases Nat.lt_or_ge ((k - a) / n) i with g | g
              · exact g
              · have : n * i ≤ n * ((k - a) / n) := Nat.mul_le_mul_left n g
                rw [Nat.mul_comm n i] at this
                omega
            have h6 : n * ((k - a) / n + 1) ≤ n * i := Nat.mul_le_mul_left n h5
            rw [Nat.mul_add, Nat.mul_one, Nat.mul_comm n i] at h6
            omega
          · omega
        · subst h2; omega
    · intro h3
      omega
/-- The least number of a set from n on. -/
def Least (h : Nat → Bool) (n x : Nat) (ok : Bool) : Prop := (ok = true → n ≤ x ∧ x < 64 ∧ h x = true ∧ ∀ u, n ≤ u → u < x → h u = false) ∧ (ok = false → ∀ u, n ≤ u → u < 64 → h u = false)
theorem least_bits (h : Nat → Bool) (n : Nat) : Least h n (n + Lib.ctz 64 (nb h / 2 ^ n)) (decide (nb h / 2 ^ n ≠ 0)) := by
  have hb : ∀ j, (nb h / 2 ^ n).testBit j = (decide (n + j < 64) && h (n + j)) := fun j => by
    rw [← Nat.shiftRight_eq_div_pow, Nat.testBit_shiftRight, nb_bit]
  have hlt : nb h / 2 ^ n < 2 ^ 64 := Nat.lt_of_le_of_lt (Nat.div_le_self _ _) (by simpa using nb_lt h)
  generalize nb h / 2 ^ n = r at hb hlt
  refine ⟨fun e => ?_, fun e u h1 h2 => ?_⟩
  · have hr : r ≠ 0 := by simpa using e
    obtain ⟨m, hm, hc⟩ := Lib.ctzFrom_spec 64 r (by omega) hlt
    have hctz : Lib.ctz 64 r = Lib.ctzFrom 64 r := by unfold Lib.ctz; rw [if_neg hr]
    rw [hctz]
    generalize Lib.ctzFrom 64 r = c at hm hc
    have hbit : ∀ j, r.testBit j = (decide (c ≤ j) && (2 * m + 1).testBit (j - c)) := fun j => by
      rw [hm, Nat.mul_comm, ← Nat.shiftLeft_eq, Nat.testBit_shiftLeft]
    have h1 := hbit c
    rw [hb] at h1
    simp at h1
    refine ⟨by omega, h1.1, h1.2, fun u g1 g2 => ?_⟩
    have h2 := hbit (u - n)
    rw [hb, show n + (u - n) = u by omega, decide_eq_true (show u < 64 by omega), decide_eq_false (show ¬ c ≤ u - n by omega)] at h2
    simpa using h2
  · have hr : r = 0 := by simpa using e
    have h3 := hb (u - n)
    rw [hr, show n + (u - n) = u by omega, decide_eq_true h2] at h3
    simpa using h3.symm
theorem has_bits (h : Nat → Bool) (n : Nat) (hn : n < 64) : nb h / 2 ^ n % 2 = if h n then 1 else 0 := by
  have h1 := nb_bit h n
  rw [Nat.testBit_eq_decide_div_mod_eq, decide_eq_true hn, Bool.true_and] at h1
  cases hh : h n
  · rw [hh] at h1; simp at h1; simp; omega
  · rw [hh] at h1; simpa using h1
end Cal
end Go.Proofs.YtnnhnihgeheahaaDoor
