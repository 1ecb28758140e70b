/- Plain facts on Atoi at a run of digits. -/
import Derived.Test.YtnnhnihgeheahaaDoorBase2
import Derived.Lib.AtoiAll
import Derived.Lib.Strings
set_option linter.unusedSimpArgs false
set_option linter.unusedVariables false
namespace Go.Proofs.YtnnhnihgeheahaaDoor
open Go.RowKit

/-- The value of digits that go on from a number. -/
def valFrom (n : Nat) (l : List Nat) : Nat := l.foldl (fun n d => 10 * n + (d - 48)) n
theorem valFrom_ge (l : List Nat) : ∀ n, n ≤ valFrom n l := by
  induction l with
  | nil => intro n; exact Nat.le_refl _
  | cons d l ih => intro n; have := ih (10 * n + (d - 48)); show n ≤ valFrom (10 * n + (d - 48)) l; omega

theorem parse_digits (l : List UInt8) (hl : ∀ c, c ∈ l → 48 ≤ c.toNat ∧ c.toNat ≤ 57) : ∀ acc,
    (valFrom acc (l.map (·.toNat)) < 18446744073709551616 → acc < 18446744073709551616 → Lib.parseUint10 acc l = .ok (valFrom acc (l.map (·.toNat)))) ∧
    (18446744073709551616 ≤ valFrom acc (l.map (·.toNat)) → acc < 18446744073709551616 → Lib.parseUint10 acc l = .range) := by
  induction l with
  | nil =>
    intro acc
    refine ⟨fun _ _ => rfl, fun h1 h2 => ?_⟩
    simp [valFrom] at h1
    omega
  | cons c r ih =>
    intro acc
    have hc := hl c List.mem_cons_self
    have ih := ih (fun c hc => hl c (List.mem_cons_of_mem _ hc))
    have e : valFrom acc ((c :: r).map (·.toNat)) = valFrom (10 * acc + (c.toNat - 48)) (r.map (·.toNat)) := rfl
    rw [e]
    have hge := valFrom_ge (r.map (·.toNat)) (10 * acc + (c.toNat - 48))
    have ec : acc * 10 + (c.toNat - 48) = 10 * acc + (c.toNat - 48) := by omega
    refine ⟨fun h1 h2 => ?_, fun h1 h2 => ?_⟩
    · unfold Lib.parseUint10
      rw [if_pos hc, if_neg (by omega), if_neg (by omega), ec]
      exact (ih _).1 h1 (by omega)
    · unfold Lib.parseUint10
      rw [if_pos hc]
      by_cases h3 : 1844674407370955162 ≤ acc
      · rw [if_pos h3]
      · rw [if_neg h3]
        by_cases h4 : 18446744073709551616 ≤ acc * 10 + (c.toNat - 48)
        · rw [if_pos h4]
        · rw [if_neg h4, ec]
          exact (ih _).2 h1 (by omega)

/-- Atoi at digits: their value, if an int holds it; else an error. -/
theorem atoi_digits (l : List UInt8) (hl : ∀ c, c ∈ l → 48 ≤ c.toNat ∧ c.toNat ≤ 57) :
    (l ≠ [] → val (l.map (·.toNat)) < 9223372036854775808 → Lib.atoiAll l = .ok (val (l.map (·.toNat)) : Nat)) ∧
    (∀ v, Lib.atoiAll l = .ok v → l ≠ [] ∧ v = (val (l.map (·.toNat)) : Nat)) := by
  have hp := parse_digits l hl 0
  have hv : valFrom 0 (l.map (·.toNat)) = val (l.map (·.toNat)) := rfl
  rw [hv] at hp
  cases l with
  | nil => exact ⟨fun h => absurd rfl h, fun v h => by simp [Lib.atoiAll] at h⟩
  | cons c r =>
    have hc := hl c List.mem_cons_self
    have e0 : ¬ (c.toNat = 43) := by omega
    have e2 : ¬ (c.toNat = 45) := by omega
    have ea : Lib.atoiAll (c :: r) = match Lib.parseUint10 0 (c :: r) with
        | .ok u => if 9223372036854775808 ≤ u then .range else .ok (u : Int)
        | x => x.rec (fun _ => .range) (Lib.atoiAll []) .range := by
      simp only [Lib.atoiAll, Lib.parseMag, e0, e2, or_self, if_false, not_false_eq_true, true_and, false_and, reduceCtorEq]
      cases Lib.parseUint10 0 (c :: r) <;> rfl
    refine ⟨fun _ h => ?_, fun v h => ⟨by simp, ?_⟩⟩
    · rw [ea, hp.1 (by omega) (by omega)]
      simp only []
      rw [if_neg (by omega)]
    · rw [ea] at h
      rcases Nat.lt_or_ge (val ((c :: r).map (·.toNat))) 18446744073709551616 with h3 | h3
      · rw [hp.1 h3 (by omega)] at h
        simp only [] at h
        split at h
        · cases h
        · exact (Lib.NumEnd.ok.inj h).symm
      · rw [hp.2 h3 (by omega)] at h
        cases h

/-- The run of digits that the scanner cuts out. -/
theorem run_data (s : ByteArray) (i : Nat) (k : Nat) (hk : k = (digs s i).length) : ((s.extract i (i + k)).data.toList).map (·.toNat) = digs s i := by
  rw [Lib.extract_data, show i + k - i = k by omega, List.map_take, hk]
  unfold digs
  exact (List.prefix_iff_eq_take.1 (List.takeWhile_prefix _)).symm

theorem run_dig (s : ByteArray) (i : Nat) (k : Nat) (hk : k = (digs s i).length) : ∀ c, c ∈ (s.extract i (i + k)).data.toList → 48 ≤ c.toNat ∧ c.toNat ≤ 57 := by
  intro c hc
  have : c.toNat ∈ digs s i := by rw [← run_data s i k hk]; exact List.mem_map_of_mem hc
  exact digs_dig this
theorem run_facts (s : ByteArray) (i j k : Nat) (bad : Bool) (hj : j = i + k) (hjs : j ≤ s.size) (hk : k = if bad then 0 else (digs s i).length) :
    (s.extract i j).size = k ∧ (∀ c, c ∈ (s.extract i j).data.toList → 48 ≤ c.toNat ∧ c.toNat ≤ 57) ∧ (bad = false → val ((s.extract i j).data.toList.map (·.toNat)) = val (digs s i)) ∧
      (0 < k → bad = false ∧ k = (digs s i).length ∧ byteAt (s.extract i j) 0 = byteAt s i) ∧ (k = 0 → bad = true ∨ digs s i = []) := by
  have hsz : (s.extract i j).size = k := by
    have : (s.extract i j).size = min j s.size - i := by simp [ByteArray.size_extract]
    omega
  cases bad
  · have hk' : k = (digs s i).length := by simpa using hk
    refine ⟨hsz, ?_, fun _ => ?_, fun h0 => ⟨rfl, hk', ?_⟩, fun h0 => .inr (List.eq_nil_of_length_eq_zero (by omega))⟩
    · rw [hj]; exact run_dig s i k hk'
    · rw [hj, run_data s i k hk']
    · have hlt0 : 0 < (s.extract i j).size := by omega
      rw [byteAt_in hlt0, byteAt_in (show i < s.size by omega)]
      simp [ByteArray.getElem_extract]
  · have hk' : k = 0 := by simpa using hk
    have hlen : ∀ r : ByteArray, r.data.toList.length = r.size := fun r => by simp
    have hlen := hlen (s.extract i j)
    have hnil : (s.extract i j).data.toList = [] := List.eq_nil_of_length_eq_zero (by omega)
    refine ⟨hsz, ?_, fun h => (by cases h), fun h => (by omega), fun _ => .inl rfl⟩
    rw [hnil]
    intro c hc
    cases hc
end Go.Proofs.YtnnhnihgeheahaaDoor
