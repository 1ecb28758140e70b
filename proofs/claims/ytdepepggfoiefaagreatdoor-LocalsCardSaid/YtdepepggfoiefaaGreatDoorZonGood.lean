/- What a zone that is read keeps to. -/
import Derived.Test.YtdepepggfoiefaaGreatDoorRefT
import Derived.Test.YtdepepggfoiefaaGreatDoorBaseJ
set_option linter.unusedSimpArgs false
set_option linter.unusedVariables false
namespace Go.Proofs.YtdepepggfoiefaaGreatDoor

theorem bind_ok {α β : Type} {x : Except Nat α} {f : α → Except Nat β} {b : β} (h : x.bind f = .ok b) : ∃ a, x = .ok a ∧ f a = .ok b := by
  cases x with
  | error q => cases h
  | ok a => exact ⟨a, rfl, h⟩
theorem pClock_ok {s : ByteArray} {lo hi p i : Nat} {x : Nat × Nat} (h : pClock s lo hi p i = .ok x) : lo ≤ x.2 ∧ x.2 ≤ hi := by
  unfold pClock at h
  obtain ⟨a, _, h⟩ := bind_ok h
  obtain ⟨j, _, h⟩ := bind_ok h
  obtain ⟨b, _, h⟩ := bind_ok h
  split at h
  · cases h
  · cases h
    simp only
    omega
theorem pRule_ok {s : ByteArray} {i : Nat} {x : Nat × Rul} (h : pRule s i = .ok x) : x.2.Good := by
  unfold pRule at h
  obtain ⟨m, hm, h⟩ := bind_ok h
  obtain ⟨_, _, h⟩ := bind_ok h
  obtain ⟨k, hk, h⟩ := bind_ok h
  obtain ⟨_, _, h⟩ := bind_ok h
  obtain ⟨d, hd, h⟩ := bind_ok h
  obtain ⟨_, _, h⟩ := bind_ok h
  obtain ⟨t, ht, h⟩ := bind_ok h
  cases h
  have h1 := pNum_ok hm
  have h2 := pNum_ok hk
  have h3 := pNum_ok hd
  have h4 := pClock_ok ht
  exact ⟨⟨h1.2.1, h1.2.2.1⟩, ⟨h2.2.1, h2.2.2.1⟩, h3.2.2.1, h4⟩
theorem pZone_good {s : ByteArray} {z : Zon} (h : pZone s = .ok z) : z.Good := by
  unfold pZone at h
  obtain ⟨o, ho, h⟩ := bind_ok h
  have hoff : -840 ≤ o.2 ∧ o.2 ≤ 840 := by
    unfold pOffset at ho
    split at ho
    · obtain ⟨x, hx, ho⟩ := bind_ok ho
      cases ho
      have := pClock_ok hx
      simp only
      omega
    · obtain ⟨_, _, ho⟩ := bind_ok ho
      obtain ⟨x, hx, ho⟩ := bind_ok ho
      cases ho
      have := pClock_ok hx
      simp only
      omega
  split at h
  · obtain ⟨y, hy, h⟩ := bind_ok h
    cases h
    unfold pRules at hy
    obtain ⟨_, _, hy⟩ := bind_ok hy
    obtain ⟨sh, hsh, hy⟩ := bind_ok hy
    obtain ⟨_, _, hy⟩ := bind_ok hy
    obtain ⟨a, ha, hy⟩ := bind_ok hy
    obtain ⟨_, _, hy⟩ := bind_ok hy
    obtain ⟨b, hb, hy⟩ := bind_ok hy
    split at hy
    · cases hy
    · split at hy
      · cases hy
      · cases hy
        exact ⟨hoff, (pNum_ok hsh).2.2.1, fun _ => ⟨pRule_ok ha, pRule_ok hb⟩⟩
  · cases h
    exact ⟨hoff, Nat.zero_le _, fun h => absurd rfl h⟩

/-- The fields that Locals hands to Check. -/
def stars : ByteArray := ⟨#[42, 32, 42, 32, 42, 32, 42, 32, 42]⟩
theorem stars_ok : ∃ F, pFields stars = .ok F := ⟨_, rfl⟩
theorem check_stars (z : ByteArray) : checkN z stars = if 100 < z.size then (1, 0) else match pZone z with
    | .error q => (2, q)
    | .ok _ => (0, 0) := by
  obtain ⟨F, hF⟩ := stars_ok
  unfold checkN
  have hs : ¬ 100 < stars.size := by decide
  by_cases h : 100 < z.size
  · rw [if_pos (.inl h), if_pos h]
  · rw [if_neg (by omega), if_neg h]
    cases pZone z with
    | error q => rfl
    | ok a => rw [hF]
end Go.Proofs.YtdepepggfoiefaaGreatDoor
