/- Plain: fields, their sets. -/
import Derived.Test.YtnnhnihgeheahaaDoorBase2
set_option linter.unusedSimpArgs false
set_option linter.unusedVariables false
namespace Go.Proofs.YtnnhnihgeheahaaDoor
open Go.RowKit

/-- a to b, each n-th one, besides what is there. -/
def fillB (h : Nat → Bool) (a b n : Nat) (k : Nat) : Bool := h k || (decide (a ≤ k) && decide (k ≤ b) && decide (k < 60) && decide (0 < n) && decide ((k - a) % n = 0))
/-- A set's cells. -/
def setA (h : Nat → Bool) (star : Bool) : Array Value := ((List.range 60).map (fun k => Value.bool (h k)) ++ [Value.bool star]).toArray
theorem setA_size (h : Nat → Bool) (star : Bool) : (setA h star).size = 61 := by simp [setA]
theorem setA_get (h : Nat → Bool) (star : Bool) (k : Nat) (hk : k < 60) : (setA h star)[k]? = some (.bool (h k)) := by
  simp [setA, List.getElem?_append, hk]
theorem setA_star (h : Nat → Bool) (star : Bool) : (setA h star)[60]? = some (.bool star) := by simp [setA]
theorem setA_set (h : Nat → Bool) (star : Bool) (k : Nat) (hk : k < 60) (u : Bool) : (setA h star).setIfInBounds k (.bool u) = setA (fun j => if j = k then u else h j) star := by
  apply Array.ext_getElem?
  intro j
  rw [Array.getElem?_setIfInBounds]
  by_cases hj : k = j
  · subst hj
    rw [if_pos rfl, if_pos (by rw [setA_size]; omega), setA_get _ _ _ hk]
    simp
  · rw [if_neg hj]
    by_cases h60 : j < 60
    · rw [setA_get _ _ _ h60, setA_get _ _ _ h60, if_neg (fun e => hj e.symm)]
    · by_cases h61 : j = 60
      · subst h61; rw [setA_star, setA_star]
      · rw [Array.getElem?_eq_none (by rw [setA_size]; omega), Array.getElem?_eq_none (by rw [setA_size]; omega)]
theorem setA_setStar (h : Nat → Bool) (star u : Bool) : (setA h star).setIfInBounds 60 (.bool u) = setA h u := by
  apply Array.ext_getElem?
  intro j
  rw [Array.getElem?_setIfInBounds]
  by_cases hj : 60 = j
  · subst hj
    rw [if_pos rfl, if_pos (by rw [setA_size]; omega), setA_star]
  · rw [if_neg hj]
    by_cases h60 : j < 60
    · rw [setA_get _ _ _ h60, setA_get _ _ _ h60]
    · rw [Array.getElem?_eq_none (by rw [setA_size]; omega), Array.getElem?_eq_none (by rw [setA_size]; omega)]
theorem setA_one (h : Nat → Bool) (star : Bool) : (setA h star).all (·.oneCell') = true := by
  rw [Array.all_eq_true_iff_forall_mem]
  intro v hv
  simp [setA] at hv
  rcases hv with ⟨k, _, rfl⟩ | rfl <;> rfl
theorem setA_congr {h g : Nat → Bool} (star : Bool) (e : ∀ k, k < 60 → h k = g k) : setA h star = setA g star := by
  apply Array.ext_getElem?
  intro j
  by_cases h60 : j < 60
  · rw [setA_get _ _ _ h60, setA_get _ _ _ h60, e j h60]
  · by_cases h61 : j = 60
    · subst h61; rw [setA_star, setA_star]
    · rw [Array.getElem?_eq_none (by rw [setA_size]; omega), Array.getElem?_eq_none (by rw [setA_size]; omega)]

def pStep (s : ByteArray) (i : Nat) : Except Nat (Nat × Nat) := if byteAt s i = 47 then pNum s 1 99 (i + 1) else .ok (i, 1)
def pItem (s : ByteArray) (lo hi i : Nat) : Except Nat (Nat × (Nat × Nat × Nat)) :=
  (pNum s lo hi i).bind fun x => if byteAt s x.1 = 45 then (pNum s x.2 hi (x.1 + 1)).bind fun y => (pStep s y.1).bind fun z => .ok (z.1, (x.2, y.2, z.2)) else .ok (x.1, (x.2, x.2, 1))
def pItems (s : ByteArray) (lo hi : Nat) : Nat → Nat → (Nat → Bool) → Except Nat (Nat × (Nat → Bool))
  | 0, i, _ => .error i
  | f + 1, i, h => (pItem s lo hi i).bind fun t => if byteAt s t.1 = 44 then pItems s lo hi f (t.1 + 1) (fillB h t.2.1 t.2.2.1 t.2.2.2) else .ok (t.1, fillB h t.2.1 t.2.2.1 t.2.2.2)
def pField (s : ByteArray) (lo hi i : Nat) : Except Nat (Nat × (Bool × (Nat → Bool))) :=
  if byteAt s i = 42 then (pStep s (i + 1)).bind fun z => .ok (z.1, (true, fillB (fun _ => false) lo hi z.2))
  else (pItems s lo hi (s.size + 2 - i) i (fun _ => false)).bind fun x => .ok (x.1, (false, x.2))

/-- The world's flag that the reader has failed (for a loop's measure). -/
def badIn (w : World) (b : Nat) : Bool := match w.cell? ⟨b, 2, none⟩ with
  | some (.bool q) => q
  | _ => true
theorem badIn_of {w : World} {b : Nat} {s : ByteArray} {i : Nat} {bad : Bool} {a : Nat} {T : TypeId} (h : Blk w b (rdr s i bad a) T) : badIn w b = bad := by
  have := h.cell 2
  simp [rdr] at this
  simp [badIn, this]
end Go.Proofs.YtnnhnihgeheahaaDoor
