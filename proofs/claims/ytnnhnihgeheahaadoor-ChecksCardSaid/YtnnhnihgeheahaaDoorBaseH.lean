/- Plain: five sets in one block. -/
import Derived.Test.YtnnhnihgeheahaaDoorBaseG
import Derived.Deep.MidRow
set_option linter.unusedSimpArgs false
set_option linter.unusedVariables false
namespace Go.Proofs.YtnnhnihgeheahaaDoor
open Go.RowKit

/-- A list of values put into an array from a place on. -/
def putAll (c : Array Value) (o : Nat) : List Value → Array Value
  | [] => c
  | v :: r => putAll (c.setIfInBounds o v) (o + 1) r
theorem putAll_size (l : List Value) : ∀ (c : Array Value) (o : Nat), (putAll c o l).size = c.size := by
  induction l with
  | nil => intro c o; rfl
  | cons v r ih => intro c o; rw [putAll, ih]; simp
theorem putAll_get (l : List Value) : ∀ (c : Array Value) (o j : Nat), o + l.length ≤ c.size → (putAll c o l)[j]? = if o ≤ j ∧ j < o + l.length then l[j - o]? else c[j]? := by
  induction l with
  | nil => intro c o j h; rw [putAll, if_neg (by simp only [List.length_nil]; omega)]
  | cons v r ih =>
    intro c o j h
    rw [putAll, ih _ _ _ (by simp at h ⊢; omega), Array.getElem?_setIfInBounds]
    simp only [List.length_cons] at h ⊢
    by_cases h1 : o = j
    · subst h1
      rw [if_neg (by omega), if_pos rfl, if_pos (by omega), if_pos (by omega)]
      simp
    · rw [if_neg h1]
      by_cases h2 : o + 1 ≤ j ∧ j < o + 1 + r.length
      · rw [if_pos h2, if_pos (by omega), show j - o = (j - (o + 1)) + 1 by omega]
        rfl
      · rw [if_neg h2, if_neg (by omega)]
theorem Blk.setCells {w : World} {b : Nat} {T : TypeId} (l : List Value) : ∀ {c : Array Value} {o : Nat} {w : World}, Blk w b c T → Blk (w.setCells b o l) b (putAll c o l) T := by
  induction l with
  | nil => intro c o w h; exact h
  | cons v r ih => intro c o w h; rw [World.setCells, putAll]; exact ih (h.set o v)
theorem Blk.setCellsOther {b b' : Nat} {T : TypeId} (hb : b' ≠ b) (l : List Value) : ∀ {c : Array Value} {o : Nat} {w : World}, Blk w b' c T → Blk (w.setCells b o l) b' c T := by
  induction l with
  | nil => intro c o w h; exact h
  | cons v r ih => intro c o w h; rw [World.setCells]; exact ih (h.setOther (fun e => hb e.symm) v)
theorem Holds.setCellsOther {w : World} {b b' : Nat} {T : TypeId} {s : ByteArray} {σ : Except Nat Nat} (h : Holds w b' T s σ) (hb : b' ≠ b) (o : Nat) (l : List Value) : Holds (w.setCells b o l) b' T s σ := by
  cases σ with
  | ok j => obtain ⟨hj, a, h⟩ := h; exact ⟨hj, a, Blk.setCellsOther hb l h⟩
  | error p => obtain ⟨i, hi, h⟩ := h; exact ⟨i, hi, Blk.setCellsOther hb l h⟩
theorem Only.setCellsNew {L : List Nat} {a : World} {b : Nat} (hb : a.heap.size ≤ b) (l : List Value) : ∀ {w : World} {o : Nat}, Only L a w → Only L a (w.setCells b o l) := by
  induction l with
  | nil => intro w o h; exact h
  | cons v r ih => intro w o h; rw [World.setCells]; exact ih (h.setNew hb v)
theorem Blk.there {w : World} {b : Nat} {c : Array Value} {T : TypeId} (h : Blk w b c T) (o n : Nat) (hn : o + n ≤ c.size) : w.there b o n := fun j hj => by
  rw [h.cell, h.frozen]
  exact ⟨by rw [Array.getElem?_eq_getElem (by omega)]; rfl, rfl⟩

/-- The cells of a job's fields. -/
def fldA (M H D N W : Array Value) : Array Value := M ++ H ++ D ++ N ++ W
theorem fldA_size {M H D N W : Array Value} (h1 : M.size = 61) (h2 : H.size = 61) (h3 : D.size = 61) (h4 : N.size = 61) (h5 : W.size = 61) : (fldA M H D N W).size = 305 := by simp [fldA, h1, h2, h3, h4, h5]
theorem fldA_get {M H D N W : Array Value} (h1 : M.size = 61) (h2 : H.size = 61) (h3 : D.size = 61) (h4 : N.size = 61) (h5 : W.size = 61) (j : Nat) :
    (fldA M H D N W)[j]? = if j < 61 then M[j]? else if j < 122 then H[j - 61]? else if j < 183 then D[j - 122]? else if j < 244 then N[j - 183]? else W[j - 244]? := by
  simp only [fldA, Array.append_assoc, Array.getElem?_append, h1, h2, h3, h4, Nat.sub_sub, Nat.reduceAdd]
  by_cases a1 : j < 61
  · rw [if_pos a1, if_pos a1]
  · rw [if_neg a1, if_neg a1]
    by_cases a2 : j < 122
    · rw [if_pos (by omega), if_pos a2]
    · rw [if_neg (by omega), if_neg a2]
      by_cases a3 : j < 183
      · rw [if_pos (by omega), if_pos a3]
      · rw [if_neg (by omega), if_neg a3]
        by_cases a4 : j < 244
        · rw [if_pos (by omega), if_pos a4]
        · rw [if_neg (by omega), if_neg a4]
theorem fldA_put (k : Nat) (hk : k < 5) {M H D N W S : Array Value} (h1 : M.size = 61) (h2 : H.size = 61) (h3 : D.size = 61) (h4 : N.size = 61) (h5 : W.size = 61) (hS : S.size = 61) :
    putAll (fldA M H D N W) (61 * k) S.toList = fldA (if k = 0 then S else M) (if k = 1 then S else H) (if k = 2 then S else D) (if k = 3 then S else N) (if k = 4 then S else W) := by
  have hl : S.toList.length = 61 := by simpa using hS
  have g : ∀ (c : Prop) [Decidable c] (X Y : Array Value), X.size = 61 → Y.size = 61 → (if c then X else Y).size = 61 := by
    intro c _ X Y hx hy; split
    · exact hx
    · exact hy
  apply Array.ext_getElem?
  intro j
  rw [putAll_get _ _ _ _ (by rw [fldA_size h1 h2 h3 h4 h5]; omega), fldA_get (g _ _ _ hS h1) (g _ _ _ hS h2) (g _ _ _ hS h3) (g _ _ _ hS h4) (g _ _ _ hS h5), fldA_get h1 h2 h3 h4 h5, hl]
  have e : ∀ i, S.toList[i]? = S[i]? := fun i => Array.getElem?_toList
  have hk5 : k = 0 ∨ k = 1 ∨ k = 2 ∨ k = 3 ∨ k = 4 := by omega
  rcases hk5 with rfl | rfl | rfl | rfl | rfl <;> simp only [e, Nat.mul_zero, Nat.mul_one, Nat.zero_le, true_and, Nat.zero_add, Nat.sub_zero, if_true, Nat.reduceMul, Nat.reduceEqDiff, if_false, Nat.reduceAdd] <;> (repeat' split) <;> first | (with_reducible rfl) | (exfalso; omega) | (rw [Array.getElem?_eq_none (by omega), Array.getElem?_eq_none (by omega)])
end Go.Proofs.YtnnhnihgeheahaaDoor
