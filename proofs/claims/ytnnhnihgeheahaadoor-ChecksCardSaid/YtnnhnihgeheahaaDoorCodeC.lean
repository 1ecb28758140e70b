/- The program's scanner: numbers. -/
import Derived.Test.YtnnhnihgeheahaaDoorCodeB
import Derived.Test.YtnnhnihgeheahaaDoorBase3
import Derived.Test.YtnnhnihgeheahaaDoorShelf
import Derived.Lib.SmallJoins
set_option linter.unusedSimpArgs false
set_option linter.unusedVariables false
namespace Go.Proofs.YtnnhnihgeheahaaDoor
open Go.RowKit

/-- The two sentinels that Atoi's errors bear hold something. -/
def Errs (w : World) : Prop := (∃ t p, w.cell? ⟨1, 0, none⟩ = some (.iface t p)) ∧ (∃ t p, w.cell? ⟨2, 0, none⟩ = some (.iface t p))
theorem cell_lt {w : World} {a : Addr} {v : Value} (h : w.cell? a = some v) : a.block < w.heap.size := by
  unfold World.cell? at h
  cases hb : w.heap[a.block]? with
  | none => rw [hb] at h; cases h
  | some o => exact (Array.getElem?_eq_some_iff.1 hb).1
theorem cell_only {w w' : World} {l : List Nat} (k : Only l w w') {a : Addr} (ha : a.block < w.heap.size) (hn : a.block ∉ l) : w'.cell? a = w.cell? a := World.cell?_of_block (w := w) (k.block _ ha hn)
theorem Errs.only {w w' : World} (h : Errs w) {l : List Nat} (k : Only l w w') (h1 : 1 ∉ l) (h2 : 2 ∉ l) : Errs w' := by
  obtain ⟨⟨t1, p1, c1⟩, ⟨t2, p2, c2⟩⟩ := h
  exact ⟨⟨t1, p1, by rw [cell_only k (cell_lt c1) h1]; exact c1⟩, ⟨t2, p2, by rw [cell_only k (cell_lt c2) h2]; exact c2⟩⟩
theorem Errs.drewN {w : World} (h : Errs w) (n : Nat) : Errs (w.drewN n) := h

theorem c_atoi (s : ByteArray) (w : World) (hs : s.size ≤ 281474976710656) (hE : Errs w) :
    Calls Tryd.prog 37 #[.string s] w fun e w' => Below w.heap.size w w' ∧
      ∃ v ev, e = .returned (.tuple #[.int .i64 v, ev]) ∧ ((ev = .nilIface ∧ Lib.atoiAll s.data.toList = .ok v) ∨ (∃ T N, ev = .iface T (.pointer (some ⟨N, 0, none⟩)) ∧ ∀ u, Lib.atoiAll s.data.toList ≠ .ok u)) := by
  obtain ⟨⟨t1, p1, c1⟩, ⟨t2, p2, c2⟩⟩ := hE
  rcases hA : Lib.atoiAll s.data.toList with v | _ | _
  · refine (Any.strconv_Atoi_ok Tryd.laysC172 s (by omega) v hA w).mono ?_
    rintro e w' ⟨rfl, hw⟩
    refine ⟨?_, v, _, rfl, .inl ⟨rfl, rfl⟩⟩
    rcases hw with rfl | ⟨t, rfl⟩
    · exact Below.refl _ _
    · exact Go.Joins.below_bytesWorld _ _ _ _ (Nat.le_refl _)
  · refine (Any.strconv_Atoi_syntax Tryd.laysC172 s hs hA _ w c1 (.inr ⟨_, _, rfl⟩)).mono ?_
    rintro e w' ⟨N, rfl, _, _, hb⟩
    exact ⟨hb, _, _, rfl, .inr ⟨_, _, rfl, fun u hu => by cases hu⟩⟩
  · refine (Any.strconv_Atoi_range Tryd.laysC172 s hs hA _ w c2 (.inr ⟨_, _, rfl⟩)).mono ?_
    rintro e w' ⟨N, rfl, _, _, hb⟩
    exact ⟨hb, _, _, rfl, .inr ⟨_, _, rfl, fun u hu => by cases hu⟩⟩
end Go.Proofs.YtnnhnihgeheahaaDoor
