/- The reference reader's field. -/
import Derived.Test.YtnnhnihgeheahaaDoorRefI
import Derived.Deep.Cut
import Derived.Laws.Rows
import Derived.Laws.Tables
import Derived.Great.Walk
set_option linter.unusedSimpArgs false
set_option linter.unusedVariables false
namespace Go.Proofs.YtnnhnihgeheahaaDoor
open Go.RowKit

/-- The zero set. -/
def set0 : Array Value := setA (fun _ => false) false
theorem set0_size : set0.size = 61 := setA_size _ _
theorem set0_one : set0.all (·.oneCell') = true := setA_one _ _
theorem wpList_alloc_set {ops : Array Oper} {rest : List Oper} {o : Oper} {a : Act} {w : World} {Q : Exit → Act → World → Prop} (hg : o.guard = none) (ho : o.op = .alloc 49)
    (h : wpList Tryd.prog ops Q rest (a.put o.dst (.pointer (some ⟨w.heap.size, 0, none⟩))) (w.alloc (.cells set0 49))) : wpList Tryd.prog ops Q (o :: rest) a w := by
  have hrun : ∀ (ρ : Operand → Value) (d : Option Tmp) (t : TypeId) (p : String) (af : Array Edge), (execOp ρ { dst := d, op := .alloc 49, type := t, pos := p, after := af, guard := none }).run Tryd.prog w = .ok (.value (.pointer (some ⟨w.heap.size, 0, none⟩))) (w.alloc (.cells set0 49)) := fun _ _ _ _ _ => by kernel_rfl
  obtain ⟨d, op, t, p, af, g⟩ := o
  cases hg; cases ho
  exact Great.wpList_allocTo rfl _ rfl _ _ (hrun _ _ _ _ _) h
theorem wpList_build_set {ops : Array Oper} {rest : List Oper} {o : Oper} {a : Act} {w : World} {Q : Exit → Act → World → Prop} (hg : o.guard = none) (ho : o.op = .build 49 #[])
    (h : wpList Tryd.prog ops Q rest (a.put o.dst (.agg set0)) w) : wpList Tryd.prog ops Q (o :: rest) a w := by
  have hrun : ∀ (ρ : Operand → Value) (d : Option Tmp) (t : TypeId) (p : String) (af : Array Edge), (execOp ρ { dst := d, op := .build 49 #[], type := t, pos := p, after := af, guard := none }).run Tryd.prog w = .ok (.value (.agg set0)) w := fun _ _ _ _ _ => by kernel_rfl
  obtain ⟨d, op, t, p, af, g⟩ := o
  cases hg; cases ho
  exact Great.wpList_readTo rfl _ rfl _ (hrun _ _ _ _ _) h

/-- What 'field' says. -/
def FieldSaid (b : Nat) (T : TypeId) (s : ByteArray) (σ : Except Nat Nat) (lo hi : Nat) (w : World) (e : Ending) (w' : World) : Prop :=
  ∃ (h : Nat → Bool) (star : Bool), e = .returned (.agg (setA h star)) ∧ Holds w' b T s (posOf (σ.bind (pField s lo hi))) ∧ Only [b] w w' ∧ (∀ x, σ.bind (pField s lo hi) = .ok x → (star, h) = x.2)

theorem Blk.setRow {w : World} {b : Nat} {c : Array Value} {T : TypeId} (h : Blk w b c T) (d : Array Value) : Blk (w.setRow b d) b d T := by
  unfold Blk at *; simp [World.setRow, Array.getElem?_modify, h]
theorem heap_setRow_other (w : World) (g k : Nat) (d : Array Value) (h : k ≠ g) : (w.setRow g d).heap[k]? = w.heap[k]? := by
  simp only [World.setRow, Array.getElem?_modify]
  rw [if_neg (fun e => h e.symm)]
theorem Blk.setRowOther {w : World} {b : Nat} {c : Array Value} {T : TypeId} (h : Blk w b c T) {g : Nat} (hg : b ≠ g) (d : Array Value) : Blk (w.setRow g d) b c T := by
  unfold Blk at *; rw [heap_setRow_other _ _ _ _ hg]; exact h
theorem Holds.setRowOther {w : World} {b : Nat} {T : TypeId} {s : ByteArray} {σ : Except Nat Nat} (h : Holds w b T s σ) {g : Nat} (hg : b ≠ g) (d : Array Value) : Holds (w.setRow g d) b T s σ := by
  cases σ with
  | ok j => obtain ⟨hj, a, h⟩ := h; exact ⟨hj, a, h.setRowOther hg d⟩
  | error p => obtain ⟨i, hi, h⟩ := h; exact ⟨i, hi, h.setRowOther hg d⟩
theorem Only.setRowNew {l : List Nat} {a w : World} (h : Only l a w) {g : Nat} (hp : a.heap.size ≤ g) (d : Array Value) : Only l a (w.setRow g d) :=
  ⟨h.os, h.tape, h.output, by simpa [World.setRow] using h.size, fun k hk hn => by rw [heap_setRow_other _ _ _ _ (by omega)]; exact h.block k hk hn⟩

set_option maxHeartbeats 2000000 in
theorem ref_field_bad (b : Nat) (s : ByteArray) (p : Nat) (lo hi : Nat) (lo' hi' : Int) (e1 : lo' = lo) (e2 : hi' = hi) (T : TypeId) (w : World) (hb : Holds w b T s (.error p)) (hs : s.size ≤ 281474976710656) (hlh : lo ≤ hi) (hhi : hi ≤ 59) :
    Calls Tryd.prog 18 #[.pointer (some ⟨b, 0, none⟩), .int .i64 lo', .int .i64 hi'] w (FieldSaid b T s (.error p) lo hi w) := by
  subst e1 e2
  have hlt := hb.lt
  have hu00 : Blk ((w.alloc (.cells set0 49)).alloc (.cells set0 49)) (w.heap.size + 1) set0 49 := by have := Blk.new (w.alloc (.cells set0 49)) set0 49; rw [World.size_alloc] at this; exact this
  have hu0 : Blk (((w.alloc (.cells set0 49)).alloc (.cells set0 49)).setRow (w.heap.size + 1) set0) (w.heap.size + 1) (setA (fun _ => false) false) 49 := hu00.setRow _
  have hr0 : Blk (((w.alloc (.cells set0 49)).alloc (.cells set0 49)).setRow (w.heap.size + 1) set0) w.heap.size set0 49 := ((Blk.new w set0 49).alloc _).setRowOther (by omega) _
  have ho0 : Only [b] w (((w.alloc (.cells set0 49)).alloc (.cells set0 49)).setRow (w.heap.size + 1) set0) := Only.setRowNew (((Only.refl _ _).alloc _).alloc _) (by omega) _
  have hb0 := ((hb.alloc (.cells set0 49)).alloc (.cells set0 49)).setRowOther (g := w.heap.size + 1) (by omega) set0
  have HU00 := hide hu00
  have HU0 := hide hu0
  have HR0 := hide hr0
  have HO0 := hide ho0
  have HB0 := hide hb0
  clear hb hu0 hr0 ho0 hb0 hu00
  go_enter Tryd.func18, Tryd.ntmps18
  go_upto_region 2 with (first | (refine wpList_alloc_set rfl rfl ?_; simp only [World.size_alloc, Act.put, List.setIfInBounds_toArray, List.set_cons_succ, List.set_cons_zero]) | (refine wpList_build_set rfl rfl ?_; simp only [Act.put, List.setIfInBounds_toArray, List.set_cons_succ, List.set_cons_zero]) | (refine wpList_store_row rfl 49 _ _ rfl (w.heap.size + 1) set0 rfl rfl 49 set0 (unhide HU00) (by rw [set0_size]; kernel_rfl) rfl set0_one ?_; simp only [Act.put, List.setIfInBounds_toArray, List.set_cons_succ, List.set_cons_zero]))
  revert HU0 HR0 HO0 HB0
  generalize (((w.alloc (.cells set0 49)).alloc (.cells set0 49)).setRow (w.heap.size + 1) set0) = w0
  intro HU0 HR0 HO0 HB0
  obtain ⟨bf, hbf⟩ : ∃ bf, bf = w.heap.size + 1 := ⟨_, rfl⟩
  obtain ⟨br, hbr⟩ : ∃ br, br = w.heap.size := ⟨_, rfl⟩
  rw [← hbf] at HU0
  rw [← hbr] at HR0
  rw [← hbf, ← hbr]
  have hf1 : w.heap.size ≤ bf := by omega
  have hf2 : w.heap.size ≤ br := by omega
  have hf3 : bf ≠ b := by omega
  have hf4 : br ≠ b := by omega
  have hf5 : bf ≠ br := by omega
  clear hbf hbr hlt
  obtain ⟨i, hi', hblk⟩ : ∃ i : Nat, i ≤ s.size + 1 ∧ Blk w0 b (rdr s i true p) T := unhide HB0
  have HK := hide hblk
  have c2 := hblk.cell 2
  simp [rdr] at c2
  clear hblk
  go_wp2_with (go_at_call 12; refine (ref_peek b s i true p T _ ?_ hs hi').mono ?_; · exact unhide HK)
  rintro e w1 ⟨rfl, n, rfl⟩
  rw [show ((peekV s i true : Nat) : Int) = 0 from rfl]
  have HU1 := hide ((unhide HU0).drewN n)
  have HR1 := hide ((unhide HR0).drewN n)
  have HO1 := hide ((unhide HO0).drewN n)
  have HB1 := hide ((unhide HB0).drewN n)
  clear HU0 HR0 HO0 HB0
  go_wp2_with fail
  refine wp_loop_rounds 1 ?_
  rw [rounds_succ]
  obtain ⟨S, hS⟩ : ∃ S, S = setA (fun _ => false) false := ⟨_, rfl⟩
  obtain ⟨S0, hS0⟩ : ∃ S0, S0 = set0 := ⟨_, rfl⟩
  have hz : S.size = 61 := by rw [hS, setA_size]
  have hz0 : S0.size = 61 := by rw [hS0, set0_size]
  have hone : S.all (·.oneCell') = true := by rw [hS]; exact setA_one _ _
  have hu9 := unhide HU1
  have hr9 := unhide HR1
  rw [← hS] at hu9
  rw [← hS0] at hr9
  have hrr : Blk ((w0.drewN n).setRow br S) br S 49 := hr9.setRow _
  have hob : Only [b] w ((w0.drewN n).setRow br S) := (unhide HO1).setRowNew hf2 _
  have hbb := (unhide HB1).setRowOther (fun e => hf4 e.symm) S
  have HU9 := hide hu9
  have HR9 := hide hr9
  have HZ := hide hz
  have HZ0 := hide hz0
  have HONE := hide hone
  have HS := hide hS
  have HRR := hide hrr
  have HOB := hide hob
  have HBB := hide hbb
  clear hu9 hr9 hz hz0 hone hS hS0 hrr hob hbb HU1 HR1 HO1 HB1
  go_upto_region 26 with fail
  refine wp_region_lit ?_
  refine wpList_load_row rfl 49 _ rfl bf rfl 49 S (0, 0) _ (unhide HU9) Tryd.underlying49 rfl (by rw [unhide HZ]; kernel_rfl) ?_
  simp only [Act.put, List.setIfInBounds_toArray, List.set_cons_succ, List.set_cons_zero]
  refine wpList_store_row rfl 49 _ _ rfl br S rfl rfl 49 S0 (unhide HR9) (by rw [unhide HZ]; kernel_rfl) (by rw [unhide HZ, unhide HZ0]) (unhide HONE) ?_
  simp only [Act.put, List.setIfInBounds_toArray, List.set_cons_succ, List.set_cons_zero]
  revert HRR HOB HBB
  generalize ((w0.drewN n).setRow br S) = w9
  intro HRR HOB HBB
  refine wpList_nil ?_
  simp only [Exit.then]
  first | (rename_i hK; refine hK _ _ ?_) | skip
  refine wp_ret ?_
  refine bodyPost_ret (v := .agg S) (results_cell_row rfl _ _ br 49 S (0, 0) _ rfl (unhide HRR) Tryd.underlying49 rfl (by rw [unhide HZ]; kernel_rfl)) rfl ?_
  refine ⟨(fun _ => false), false, by rw [unhide HS], ?_, unhide HOB, ?_⟩
  · exact unhide HBB
  · intro x hx
    cases hx
end Go.Proofs.YtnnhnihgeheahaaDoor
