/- The program's readFields. -/
import Derived.Test.YtnnhnihgeheahaaDoorFldB
import Derived.Test.YtnnhnihgeheahaaDoorBaseI
import Derived.Test.YtnnhnihgeheahaaDoorRefJ
import Derived.Deep.Cut
import Derived.Laws.Rows
set_option linter.unusedSimpArgs false
set_option linter.unusedVariables false
namespace Go.Proofs.YtnnhnihgeheahaaDoor
open Go.RowKit

theorem c_field' (b : Nat) (s : ByteArray) (σ : Except Nat Nat) (lo hi : Nat) (lo' hi' : Int) (e1 : lo' = lo) (e2 : hi' = hi) (T : TypeId) (w : World) (hb : HoldsC w b T s σ) (hs : s.size ≤ 281474976710656) (hE : Errs w) (hg1 : 1 ≠ b) (hg2 : 2 ≠ b) (hhi : hi ≤ 59) (hlo : lo ≤ hi) :
    Calls Tryd.prog 22 #[.pointer (some ⟨b, 0, none⟩), .agg #[.int .i64 lo', .int .i64 hi']] w (FieldSaidC b T s σ lo hi w) := by
  subst e1 e2; exact c_field b s σ lo hi T w hb hs hE hg1 hg2 hhi hlo

/-- The table of bounds. -/
def bndA : Array Value := #[.int .i64 0, .int .i64 59, .int .i64 0, .int .i64 23, .int .i64 1, .int .i64 31, .int .i64 1, .int .i64 12, .int .i64 0, .int .i64 6]
def Tab (w : World) : Prop := ∃ t fr, w.heap[0]? = some (.cells bndA t fr)
theorem Tab.only {w w' : World} (h : Tab w) {l : List Nat} (k : Only l w w') (h1 : 0 ∉ l) : Tab w' := by
  obtain ⟨t, fr, h⟩ := h
  exact ⟨t, fr, by rw [k.block _ (Array.getElem?_eq_some_iff.1 h).1 h1]; exact h⟩

/-- A plan's cells. -/
def planC (F : Fld) : Array Value := #[.int .u64 (Cal.nb F.m.2 : Nat), .bool F.m.1, .int .u64 (Cal.nb F.h.2 : Nat), .bool F.h.1, .int .u64 (Cal.nb F.d.2 : Nat), .bool F.d.1, .int .u64 (Cal.nb F.n.2 : Nat), .bool F.n.1, .int .u64 (Cal.nb F.w.2 : Nat), .bool F.w.1]
def planV (F : Fld) : Value := .agg (planC F)
def fldNone : Fld := ⟨(false, fun _ => false), (false, fun _ => false), (false, fun _ => false), (false, fun _ => false), (false, fun _ => false)⟩
def ten0 : Array Value := #[.int .u64 0, .bool false, .int .u64 0, .bool false, .int .u64 0, .bool false, .int .u64 0, .bool false, .int .u64 0, .bool false]
theorem nb_none : Cal.nb (fun _ => false) = 0 := (Cal.nb_unique fun k => by simp).symm
theorem planC_none : planC fldNone = ten0 := by simp [planC, fldNone, ten0, nb_none]

theorem cell_setRow {w : World} {b g o : Nat} (h : b ≠ g) (d : Array Value) : (w.setRow g d).cell? ⟨b, o, none⟩ = w.cell? ⟨b, o, none⟩ :=
  World.cell?_of_block (w := w) (heap_setRow_other _ _ _ _ h)

theorem results_plan (tmps : Array Value) (w : World) (br : Nat) (C : Array Value) {u v : Value} (h2 : tmps.getD 2 undef = .pointer (some ⟨br, 0, none⟩)) (h3 : tmps.getD 3 undef = u) (h4 : tmps.getD 4 undef = v)
    (hr : Blk w br C 38) (hs : C.size = 10) : (results Tryd.f11 tmps).run Tryd.prog w = .ok (.tuple #[.agg C, u, v]) w := by
  have h2' : tmps[2]?.getD undef = .pointer (some ⟨br, 0, none⟩) := by simpa using h2
  have h3' : tmps[3]?.getD undef = u := by simpa using h3
  have h4' : tmps[4]?.getD undef = v := by simpa using h4
  have hl := run_loadVar_row (P := Tryd.prog) w br 38 38 C (0, 0) _ hr Tryd.underlying38 rfl (by rw [hs]; kernel_rfl)
  simp [results, Tryd.results11, h2', h3', h4', asAddr, hl]

/-- What 'readFields' says. -/
def ReadFSaid (s : ByteArray) (w : World) (e : Ending) (w' : World) : Prop :=
  Below w.heap.size w w' ∧ ∃ (F : Fld) (n : Int) (p : Nat), e = .returned (.tuple #[planV F, .int .i64 n, .int .i64 p]) ∧ (∀ F', pFields s = .ok F' → n = 0 ∧ p = 0 ∧ F = F') ∧ (∀ q, pFields s = .error q → n = 3 ∧ p = q)

set_option maxRecDepth 4000 in
set_option maxHeartbeats 4000000 in
theorem c_readFields (s : ByteArray) (w : World) (hs : s.size ≤ 281474976710656) (hE : Errs w) (hT : Tab w) :
    Calls Tryd.prog 11 #[.string s] w (ReadFSaid s w) := by
  obtain ⟨⟨_, _, hg1⟩, ⟨_, _, hg2⟩⟩ := id hE
  have hg1 := cell_lt hg1
  have hg2 := cell_lt hg2
  simp only [] at hg1 hg2
  have hg3 : 0 < w.heap.size := by
    obtain ⟨t, fr, h⟩ := hT
    exact (Array.getElem?_eq_some_iff.1 h).1
  obtain ⟨w0, hw0⟩ : ∃ w0, w0 = ((w.alloc (.cells #[.int .u64 0, .bool false, .int .u64 0, .bool false, .int .u64 0, .bool false, .int .u64 0, .bool false, .int .u64 0, .bool false] 38)).alloc (.cells #[.string s, .int .i64 0, .bool false, .int .i64 0] 68)).alloc (.cells #[.int .u64 0, .bool false, .int .u64 0, .bool false, .int .u64 0, .bool false, .int .u64 0, .bool false, .int .u64 0, .bool false] 72) := ⟨_, rfl⟩
  have hp0 : Blk w0 w.heap.size ten0 38 := by rw [hw0]; exact ((Blk.new _ _ _).alloc _).alloc _
  have hb0 : HoldsC w0 (w.heap.size + 1) 68 s (.ok 0) := ⟨Nat.zero_le _, 0, by
    have h := Blk.new (w.alloc (.cells #[.int .u64 0, .bool false, .int .u64 0, .bool false, .int .u64 0, .bool false, .int .u64 0, .bool false, .int .u64 0, .bool false] 38)) #[.string s, .int .i64 0, .bool false, .int .i64 0] 68
    simp only [World.size_alloc] at h
    rw [hw0]; exact h.alloc _⟩
  have hf0 : Blk w0 (w.heap.size + 1 + 1) ten0 72 := by
    have h := Blk.new ((w.alloc (.cells #[.int .u64 0, .bool false, .int .u64 0, .bool false, .int .u64 0, .bool false, .int .u64 0, .bool false, .int .u64 0, .bool false] 38)).alloc (.cells #[.string s, .int .i64 0, .bool false, .int .i64 0] 68)) ten0 72
    simp only [World.size_alloc] at h
    rw [hw0]; exact h
  have ho0 : Only [] w w0 := by rw [hw0]; exact (((Only.refl _ _).alloc _).alloc _).alloc _
  have hT0 := hT.only ho0 (by simp)
  have HP0 := hide hp0
  have HB0 := hide hb0
  have HF0 := hide hf0
  have HO0 := hide ho0
  have HE := hide hE
  have HT0 := hide hT0
  clear hp0 hb0 hf0 ho0 hE hT hT0
  go_enter Tryd.func11, Tryd.ntmps11
  go_upto_region 3 with fail
  rw [← hw0]
  clear hw0
  obtain ⟨bp, hbp⟩ : ∃ bp, bp = w.heap.size := ⟨_, rfl⟩
  obtain ⟨b, hb⟩ : ∃ b, b = bp + 1 := ⟨_, rfl⟩
  obtain ⟨bf, hbf⟩ : ∃ bf, bf = b + 1 := ⟨_, rfl⟩
  rw [← hbp] at HP0 HB0 HF0
  rw [← hb] at HB0 HF0
  rw [← hbf] at HF0
  rw [← hbp, ← hb, ← hbf]
  have hq1 : 1 ≠ b := by omega
  have hq2 : 2 ≠ b := by omega
  have hbw : w.heap.size ≤ b := by omega
  have hbpw : w.heap.size ≤ bp := by omega
  have hbfw : w.heap.size ≤ bf := by omega
  have d1 : bp ≠ b := by omega
  have d2 : bp ≠ bf := by omega
  have d3 : bf ≠ b := by omega
  have hlt : bf < w0.heap.size := (unhide HF0).lt
  clear hb hbf hbp
  obtain ⟨tt, fr, htab⟩ := unhide HT0
  refine wp_region_lit ?_
  refine wpList_load_row rfl 75 _ rfl 0 rfl tt bndA fr _ htab Tryd.underlying75 rfl (by kernel_rfl) ?_
  simp only [Act.put, List.setIfInBounds_toArray, List.set_cons_succ, List.set_cons_zero]
  unfold bndA
  clear htab HT0
  have ix0 : ∀ w, (Instr.index 75 (.agg #[.int .i64 0, .int .i64 59, .int .i64 0, .int .i64 23, .int .i64 1, .int .i64 31, .int .i64 1, .int .i64 12, .int .i64 0, .int .i64 6]) (.int .i64 0)).run Tryd.prog w = .ok (.agg #[.int .i64 0, .int .i64 59]) w := fun _ => by kernel_rfl
  have ix1 : ∀ w, (Instr.index 75 (.agg #[.int .i64 0, .int .i64 59, .int .i64 0, .int .i64 23, .int .i64 1, .int .i64 31, .int .i64 1, .int .i64 12, .int .i64 0, .int .i64 6]) (.int .i64 1)).run Tryd.prog w = .ok (.agg #[.int .i64 0, .int .i64 23]) w := fun _ => by kernel_rfl
  have ix2 : ∀ w, (Instr.index 75 (.agg #[.int .i64 0, .int .i64 59, .int .i64 0, .int .i64 23, .int .i64 1, .int .i64 31, .int .i64 1, .int .i64 12, .int .i64 0, .int .i64 6]) (.int .i64 2)).run Tryd.prog w = .ok (.agg #[.int .i64 1, .int .i64 31]) w := fun _ => by kernel_rfl
  have ix3 : ∀ w, (Instr.index 75 (.agg #[.int .i64 0, .int .i64 59, .int .i64 0, .int .i64 23, .int .i64 1, .int .i64 31, .int .i64 1, .int .i64 12, .int .i64 0, .int .i64 6]) (.int .i64 3)).run Tryd.prog w = .ok (.agg #[.int .i64 1, .int .i64 12]) w := fun _ => by kernel_rfl
  have ix4 : ∀ w, (Instr.index 75 (.agg #[.int .i64 0, .int .i64 59, .int .i64 0, .int .i64 23, .int .i64 1, .int .i64 31, .int .i64 1, .int .i64 12, .int .i64 0, .int .i64 6]) (.int .i64 4)).run Tryd.prog w = .ok (.agg #[.int .i64 0, .int .i64 6]) w := fun _ => by kernel_rfl
  go_wp2_with fail
  refine wp_loop_rounds 6 ?_
  rw [rounds_succ]
  have hA := (unhide HB0).alloc (.cells #[.int .i64 0, .int .i64 59] 74)
  have hOA := (unhide HO0).alloc (.cells #[.int .i64 0, .int .i64 59] 74)
  have hPA := (unhide HP0).alloc (.cells #[.int .i64 0, .int .i64 59] 74)
  have hFA := (unhide HF0).alloc (.cells #[.int .i64 0, .int .i64 59] 74)
  have hUA : Blk (w0.alloc (.cells #[.int .i64 0, .int .i64 59] 74)) w0.heap.size #[.int .i64 0, .int .i64 59] 74 := Blk.new _ _ _
  have hlt0 := (unhide HB0).lt
  have HA := hide hA
  have HOA := hide hOA
  have HPA := hide hPA
  have HFA := hide hFA
  have HUA := hide hUA
  clear hA hOA hPA hFA hUA HB0 HO0 HP0 HF0
  go_wp2_with (go_at_call 22; refine (c_field' b s _ 0 59 0 59 rfl rfl 68 _ (unhide HA) hs ((unhide HE).only (unhide HOA) (by simp) (by simp)) hq1 hq2 (by decide) (by decide)).mono ?_)
  rintro e y0 ⟨st0, h0, rfl, hb1, ho1, hv0⟩
  obtain ⟨N0, hN0⟩ : ∃ N0, N0 = Cal.nb h0 := ⟨_, rfl⟩
  rw [← hN0]
  have HN0 := hide hN0
  have HV0 := hide hv0
  have hP1 := (unhide HPA).only ho1 (by simpa using d1)
  have hF1 := (unhide HFA).only ho1 (by simpa using d3)
  have hO1 := (unhide HOA).step ho1 (by simpa using hbw)
  obtain ⟨w1, hw1⟩ : ∃ w1, w1 = (y0.setCell ⟨bf, 0, none⟩ (.int .u64 (N0 : Int))).setCell ⟨bf, 1, none⟩ (.bool st0) := ⟨_, rfl⟩
  have hB3 := (hb1.setOther (p := ⟨bf, 0, none⟩) d3 (.int .u64 (N0 : Int))).setOther (p := ⟨bf, 1, none⟩) d3 (.bool st0)
  have hP3 := (hP1.setOther (p := ⟨bf, 0, none⟩) (Ne.symm d2) (.int .u64 (N0 : Int))).setOther (p := ⟨bf, 1, none⟩) (Ne.symm d2) (.bool st0)
  have hO3 := (hO1.setNew (p := ⟨bf, 0, none⟩) hbfw (.int .u64 (N0 : Int))).setNew (p := ⟨bf, 1, none⟩) hbfw (.bool st0)
  have hF3 : Blk ((y0.setCell ⟨bf, 0, none⟩ (.int .u64 (N0 : Int))).setCell ⟨bf, 1, none⟩ (.bool st0)) bf #[.int .u64 (N0 : Int), .bool st0, .int .u64 0, .bool false, .int .u64 0, .bool false, .int .u64 0, .bool false, .int .u64 0, .bool false] 72 := (hF1.set 0 (.int .u64 (N0 : Int))).set 1 (.bool st0)
  have f0 := hF1.cell 0
  have f1 := hF1.cell 1
  have ff := hF1.frozen
  simp [ten0] at f0 f1
  rw [← hw1] at hB3 hP3 hO3 hF3
  have HB1 := hide hB3
  have HP1 := hide hP3
  have HO1 := hide hO3
  have HF1 := hide hF3
  have HW1 := hide hw1
  clear hN0 hv0 hb1 ho1 hP1 hF1 hO1 hB3 hP3 hO3 hF3 hw1 HA HOA HPA HFA HUA hlt0
  go_wp2_with fail
  rw [← unhide HW1]
  clear f0 f1 ff HW1
  rw [rounds_succ]
  have hA := (unhide HB1).alloc (.cells #[.int .i64 0, .int .i64 23] 74)
  have hOA := (unhide HO1).alloc (.cells #[.int .i64 0, .int .i64 23] 74)
  have hPA := (unhide HP1).alloc (.cells #[.int .i64 0, .int .i64 23] 74)
  have hFA := (unhide HF1).alloc (.cells #[.int .i64 0, .int .i64 23] 74)
  have hUA : Blk (w1.alloc (.cells #[.int .i64 0, .int .i64 23] 74)) w1.heap.size #[.int .i64 0, .int .i64 23] 74 := Blk.new _ _ _
  have hlt1 := (unhide HB1).lt
  have HA := hide hA
  have HOA := hide hOA
  have HPA := hide hPA
  have HFA := hide hFA
  have HUA := hide hUA
  clear hA hOA hPA hFA hUA HB1 HO1 HP1 HF1
  go_wp2_with (go_at_call 21; refine (c_need b s _ 32 32 rfl 68 _ (unhide HA) hs (by decide)).mono ?_)
  rintro e x1 ⟨rfl, hb2, ho2⟩
  have hu2 := (unhide HUA).only ho2 (by simp; omega)
  have hP2 := (unhide HPA).only ho2 (by simpa using d1)
  have hF2 := (unhide HFA).only ho2 (by simpa using d3)
  have hB2 := hb2
  have hO2 := (unhide HOA).step ho2 (by simpa using hbw)
  have u0 := hu2.cell 0
  have u1 := hu2.cell 1
  simp at u0 u1
  clear HA HOA HPA HFA HUA
  have HA := hide hB2
  have HOA := hide hO2
  have HPA := hide hP2
  have HFA := hide hF2
  clear hb2 ho2 hu2 hP2 hF2 hB2 hO2
  go_wp2_with (go_at_call 22; refine (c_field' b s _ 0 23 0 23 rfl rfl 68 _ (unhide HA) hs ((unhide HE).only (unhide HOA) (by simp) (by simp)) hq1 hq2 (by decide) (by decide)).mono ?_)
  rintro e y1 ⟨st1, h1, rfl, hb1, ho1, hv1⟩
  obtain ⟨N1, hN1⟩ : ∃ N1, N1 = Cal.nb h1 := ⟨_, rfl⟩
  rw [← hN1]
  have HN1 := hide hN1
  have HV1 := hide hv1
  have hP1 := (unhide HPA).only ho1 (by simpa using d1)
  have hF1 := (unhide HFA).only ho1 (by simpa using d3)
  have hO1 := (unhide HOA).step ho1 (by simpa using hbw)
  obtain ⟨w2, hw2⟩ : ∃ w2, w2 = (y1.setCell ⟨bf, 2, none⟩ (.int .u64 (N1 : Int))).setCell ⟨bf, 3, none⟩ (.bool st1) := ⟨_, rfl⟩
  have hB3 := (hb1.setOther (p := ⟨bf, 2, none⟩) d3 (.int .u64 (N1 : Int))).setOther (p := ⟨bf, 3, none⟩) d3 (.bool st1)
  have hP3 := (hP1.setOther (p := ⟨bf, 2, none⟩) (Ne.symm d2) (.int .u64 (N1 : Int))).setOther (p := ⟨bf, 3, none⟩) (Ne.symm d2) (.bool st1)
  have hO3 := (hO1.setNew (p := ⟨bf, 2, none⟩) hbfw (.int .u64 (N1 : Int))).setNew (p := ⟨bf, 3, none⟩) hbfw (.bool st1)
  have hF3 : Blk ((y1.setCell ⟨bf, 2, none⟩ (.int .u64 (N1 : Int))).setCell ⟨bf, 3, none⟩ (.bool st1)) bf #[.int .u64 (N0 : Int), .bool st0, .int .u64 (N1 : Int), .bool st1, .int .u64 0, .bool false, .int .u64 0, .bool false, .int .u64 0, .bool false] 72 := (hF1.set 2 (.int .u64 (N1 : Int))).set 3 (.bool st1)
  have f0 := hF1.cell 2
  have f1 := hF1.cell 3
  have ff := hF1.frozen
  simp [ten0] at f0 f1
  rw [← hw2] at hB3 hP3 hO3 hF3
  have HB2 := hide hB3
  have HP2 := hide hP3
  have HO2 := hide hO3
  have HF2 := hide hF3
  have HW2 := hide hw2
  clear hN1 hv1 hb1 ho1 hP1 hF1 hO1 hB3 hP3 hO3 hF3 hw2 HA HOA HPA HFA u0 u1 hlt1
  go_wp2_with fail
  rw [← unhide HW2]
  clear f0 f1 ff HW2
  rw [rounds_succ]
  have hA := (unhide HB2).alloc (.cells #[.int .i64 1, .int .i64 31] 74)
  have hOA := (unhide HO2).alloc (.cells #[.int .i64 1, .int .i64 31] 74)
  have hPA := (unhide HP2).alloc (.cells #[.int .i64 1, .int .i64 31] 74)
  have hFA := (unhide HF2).alloc (.cells #[.int .i64 1, .int .i64 31] 74)
  have hUA : Blk (w2.alloc (.cells #[.int .i64 1, .int .i64 31] 74)) w2.heap.size #[.int .i64 1, .int .i64 31] 74 := Blk.new _ _ _
  have hlt2 := (unhide HB2).lt
  have HA := hide hA
  have HOA := hide hOA
  have HPA := hide hPA
  have HFA := hide hFA
  have HUA := hide hUA
  clear hA hOA hPA hFA hUA HB2 HO2 HP2 HF2
  go_wp2_with (go_at_call 21; refine (c_need b s _ 32 32 rfl 68 _ (unhide HA) hs (by decide)).mono ?_)
  rintro e x2 ⟨rfl, hb2, ho2⟩
  have hu2 := (unhide HUA).only ho2 (by simp; omega)
  have hP2 := (unhide HPA).only ho2 (by simpa using d1)
  have hF2 := (unhide HFA).only ho2 (by simpa using d3)
  have hB2 := hb2
  have hO2 := (unhide HOA).step ho2 (by simpa using hbw)
  have u0 := hu2.cell 0
  have u1 := hu2.cell 1
  simp at u0 u1
  clear HA HOA HPA HFA HUA
  have HA := hide hB2
  have HOA := hide hO2
  have HPA := hide hP2
  have HFA := hide hF2
  clear hb2 ho2 hu2 hP2 hF2 hB2 hO2
  go_wp2_with (go_at_call 22; refine (c_field' b s _ 1 31 1 31 rfl rfl 68 _ (unhide HA) hs ((unhide HE).only (unhide HOA) (by simp) (by simp)) hq1 hq2 (by decide) (by decide)).mono ?_)
  rintro e y2 ⟨st2, h2, rfl, hb1, ho1, hv2⟩
  obtain ⟨N2, hN2⟩ : ∃ N2, N2 = Cal.nb h2 := ⟨_, rfl⟩
  rw [← hN2]
  have HN2 := hide hN2
  have HV2 := hide hv2
  have hP1 := (unhide HPA).only ho1 (by simpa using d1)
  have hF1 := (unhide HFA).only ho1 (by simpa using d3)
  have hO1 := (unhide HOA).step ho1 (by simpa using hbw)
  obtain ⟨w3, hw3⟩ : ∃ w3, w3 = (y2.setCell ⟨bf, 4, none⟩ (.int .u64 (N2 : Int))).setCell ⟨bf, 5, none⟩ (.bool st2) := ⟨_, rfl⟩
  have hB3 := (hb1.setOther (p := ⟨bf, 4, none⟩) d3 (.int .u64 (N2 : Int))).setOther (p := ⟨bf, 5, none⟩) d3 (.bool st2)
  have hP3 := (hP1.setOther (p := ⟨bf, 4, none⟩) (Ne.symm d2) (.int .u64 (N2 : Int))).setOther (p := ⟨bf, 5, none⟩) (Ne.symm d2) (.bool st2)
  have hO3 := (hO1.setNew (p := ⟨bf, 4, none⟩) hbfw (.int .u64 (N2 : Int))).setNew (p := ⟨bf, 5, none⟩) hbfw (.bool st2)
  have hF3 : Blk ((y2.setCell ⟨bf, 4, none⟩ (.int .u64 (N2 : Int))).setCell ⟨bf, 5, none⟩ (.bool st2)) bf #[.int .u64 (N0 : Int), .bool st0, .int .u64 (N1 : Int), .bool st1, .int .u64 (N2 : Int), .bool st2, .int .u64 0, .bool false, .int .u64 0, .bool false] 72 := (hF1.set 4 (.int .u64 (N2 : Int))).set 5 (.bool st2)
  have f0 := hF1.cell 4
  have f1 := hF1.cell 5
  have ff := hF1.frozen
  simp [ten0] at f0 f1
  rw [← hw3] at hB3 hP3 hO3 hF3
  have HB3 := hide hB3
  have HP3 := hide hP3
  have HO3 := hide hO3
  have HF3 := hide hF3
  have HW3 := hide hw3
  clear hN2 hv2 hb1 ho1 hP1 hF1 hO1 hB3 hP3 hO3 hF3 hw3 HA HOA HPA HFA u0 u1 hlt2
  go_wp2_with fail
  rw [← unhide HW3]
  clear f0 f1 ff HW3
  rw [rounds_succ]
  have hA := (unhide HB3).alloc (.cells #[.int .i64 1, .int .i64 12] 74)
  have hOA := (unhide HO3).alloc (.cells #[.int .i64 1, .int .i64 12] 74)
  have hPA := (unhide HP3).alloc (.cells #[.int .i64 1, .int .i64 12] 74)
  have hFA := (unhide HF3).alloc (.cells #[.int .i64 1, .int .i64 12] 74)
  have hUA : Blk (w3.alloc (.cells #[.int .i64 1, .int .i64 12] 74)) w3.heap.size #[.int .i64 1, .int .i64 12] 74 := Blk.new _ _ _
  have hlt3 := (unhide HB3).lt
  have HA := hide hA
  have HOA := hide hOA
  have HPA := hide hPA
  have HFA := hide hFA
  have HUA := hide hUA
  clear hA hOA hPA hFA hUA HB3 HO3 HP3 HF3
  go_wp2_with (go_at_call 21; refine (c_need b s _ 32 32 rfl 68 _ (unhide HA) hs (by decide)).mono ?_)
  rintro e x3 ⟨rfl, hb2, ho2⟩
  have hu2 := (unhide HUA).only ho2 (by simp; omega)
  have hP2 := (unhide HPA).only ho2 (by simpa using d1)
  have hF2 := (unhide HFA).only ho2 (by simpa using d3)
  have hB2 := hb2
  have hO2 := (unhide HOA).step ho2 (by simpa using hbw)
  have u0 := hu2.cell 0
  have u1 := hu2.cell 1
  simp at u0 u1
  clear HA HOA HPA HFA HUA
  have HA := hide hB2
  have HOA := hide hO2
  have HPA := hide hP2
  have HFA := hide hF2
  clear hb2 ho2 hu2 hP2 hF2 hB2 hO2
  go_wp2_with (go_at_call 22; refine (c_field' b s _ 1 12 1 12 rfl rfl 68 _ (unhide HA) hs ((unhide HE).only (unhide HOA) (by simp) (by simp)) hq1 hq2 (by decide) (by decide)).mono ?_)
  rintro e y3 ⟨st3, h3, rfl, hb1, ho1, hv3⟩
  obtain ⟨N3, hN3⟩ : ∃ N3, N3 = Cal.nb h3 := ⟨_, rfl⟩
  rw [← hN3]
  have HN3 := hide hN3
  have HV3 := hide hv3
  have hP1 := (unhide HPA).only ho1 (by simpa using d1)
  have hF1 := (unhide HFA).only ho1 (by simpa using d3)
  have hO1 := (unhide HOA).step ho1 (by simpa using hbw)
  obtain ⟨w4, hw4⟩ : ∃ w4, w4 = (y3.setCell ⟨bf, 6, none⟩ (.int .u64 (N3 : Int))).setCell ⟨bf, 7, none⟩ (.bool st3) := ⟨_, rfl⟩
  have hB3 := (hb1.setOther (p := ⟨bf, 6, none⟩) d3 (.int .u64 (N3 : Int))).setOther (p := ⟨bf, 7, none⟩) d3 (.bool st3)
  have hP3 := (hP1.setOther (p := ⟨bf, 6, none⟩) (Ne.symm d2) (.int .u64 (N3 : Int))).setOther (p := ⟨bf, 7, none⟩) (Ne.symm d2) (.bool st3)
  have hO3 := (hO1.setNew (p := ⟨bf, 6, none⟩) hbfw (.int .u64 (N3 : Int))).setNew (p := ⟨bf, 7, none⟩) hbfw (.bool st3)
  have hF3 : Blk ((y3.setCell ⟨bf, 6, none⟩ (.int .u64 (N3 : Int))).setCell ⟨bf, 7, none⟩ (.bool st3)) bf #[.int .u64 (N0 : Int), .bool st0, .int .u64 (N1 : Int), .bool st1, .int .u64 (N2 : Int), .bool st2, .int .u64 (N3 : Int), .bool st3, .int .u64 0, .bool false] 72 := (hF1.set 6 (.int .u64 (N3 : Int))).set 7 (.bool st3)
  have f0 := hF1.cell 6
  have f1 := hF1.cell 7
  have ff := hF1.frozen
  simp [ten0] at f0 f1
  rw [← hw4] at hB3 hP3 hO3 hF3
  have HB4 := hide hB3
  have HP4 := hide hP3
  have HO4 := hide hO3
  have HF4 := hide hF3
  have HW4 := hide hw4
  clear hN3 hv3 hb1 ho1 hP1 hF1 hO1 hB3 hP3 hO3 hF3 hw4 HA HOA HPA HFA u0 u1 hlt3
  go_wp2_with fail
  rw [← unhide HW4]
  clear f0 f1 ff HW4
  rw [rounds_succ]
  have hA := (unhide HB4).alloc (.cells #[.int .i64 0, .int .i64 6] 74)
  have hOA := (unhide HO4).alloc (.cells #[.int .i64 0, .int .i64 6] 74)
  have hPA := (unhide HP4).alloc (.cells #[.int .i64 0, .int .i64 6] 74)
  have hFA := (unhide HF4).alloc (.cells #[.int .i64 0, .int .i64 6] 74)
  have hUA : Blk (w4.alloc (.cells #[.int .i64 0, .int .i64 6] 74)) w4.heap.size #[.int .i64 0, .int .i64 6] 74 := Blk.new _ _ _
  have hlt4 := (unhide HB4).lt
  have HA := hide hA
  have HOA := hide hOA
  have HPA := hide hPA
  have HFA := hide hFA
  have HUA := hide hUA
  clear hA hOA hPA hFA hUA HB4 HO4 HP4 HF4
  go_wp2_with (go_at_call 21; refine (c_need b s _ 32 32 rfl 68 _ (unhide HA) hs (by decide)).mono ?_)
  rintro e x4 ⟨rfl, hb2, ho2⟩
  have hu2 := (unhide HUA).only ho2 (by simp; omega)
  have hP2 := (unhide HPA).only ho2 (by simpa using d1)
  have hF2 := (unhide HFA).only ho2 (by simpa using d3)
  have hB2 := hb2
  have hO2 := (unhide HOA).step ho2 (by simpa using hbw)
  have u0 := hu2.cell 0
  have u1 := hu2.cell 1
  simp at u0 u1
  clear HA HOA HPA HFA HUA
  have HA := hide hB2
  have HOA := hide hO2
  have HPA := hide hP2
  have HFA := hide hF2
  clear hb2 ho2 hu2 hP2 hF2 hB2 hO2
  go_wp2_with (go_at_call 22; refine (c_field' b s _ 0 6 0 6 rfl rfl 68 _ (unhide HA) hs ((unhide HE).only (unhide HOA) (by simp) (by simp)) hq1 hq2 (by decide) (by decide)).mono ?_)
  rintro e y4 ⟨st4, h4, rfl, hb1, ho1, hv4⟩
  obtain ⟨N4, hN4⟩ : ∃ N4, N4 = Cal.nb h4 := ⟨_, rfl⟩
  rw [← hN4]
  have HN4 := hide hN4
  have HV4 := hide hv4
  have hP1 := (unhide HPA).only ho1 (by simpa using d1)
  have hF1 := (unhide HFA).only ho1 (by simpa using d3)
  have hO1 := (unhide HOA).step ho1 (by simpa using hbw)
  obtain ⟨w5, hw5⟩ : ∃ w5, w5 = (y4.setCell ⟨bf, 8, none⟩ (.int .u64 (N4 : Int))).setCell ⟨bf, 9, none⟩ (.bool st4) := ⟨_, rfl⟩
  have hB3 := (hb1.setOther (p := ⟨bf, 8, none⟩) d3 (.int .u64 (N4 : Int))).setOther (p := ⟨bf, 9, none⟩) d3 (.bool st4)
  have hP3 := (hP1.setOther (p := ⟨bf, 8, none⟩) (Ne.symm d2) (.int .u64 (N4 : Int))).setOther (p := ⟨bf, 9, none⟩) (Ne.symm d2) (.bool st4)
  have hO3 := (hO1.setNew (p := ⟨bf, 8, none⟩) hbfw (.int .u64 (N4 : Int))).setNew (p := ⟨bf, 9, none⟩) hbfw (.bool st4)
  have hF3 : Blk ((y4.setCell ⟨bf, 8, none⟩ (.int .u64 (N4 : Int))).setCell ⟨bf, 9, none⟩ (.bool st4)) bf #[.int .u64 (N0 : Int), .bool st0, .int .u64 (N1 : Int), .bool st1, .int .u64 (N2 : Int), .bool st2, .int .u64 (N3 : Int), .bool st3, .int .u64 (N4 : Int), .bool st4] 72 := (hF1.set 8 (.int .u64 (N4 : Int))).set 9 (.bool st4)
  have f0 := hF1.cell 8
  have f1 := hF1.cell 9
  have ff := hF1.frozen
  simp [ten0] at f0 f1
  rw [← hw5] at hB3 hP3 hO3 hF3
  have HB5 := hide hB3
  have HP5 := hide hP3
  have HO5 := hide hO3
  have HF5 := hide hF3
  have HW5 := hide hw5
  clear hN4 hv4 hb1 ho1 hP1 hF1 hO1 hB3 hP3 hO3 hF3 hw5 HA HOA HPA HFA u0 u1 hlt4
  go_wp2_with fail
  rw [← unhide HW5]
  clear f0 f1 ff HW5
  rw [rounds_succ]
  go_wp2_with (go_at_call 23; refine (c_needEnd b s _ 68 _ (unhide HB5) hs).mono ?_)
  rintro e wz ⟨rfl, hbz, hoz⟩
  have hfp := fields_cases s _ _ _ _ _ _ _ _ (st0, h0) (st1, h1) (st2, h2) (st3, h3) (st4, h4) rfl (unhide HV0) rfl rfl (unhide HV1) rfl rfl (unhide HV2) rfl rfl (unhide HV3) rfl (unhide HV4)
  obtain ⟨iz, badz, az, hiz, hblkz, hokz, herrz⟩ := hbz.place
  have hOz := (unhide HO5).step hoz (by simpa using hbw)
  have hPz := (unhide HP5).only hoz (by simpa using d1)
  have hFz := (unhide HF5).only hoz (by simpa using d3)
  have hfin : (badz = true → pFields s = .error az) ∧ (badz = false → pFields s = .ok ⟨(st0, h0), (st1, h1), (st2, h2), (st3, h3), (st4, h4)⟩) := by
    rcases hfp with ⟨q, g1, g2⟩ | ⟨k, g1, g2⟩
    · rw [g1] at hokz herrz
      have := (herrz q rfl)
      exact ⟨fun _ => (by rw [g2, this.2]), fun h => (by rw [this.1] at h; cases h)⟩
    · rw [g1] at hokz herrz
      rw [g2]
      simp only [Except.bind] at hokz herrz
      by_cases hlt : k < s.size
      · rw [if_pos hlt] at hokz herrz ⊢
        have := (herrz k rfl)
        exact ⟨fun _ => (by rw [this.2]), fun h => (by rw [this.1] at h; cases h)⟩
      · rw [if_neg hlt] at hokz herrz ⊢
        have := (hokz k rfl)
        exact ⟨fun h => (by rw [this.2] at h; cases h), fun _ => rfl⟩
  have c2 := hblkz.cell 2
  have c3 := hblkz.cell 3
  simp [rdr] at c2 c3
  have HF := hide hfin
  have HOz := hide hOz
  have HPz := hide hPz
  have q0 := hFz.cell 0
  have q1 := hFz.cell 1
  have q2 := hFz.cell 2
  have q3 := hFz.cell 3
  have q4 := hFz.cell 4
  have q5 := hFz.cell 5
  have q6 := hFz.cell 6
  have q7 := hFz.cell 7
  have q8 := hFz.cell 8
  have q9 := hFz.cell 9
  simp at q0 q1 q2 q3 q4 q5 q6 q7 q8 q9
  clear hbz hoz hfp hblkz hokz herrz hfin hOz hPz hFz HB5 HO5 HP5 HF5 HV0 HV1 HV2 HV3 HV4
  cases badz
  · have hz := (unhide HF).2 rfl
    have HZ := hide hz
    clear hz HF
    go_wp2_with (refine wpList_store_row rfl 38 _ _ rfl bp #[.int .u64 (N0 : Int), .bool st0, .int .u64 (N1 : Int), .bool st1, .int .u64 (N2 : Int), .bool st2, .int .u64 (N3 : Int), .bool st3, .int .u64 (N4 : Int), .bool st4] rfl rfl 38 ten0 (unhide HPz) (by kernel_rfl) rfl (by simp [Value.oneCell']) ?_; simp only [Act.put, List.setIfInBounds_toArray, List.set_cons_succ, List.set_cons_zero])
    have hbl := Blk.setRow (unhide HPz) #[.int .u64 (N0 : Int), .bool st0, .int .u64 (N1 : Int), .bool st1, .int .u64 (N2 : Int), .bool st2, .int .u64 (N3 : Int), .bool st3, .int .u64 (N4 : Int), .bool st4]
    refine bodyPost_ret (v := .tuple #[.agg #[.int .u64 (N0 : Int), .bool st0, .int .u64 (N1 : Int), .bool st1, .int .u64 (N2 : Int), .bool st2, .int .u64 (N3 : Int), .bool st3, .int .u64 (N4 : Int), .bool st4], .int .i64 0, .int .i64 0]) (results_plan _ _ bp #[.int .u64 (N0 : Int), .bool st0, .int .u64 (N1 : Int), .bool st1, .int .u64 (N2 : Int), .bool st2, .int .u64 (N3 : Int), .bool st3, .int .u64 (N4 : Int), .bool st4] rfl rfl rfl hbl rfl) rfl ⟨?_, ⟨(st0, h0), (st1, h1), (st2, h2), (st3, h3), (st4, h4)⟩, 0, 0, ?_, ?_, ?_⟩
    · refine Only.below (l := []) ?_ (Nat.le_refl _) (by simp)
      exact (unhide HOz).setRowNew hbpw _
    · rw [unhide HN0, unhide HN1, unhide HN2, unhide HN3, unhide HN4]
      rfl
    · intro F' h
      rw [unhide HZ] at h
      cases h
      exact ⟨rfl, rfl, rfl⟩
    · intro q hq
      rw [unhide HZ] at hq
      cases hq
  · have hz := (unhide HF).1 rfl
    have HZ := hide hz
    clear hz HF
    go_wp2
    have hS : (fun w' : World => w'.cell? ⟨b, 3, none⟩ = some (.int .i64 (az : Int))) wz.drew := c3
    refine wp_region_held (S := fun w' => w'.cell? ⟨b, 3, none⟩ = some (.int .i64 (az : Int))) (by kernel_rfl) ?_
    refine wpAnyH_take (i := 0) (v := .agg ten0) rfl (by kernel_rfl) (by kernel_rfl) (by kernel_rfl) (fun _ _ _ h => h) (Or.inl ⟨by rfl, fun wx hx => ?_⟩) hS ?_
    · kernel_rfl
    simp only [Act.put, List.getElem_toArray, List.getElem_cons_succ, List.getElem_cons_zero, List.setIfInBounds_toArray, List.set_cons_succ, List.set_cons_zero]
    refine wpAnyH_take (i := 1) (v := .pointer (some ⟨b, 3, none⟩)) rfl (by kernel_rfl) (by kernel_rfl) (by kernel_rfl) (fun _ _ _ h => h) (Or.inl ⟨by rfl, fun wx hx => ?_⟩) hS ?_
    · kernel_rfl
    simp only [Act.put, List.getElem_toArray, List.getElem_cons_succ, List.getElem_cons_zero, List.setIfInBounds_toArray, List.set_cons_succ, List.set_cons_zero]
    refine wpAnyH_take (i := 2) (v := .int .i64 (az : Int)) rfl (by kernel_rfl) (by kernel_rfl) (by kernel_rfl) (fun _ _ _ h => h) (Or.inl ⟨by rfl, fun wx hx => ?_⟩) hS ?_
    · simp only [] at hx
      go_simp
    simp only [Act.put, List.getElem_toArray, List.getElem_cons_succ, List.getElem_cons_zero, List.setIfInBounds_toArray, List.set_cons_succ, List.set_cons_zero]
    refine wpAnyH_ready (rs := [3]) (by kernel_rfl) (by simp) ?_
    refine AllReadyH.cons rfl (fun K hK => ?_) AllReadyH.nil
    rw [if_pos (by rfl)]
    refine wp_store_row 38 _ _ rfl bp ten0 rfl rfl 38 ten0 (unhide HPz).drew (by kernel_rfl) rfl (by kernel_rfl) ?_
    simp only [Act.put, List.getElem_toArray, List.getElem_cons_succ, List.getElem_cons_zero, List.setIfInBounds_toArray, List.set_cons_succ, List.set_cons_zero]
    have hrr : Blk (wz.drew.setRow bp ten0) bp ten0 38 := Blk.setRow (unhide HPz).drew _
    have hoo : Only [] w (wz.drew.setRow bp ten0) := ((unhide HOz).drew).setRowNew hbpw _
    refine hK.out _ _ (by rw [cell_setRow d1.symm]; exact hS) (fun hS => ?_)
    clear hK
    refine wpAnyH_take (i := 4) (v := .int .i64 3) rfl (by kernel_rfl) (by kernel_rfl) (by kernel_rfl) (fun _ _ _ h => h) (Or.inl ⟨by rfl, fun wx hx => ?_⟩) hS ?_
    · rfl
    simp only [Act.put, List.getElem_toArray, List.getElem_cons_succ, List.getElem_cons_zero, List.setIfInBounds_toArray, List.set_cons_succ, List.set_cons_zero]
    refine wpAnyH_take (i := 5) (v := .int .i64 (az : Int)) rfl (by kernel_rfl) (by kernel_rfl) (by kernel_rfl) (fun _ _ _ h => h) (Or.inl ⟨by rfl, fun wx hx => ?_⟩) hS ?_
    · rfl
    simp only [Act.put, List.getElem_toArray, List.getElem_cons_succ, List.getElem_cons_zero, List.setIfInBounds_toArray, List.set_cons_succ, List.set_cons_zero]
    refine wpAnyH_done (by kernel_rfl) ?_ _
    have HOO := hide hoo
    have HRR := hide hrr
    clear hoo hrr hS
    go_wp2
    all_goals
      refine bodyPost_ret (v := .tuple #[.agg ten0, .int .i64 3, .int .i64 (az : Int)]) (results_plan _ _ bp ten0 rfl rfl rfl (unhide HRR) rfl) rfl ⟨?_, fldNone, 3, az, ?_, ?_, ?_⟩
      · exact Only.below (unhide HOO) (Nat.le_refl _) (by simp)
      · show _ = Ending.returned (.tuple #[.agg (planC fldNone), _, _])
        rw [planC_none]
      · intro F' h
        rw [unhide HZ] at h
        cases h
      · intro q hq
        rw [unhide HZ] at hq
        cases hq
        exact ⟨rfl, rfl⟩
end Go.Proofs.YtnnhnihgeheahaaDoor
