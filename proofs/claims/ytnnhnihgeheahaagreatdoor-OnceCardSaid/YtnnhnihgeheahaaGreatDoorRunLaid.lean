/- What the listed variables hold, for the walks of Runs and Next. -/
import Derived.Test.YtnnhnihgeheahaaGreatDoorRows
import Derived.Test.YtnnhnihgeheahaaGreatDoorMRun
import Derived.Lib.LaidTab
import Derived.ProofKit
import Derived.LaidMore
import Derived.OpenShut
import Derived.Stop.LaidErr
import Derived.MakeChecks
set_option linter.unusedSimpArgs false
set_option linter.unusedVariables false
namespace Go.Proofs.YtnnhnihgeheahaaGreatDoor
open Go.ChangeShapes Go.WideShapes Go.ChangeAt Go.WideMaps Go.WideElems Go.RowKit

theorem own : ownKnob Tryz.prog.godebug = none := by kernel_rfl
theorem gRange : Tryz.prog.globalNamed "strconv.ErrRange" = some 4 := by kernel_rfl
theorem gSyn : Tryz.prog.globalNamed "strconv.ErrSyntax" = some 3 := by kernel_rfl
theorem gMon : Tryz.prog.globalNamed "tock/tock.monthLengths" = some 1 := by kernel_rfl
theorem gBnd : Tryz.prog.globalNamed "tock/tock.fieldBounds" = some 0 := by kernel_rfl
theorem gBru : Tryz.prog.globalNamed "math/bits.deBruijn64tab" = some 6 := by kernel_rfl
theorem tRange : (Tryz.prog.globals[4]?).map (·.type) = some 192 := by kernel_rfl
theorem tSyn : (Tryz.prog.globals[3]?).map (·.type) = some 192 := by kernel_rfl
theorem tMon : (Tryz.prog.globals[1]?).map (·.type) = some 195 := by kernel_rfl
theorem tBnd : (Tryz.prog.globals[0]?).map (·.type) = some 167 := by kernel_rfl
theorem tBru : (Tryz.prog.globals[6]?).map (·.type) = some 254 := by kernel_rfl
theorem star : "*" ++ "errors.errorString" = "*errors.errorString" := by decide
theorem rowErr (u : TypeId) (h : Tryz.prog.typeName? 3 u = some "*errors.errorString") : u = 256 :=
  typeName_ptr_named (nm := "errors.errorString") (by rw [star]; kernel_rfl) (by kernel_rfl) (by decide) u (by rw [star]; exact h)

/-- What the rows list. -/
def laidAll : List (String × DataW Unit) := Rows.runsThenRow.laid

theorem months_of {W : World} (h : Lib.TabIs Tryz.prog W "tock/tock.monthLengths" .i64 [31, 28, 31, 30, 31, 30, 31, 31, 30, 31, 30, 31]) : Months W := by
  unfold Lib.TabIs World.var? at h
  simp only [gMon, Option.bind_some] at h
  unfold Months
  split at h
  · rename_i cs t fr heq
    cases h
    exact ⟨t, fr, heq⟩
  · cases h

theorem tab_of {W : World} (h : laidMet Tryz.prog [("tock/tock.fieldBounds", Rows.laid_tock_tock_fieldBounds)] W) : Tab W := by
  obtain ⟨ps, ⟨g0, t0, cs0, f0, p0, q0, hg0, ht0, hv0, hd0, _, _⟩, _, _⟩ := h
  obtain rfl := Option.some.inj (gBnd.symm.trans hg0)
  obtain rfl := Option.some.inj (tBnd.symm.trans ht0)
  have hcs : cs0 = bndA := by
    obtain ⟨xs, m1, rfl, hx1, hlen, hn, hel⟩ := DataW.trod_array Tryz.underlying167 hd0
    have c10 : Tryz.prog.cellsOf 167 = 10 := by kernel_rfl
    have c2 : Tryz.prog.cellsOf 166 = 2 := by kernel_rfl
    have c1 : Tryz.prog.cellsOf 3 = 1 := by kernel_rfl
    rw [c10] at hlen
    rw [c2] at hel
    simp only [Prod.mk.injEq, Rows.laid_tock_tock_fieldBounds, DataW.agg.injEq] at hx1
    have hcell : ∀ (i : Nat) (lo hi : Int), i < 5 → (xs[i]?).map (·.1) = some (.agg [.lit (.int .i64 lo), .lit (.int .i64 hi)]) → cs0[2 * i]? = some (.int .i64 lo) ∧ cs0[2 * i + 1]? = some (.int .i64 hi) := by
      intro i lo hi hi5 hxi
      have he := hel i hi5
      cases hq : xs[i]? with
      | none => rw [hq] at hxi; cases hxi
      | some y =>
        rw [hq] at he hxi
        obtain ⟨y0, y1, n, rfl, hl2, hf0, hf1⟩ := trod_struct2 Tryz.underlying166 he
        simp only [Option.map_some, Option.some.injEq, DataW.agg.injEq, List.cons.injEq, and_true] at hxi
        obtain ⟨k0, e0, r0, _⟩ := DataW.trod_int Tryz.underlying3 hf0
        obtain ⟨k1, e1, r1, _⟩ := DataW.trod_int Tryz.underlying3 hf1
        simp only [c1] at e0 e1
        rw [r0, r1] at hxi
        simp only [DataW.lit.injEq, Lit.int.injEq, true_and] at hxi
        obtain ⟨h0, h1⟩ := hxi
        subst h0 h1
        have g0 := congrArg (fun l => l[0]?) e0
        have g1 := congrArg (fun l => l[0]?) e1
        simp [List.getElem?_take, List.getElem?_drop] at g0 g1
        refine ⟨?_, ?_⟩
        · rw [show 2 * i = i * 2 by omega]; exact g0
        · rw [show 2 * i + 1 = i * 2 + 1 by omega]; exact g1
    match xs, hn, hx1, hcell with
    | [x0, x1, x2, x3, x4], _, hx1, hcell =>
      simp only [List.map_cons, List.map_nil, List.cons.injEq, and_true] at hx1
      obtain ⟨⟨a0, a1, a2, a3, a4⟩, _⟩ := hx1
      have b0 := hcell 0 0 59 (by decide) (by simp [← a0])
      have b1 := hcell 1 0 23 (by decide) (by simp [← a1])
      have b2 := hcell 2 1 31 (by decide) (by simp [← a2])
      have b3 := hcell 3 1 12 (by decide) (by simp [← a3])
      have b4 := hcell 4 0 6 (by decide) (by simp [← a4])
      obtain ⟨l⟩ := cs0
      match l, hlen, b0, b1, b2, b3, b4 with
      | [d0, d1, d2, d3, d4, d5, d6, d7, d8, d9], _, b0, b1, b2, b3, b4 =>
        simp at b0 b1 b2 b3 b4
        simp [bndA, b0, b1, b2, b3, b4]
  subst hcs
  unfold World.var? at hv0
  simp only [gBnd, Option.bind_some] at hv0
  unfold Tab
  split at hv0
  · rename_i cs t fr heq
    cases hv0
    exact ⟨t, fr, heq⟩
  · cases hv0

theorem bruijn_of {W : World} (h : Lib.TabIs Tryz.prog W "math/bits.deBruijn64tab" .u8 (Lib.deBruijn64tab.map Int.ofNat)) : Bruijn W := by
  intro j hj
  have hc := World.var?_cell gBru h j
  rw [hc]
  simp only [List.getElem?_toArray, List.getElem?_map]
  rw [List.getElem?_eq_getElem hj]
  simp only [Option.map_some, List.getD_eq_getElem?_getD, List.getElem?_eq_getElem hj, Option.getD_some]
  rfl

theorem of_laid {W : World} (h : laidMetH Tryz.prog laidAll W) : Errs W ∧ Tab W ∧ Months W ∧ Bruijn W := by
  rw [MakeChecks.laidMetH_plain _ _ _ (by kernel_rfl)] at h
  have h1 : laidMet Tryz.prog [("math/bits.deBruijn64tab", Lib.tabData .u8 (Lib.deBruijn64tab.map Int.ofNat)), ("internal/strconv.uint64pow10", Rows.laid_internal_strconv_uint64pow10), ("strconv.ErrRange", Rows.laid_strconv_ErrRange), ("strconv.ErrSyntax", Rows.laid_strconv_ErrSyntax), ("tock/tock.monthLengths", Lib.tabData .i64 [31, 28, 31, 30, 31, 30, 31, 31, 30, 31, 30, 31]), ("tock/tock.fieldBounds", Rows.laid_tock_tock_fieldBounds)] W := h.tail
  have h2 := h1.tail
  have h3 := h2.tail
  have h4 := h3.tail
  have h5 := h4.tail
  have h6 := h5.tail
  obtain ⟨a1, s1, hv1, _⟩ := laid_sentinel h3 gRange tRange Tryz.underlying192 rowErr Tryz.underlying256 Tryz.underlying258 rfl rfl Tryz.underlying9 (by kernel_rfl) (by kernel_rfl)
  obtain ⟨a2, s2, hv2, _⟩ := laid_sentinel h4 gSyn tSyn Tryz.underlying192 rowErr Tryz.underlying256 Tryz.underlying258 rfl rfl Tryz.underlying9 (by kernel_rfl) (by kernel_rfl)
  have c1 := World.var?_cell gSyn hv2 0
  have c2 := World.var?_cell gRange hv1 0
  simp at c1 c2
  have hm := Lib.tabIs_of_head gMon tMon Tryz.underlying195 Tryz.underlying3 (by kernel_rfl) (by kernel_rfl) h5
  have hb := Lib.tabIs_of_head gBru tBru Tryz.underlying254 Tryz.underlying5 (by kernel_rfl) (by kernel_rfl) h1
  exact ⟨⟨⟨_, _, c1⟩, ⟨_, _, c2⟩⟩, tab_of h6, months_of hm, bruijn_of hb⟩

/-- The door's own heap meets the condition. -/
theorem door_met (os : Os) (args : Array Value) : laidMetH Tryz.prog laidAll ((World.doorLaid Tryz.prog 400 os).forCall (fun _ _ => 0) ⟨#[], args, []⟩).memory :=
  laidMetH_of_parts3 (fuel := 8) (laidMet_of_run' 8 (by kernel_rfl) (by kernel_rfl)) (by kernel_rfl) (by kernel_rfl)
end Go.Proofs.YtnnhnihgeheahaaGreatDoor
