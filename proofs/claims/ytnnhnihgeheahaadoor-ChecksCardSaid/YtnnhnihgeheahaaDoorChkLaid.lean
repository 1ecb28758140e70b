/- What the listed variables hold, for the walks. -/
import Derived.Test.YtnnhnihgeheahaaDoorRows
import Derived.Test.YtnnhnihgeheahaaDoorCodeK
import Derived.ProofKit
import Derived.LaidMore
import Derived.OpenShut
import Derived.Stop.LaidErr
import Derived.MakeChecks
set_option linter.unusedSimpArgs false
set_option linter.unusedVariables false
namespace Go.Proofs.YtnnhnihgeheahaaDoor
open Go.ChangeShapes Go.WideShapes Go.ChangeAt Go.WideMaps Go.WideElems Go.RowKit

theorem own : ownKnob Tryd.prog.godebug = none := by kernel_rfl
theorem gRange : Tryd.prog.globalNamed "strconv.ErrRange" = some 2 := by kernel_rfl
theorem gSyn : Tryd.prog.globalNamed "strconv.ErrSyntax" = some 1 := by kernel_rfl
theorem gBnd : Tryd.prog.globalNamed "tock/tock.fieldBounds" = some 0 := by kernel_rfl
theorem tRange : (Tryd.prog.globals[2]?).map (·.type) = some 87 := by kernel_rfl
theorem tSyn : (Tryd.prog.globals[1]?).map (·.type) = some 87 := by kernel_rfl
theorem tBnd : (Tryd.prog.globals[0]?).map (·.type) = some 75 := by kernel_rfl
theorem star : "*" ++ "errors.errorString" = "*errors.errorString" := by decide
theorem rowErr (u : TypeId) (h : Tryd.prog.typeName? 3 u = some "*errors.errorString") : u = 109 :=
  typeName_ptr_named (nm := "errors.errorString") (by rw [star]; kernel_rfl) (by kernel_rfl) (by decide) u (by rw [star]; exact h)

/-- What the rows list. -/
def laidAll : List (String × DataW Unit) := Rows.checksRow.laid

theorem tab_of {W : World} (h : laidMet Tryd.prog [("tock/tock.fieldBounds", Rows.laid_tock_tock_fieldBounds)] W) : Tab W := by
  obtain ⟨ps, ⟨g0, t0, cs0, f0, p0, q0, hg0, ht0, hv0, hd0, _, _⟩, _, _⟩ := h
  obtain rfl := Option.some.inj (gBnd.symm.trans hg0)
  obtain rfl := Option.some.inj (tBnd.symm.trans ht0)
  have hcs : cs0 = bndA := by
    obtain ⟨xs, m1, rfl, hx1, hlen, hn, hel⟩ := DataW.trod_array Tryd.underlying75 hd0
    have c10 : Tryd.prog.cellsOf 75 = 10 := by kernel_rfl
    have c2 : Tryd.prog.cellsOf 74 = 2 := by kernel_rfl
    have c1 : Tryd.prog.cellsOf 3 = 1 := by kernel_rfl
    rw [c10] at hlen
    rw [c2] at hel
    simp only [Prod.mk.injEq, Rows.laid_tock_tock_fieldBounds, DataW.agg.injEq] at hx1
    have hcell : ∀ (i : Nat) (lo hi : Int), i < 5 → (xs[i]?).map (·.1) = some (.agg [.lit (.int .i64 lo), .lit (.int .i64 hi)]) → cs0[2 * i]? = some (.int .i64 lo) ∧ cs0[2 * i + 1]? = some (.int .i64 hi) := by
      intro i lo hi hi5 hxi
      have he := hel i hi5
      cases hq : xs[i]? with
      | none => rw [hq] at hxi; cases hxi
      | some y =>
        rw [hq] at he hxi
        obtain ⟨y0, y1, n, rfl, hl2, hf0, hf1⟩ := trod_struct2 Tryd.underlying74 he
        simp only [Option.map_some, Option.some.injEq, DataW.agg.injEq, List.cons.injEq, and_true] at hxi
        obtain ⟨k0, e0, r0, _⟩ := DataW.trod_int Tryd.underlying3 hf0
        obtain ⟨k1, e1, r1, _⟩ := DataW.trod_int Tryd.underlying3 hf1
        simp only [c1] at e0 e1
        rw [r0, r1] at hxi
        simp only [DataW.lit.injEq, Lit.int.injEq, true_and] at hxi
        obtain ⟨h0, h1⟩ := hxi
        subst h0 h1
        have g0 := congrArg (fun l => l[0]?) e0
        have g1 := congrArg (fun l => l[0]?) e1
        simp [List.getElem?_take, List.getElem?_drop] at g0 g1
        refine ⟨?_, ?_⟩
        · rw [show 2 * i = i * 2 by omega]; exact g0
        · rw [show 2 * i + 1 = i * 2 + 1 by omega]; exact g1
    match xs, hn, hx1, hcell with
    | [x0, x1, x2, x3, x4], _, hx1, hcell =>
      simp only [List.map_cons, List.map_nil, List.cons.injEq, and_true] at hx1
      obtain ⟨⟨a0, a1, a2, a3, a4⟩, _⟩ := hx1
      have b0 := hcell 0 0 59 (by decide) (by simp [← a0])
      have b1 := hcell 1 0 23 (by decide) (by simp [← a1])
      have b2 := hcell 2 1 31 (by decide) (by simp [← a2])
      have b3 := hcell 3 1 12 (by decide) (by simp [← a3])
      have b4 := hcell 4 0 6 (by decide) (by simp [← a4])
      obtain ⟨l⟩ := cs0
      match l, hlen, b0, b1, b2, b3, b4 with
      | [d0, d1, d2, d3, d4, d5, d6, d7, d8, d9], _, b0, b1, b2, b3, b4 =>
        simp at b0 b1 b2 b3 b4
        simp [bndA, b0, b1, b2, b3, b4]
  subst hcs
  unfold World.var? at hv0
  simp only [gBnd, Option.bind_some] at hv0
  unfold Tab
  split at hv0
  · rename_i cs t fr heq
    cases hv0
    exact ⟨t, fr, heq⟩
  · cases hv0

theorem of_laid {W : World} (h : laidMetH Tryd.prog laidAll W) : Errs W ∧ Tab W := by
  rw [MakeChecks.laidMetH_plain _ _ _ (by kernel_rfl)] at h
  have h3 : laidMet Tryd.prog [("strconv.ErrRange", Rows.laid_strconv_ErrRange), ("strconv.ErrSyntax", Rows.laid_strconv_ErrSyntax), ("tock/tock.fieldBounds", Rows.laid_tock_tock_fieldBounds)] W := h.tail.tail.tail
  have h4 := h3.tail
  have h5 := h4.tail
  obtain ⟨a1, s1, hv1, _⟩ := laid_sentinel h3 gRange tRange Tryd.underlying87 rowErr Tryd.underlying109 Tryd.underlying111 rfl rfl Tryd.underlying9 (by kernel_rfl) (by kernel_rfl)
  obtain ⟨a2, s2, hv2, _⟩ := laid_sentinel h4 gSyn tSyn Tryd.underlying87 rowErr Tryd.underlying109 Tryd.underlying111 rfl rfl Tryd.underlying9 (by kernel_rfl) (by kernel_rfl)
  have c1 := World.var?_cell gSyn hv2 0
  have c2 := World.var?_cell gRange hv1 0
  simp at c1 c2
  exact ⟨⟨⟨_, _, c1⟩, ⟨_, _, c2⟩⟩, tab_of h5⟩

/-- The door's own heap meets the condition. -/
theorem door_met (os : Os) (args : Array Value) : laidMetH Tryd.prog laidAll ((World.doorLaid Tryd.prog 400 os).forCall (fun _ _ => 0) ⟨#[], args, []⟩).memory :=
  laidMetH_of_parts3 (fuel := 8) (laidMet_of_run' 8 (by kernel_rfl) (by kernel_rfl)) (by kernel_rfl) (by kernel_rfl)
end Go.Proofs.YtnnhnihgeheahaaDoor
