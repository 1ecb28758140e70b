/- What the listed variables hold, for the walks. -/
import Derived.Test.YtnnhnihgeheahaaGreatDoorRows
import Derived.Test.YtnnhnihgeheahaaGreatDoorMLoc
import Derived.Lib.LaidTab
import Derived.ProofKit
import Derived.LaidMore
import Derived.OpenShut
import Derived.Stop.LaidErr
import Derived.MakeChecks
set_option linter.unusedSimpArgs false
set_option linter.unusedVariables false
namespace Go.Proofs.YtnnhnihgeheahaaGreatDoor
open Go.ChangeShapes Go.WideShapes Go.ChangeAt Go.WideMaps Go.WideElems Go.RowKit

theorem own : ownKnob Tryz.prog.godebug = none := by kernel_rfl
theorem gRange : Tryz.prog.globalNamed "strconv.ErrRange" = some 4 := by kernel_rfl
theorem gSyn : Tryz.prog.globalNamed "strconv.ErrSyntax" = some 3 := by kernel_rfl
theorem gMon : Tryz.prog.globalNamed "tock/tock.monthLengths" = some 1 := by kernel_rfl
theorem tRange : (Tryz.prog.globals[4]?).map (·.type) = some 192 := by kernel_rfl
theorem tSyn : (Tryz.prog.globals[3]?).map (·.type) = some 192 := by kernel_rfl
theorem tMon : (Tryz.prog.globals[1]?).map (·.type) = some 195 := by kernel_rfl
theorem tPow : (Tryz.prog.globals[2]?).map (·.type) = some 243 := by kernel_rfl
theorem star : "*" ++ "errors.errorString" = "*errors.errorString" := by decide
theorem rowErr (u : TypeId) (h : Tryz.prog.typeName? 3 u = some "*errors.errorString") : u = 256 :=
  typeName_ptr_named (nm := "errors.errorString") (by rw [star]; kernel_rfl) (by kernel_rfl) (by decide) u (by rw [star]; exact h)

/-- What the rows list. -/
def laidAll : List (String × DataW Unit) := Rows.localsRow.laid

theorem months_of {W : World} (h : Lib.TabIs Tryz.prog W "tock/tock.monthLengths" .i64 [31, 28, 31, 30, 31, 30, 31, 31, 30, 31, 30, 31]) : Months W := by
  unfold Lib.TabIs World.var? at h
  simp only [gMon, Option.bind_some] at h
  unfold Months
  split at h
  · rename_i cs t fr heq
    cases h
    exact ⟨t, fr, heq⟩
  · cases h

theorem of_laid {W : World} (h : laidMetH Tryz.prog laidAll W) : Errs W ∧ Months W ∧ Pow W := by
  rw [MakeChecks.laidMetH_plain _ _ _ (by kernel_rfl)] at h
  have h2 : laidMet Tryz.prog [("internal/strconv.uint64pow10", Lib.tabData .u64 Lib.pow10Tab), ("strconv.ErrRange", Rows.laid_strconv_ErrRange), ("strconv.ErrSyntax", Rows.laid_strconv_ErrSyntax), ("tock/tock.monthLengths", Lib.tabData .i64 [31, 28, 31, 30, 31, 30, 31, 31, 30, 31, 30, 31])] W := h.tail.tail
  have h3 := h2.tail
  have h4 := h3.tail
  have h5 := h4.tail
  obtain ⟨a1, s1, hv1, _⟩ := laid_sentinel h3 gRange tRange Tryz.underlying192 rowErr Tryz.underlying256 Tryz.underlying258 rfl rfl Tryz.underlying9 (by kernel_rfl) (by kernel_rfl)
  obtain ⟨a2, s2, hv2, _⟩ := laid_sentinel h4 gSyn tSyn Tryz.underlying192 rowErr Tryz.underlying256 Tryz.underlying258 rfl rfl Tryz.underlying9 (by kernel_rfl) (by kernel_rfl)
  have c1 := World.var?_cell gSyn hv2 0
  have c2 := World.var?_cell gRange hv1 0
  simp at c1 c2
  have hm := Lib.tabIs_of_head gMon tMon Tryz.underlying195 Tryz.underlying3 (by kernel_rfl) (by kernel_rfl) h5
  have hp := Lib.tabIs_of_head gPow tPow Tryz.underlying243 Tryz.underlying97 (by kernel_rfl) (by kernel_rfl) h2
  exact ⟨⟨⟨_, _, c1⟩, ⟨_, _, c2⟩⟩, months_of hm, hp⟩

/-- The door's own heap meets the condition. -/
theorem door_met (os : Os) (args : Array Value) : laidMetH Tryz.prog laidAll ((World.doorLaid Tryz.prog 400 os).forCall (fun _ _ => 0) ⟨#[], args, []⟩).memory :=
  laidMetH_of_parts3 (fuel := 8) (laidMet_of_run' 8 (by kernel_rfl) (by kernel_rfl)) (by kernel_rfl) (by kernel_rfl)
end Go.Proofs.YtnnhnihgeheahaaGreatDoor
