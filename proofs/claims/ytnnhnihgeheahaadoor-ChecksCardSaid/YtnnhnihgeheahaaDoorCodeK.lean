/- The program's Check. -/
import Derived.Test.YtnnhnihgeheahaaDoorRdA
set_option linter.unusedSimpArgs false
set_option linter.unusedVariables false
namespace Go.Proofs.YtnnhnihgeheahaaDoor
open Go.RowKit

set_option maxRecDepth 4000 in
set_option maxHeartbeats 2000000 in
theorem c_Check (z f : ByteArray) (w : World) (hz : z.size ≤ 281474976710656) (hf : f.size ≤ 281474976710656) (hE : Errs w) (hT : Tab w) :
    Calls Tryd.prog 4 #[.string z, .string f] w (CheckSaid z f w) := by
  have HE := hide hE
  have HT := hide hT
  clear hE hT
  go_enter Tryd.func4, Tryd.ntmps4
  go_wp2_with (
    go_at_call 7
    refine (c_read2 z f _ hz hf (unhide HE) (unhide HT)).mono ?_
    rintro e w1 ⟨hbel, zn, F, n, p, rfl, hc, _⟩
    have HB := hide ((hbel.alloc hbel.size (.cells (zonC zn) 32)).alloc (by simp; have := hbel.size; omega) (.cells (planC F) 38))
    have HC := hide hc
    unfold zonV planV planC
    clear hbel hc)
  go_ret2
  exact ⟨unhide HB, by rw [unhide HC]; rfl⟩
end Go.Proofs.YtnnhnihgeheahaaDoor
