/- The program's clock: shown. -/
import Derived.Test.YtlelhahklepdiaaGreatDoorClkA
import Derived.Test.YtlelhahklepdiaaGreatDoorRefU
set_option linter.unusedSimpArgs false
set_option linter.unusedVariables false
namespace Go.Proofs.YtlelhahklepdiaaGreatDoor
open Go.RowKit

theorem run_str2 (a b c : Int) (w : World) : (Instr.field 100 (.agg #[.int .i64 a, .int .i64 b, .int .i64 c]) 2).run Tryz.prog w = .ok (.int .i64 c) w := by kernel_rfl

set_option maxRecDepth 4000 in
set_option maxHeartbeats 4000000 in
theorem code_shown (z : Zon) (t : Int) (w : World) (hM : Months w) (hz : Cal.Fine z) (ht1 : 0 ≤ t) (ht2 : t ≤ 70000000) :
    Calls Tryz.prog 28 #[zonV z, .int .i64 t] w fun e w' => e = .returned (.int .i64 (Cal.shown z t)) ∧ Only [] w w' := by
  have hoff := hz.good.offset
  have hshb := hz.good.shift
  have hst : ∀ (s : Int) (w' : World), s = t + z.offset → Months w' → Calls Tryz.prog 52 #[zonV z, .int .i64 s] w' fun e w'' => (∃ a b ah : Int, e = .returned (.agg #[.int .i64 a, .int .i64 b, .int .i64 ah]) ∧ t + z.offset + ah = Cal.shown z t ∧ 0 ≤ ah ∧ ah ≤ 120) ∧ Only [] w' w'' := by
    intro s w' hs hM'
    refine (code_stretchAt z s w' hM' hz (by omega) (by omega)).mono ?_
    rintro e w'' ⟨⟨a, b, ah, su, rfl, hS, hah, _, _⟩, ho⟩
    have h1 := hS.same s hS.lo hS.hi
    refine ⟨⟨a, b, ah, rfl, ?_, ?_, ?_⟩, ho⟩
    · unfold Cal.shown
      rw [← hs, h1, hah]
    · rw [hah]; split <;> omega
    · rw [hah]; split <;> omega
  obtain ⟨X, hX⟩ : ∃ X, X = Cal.shown z t := ⟨_, rfl⟩
  rw [← hX] at hst ⊢
  have HM := hide hM
  clear hz hM hX
  obtain ⟨off, sh, ⟨m1, k1, d1, t1⟩, ⟨m2, k2, d2, t2⟩⟩ := z
  simp only at *
  unfold zonV
  unfold zonV at hst
  have HST := hide hst
  clear hst
  have HO0 := hide ((Only.refl [] w).alloc (.cells (zonA off sh m1 k1 d1 t1 m2 k2 d2 t2) 60))
  have HM0 := hide ((unhide HM).alloc (.cells (zonA off sh m1 k1 d1 t1 m2 k2 d2 t2) 60))
  have hfd := run_str2
  go_enter Tryz.func28, Tryz.ntmps28
  go_wp2_with (
    go_at_call 52
    refine (unhide HST _ _ rfl (unhide HM0)).mono ?_
    rintro e w1 ⟨⟨a, b, ah, rfl, hah, ha1, ha2⟩, ho⟩
    have HAH := hide hah
    have HO1 := hide ((unhide HO0).trans ho)
    clear ho HO0 hah)
  go_ret
  exact ⟨ret_int (by have := unhide HAH; omega), unhide HO1⟩
end Go.Proofs.YtlelhahklepdiaaGreatDoor
