/- The program's sets of numbers: eachOf. -/
import Derived.Test.YtnnhnihgeheahaaDoorChecked
import Derived.Test.YtnnhnihgeheahaaDoorBit
import Derived.Laws.Bits64b
set_option linter.unusedSimpArgs false
set_option linter.unusedVariables false
namespace Go.Proofs.YtnnhnihgeheahaaDoor
open Go.RowKit

theorem pow_lt64 {j : Nat} (hj : j < 64) : 2 ^ j < 18446744073709551616 := by
  have : 2 ^ j < 2 ^ 64 := Nat.pow_lt_pow_right (by decide) hj
  simpa using this
theorem wrap_pow {j : Nat} (hj : j < 64) : IntKind.u64.wrap ((2 : Int) ^ j) = ((2 ^ j : Nat) : Int) := by
  have := pow_lt64 hj
  have e : ((2 : Int) ^ j) = ((2 ^ j : Nat) : Int) := by simp
  rw [e]
  generalize 2 ^ j = p at this ⊢
  rw [IntKind.wrap_u64]
  omega

set_option maxHeartbeats 1000000 in
theorem code_eachOf (a b n : Nat) (a' b' n' : Int) (e0 : a' = a) (e1 : b' = b) (e2 : n' = n) (w : World) (hb : b < 60) (hn : 0 < n) (hn2 : n ≤ 1000) (ha : a < 60) :
    Calls Tryd.prog 32 #[.int .i64 a', .int .i64 b', .int .i64 n'] w fun e w' => e = .returned (.int .u64 (Cal.nb (fillB (fun _ => false) a b n))) ∧ w' = w := by
  subst e0 e1 e2
  go_enter Tryd.func32, Tryd.ntmps32
  go_wp2
  go_loop [7, 8] (fun x k => ∃ i j N : Nat, Hid (j = a + i * n ∧ N = Cal.nb (Cal.upto a n i) ∧ (j ≤ b + n ∨ i = 0)) ∧ j ≤ 2000 ∧ k = .int .i64 (j : Int) ∧ x = .int .u64 (N : Int)) (fun _ k => 2000 - (intOf k).toNat)
  case atStart => exact ⟨0, a, 0, ⟨by omega, by rw [Cal.upto_zero], .inr rfl⟩, by omega, rfl, rfl⟩
  case round =>
    obtain ⟨i, j, N, HJ, hj2, rfl, rfl⟩ := hrel
    by_cases hlt : j ≤ b
    · go_wp2
      go_round
      case rel =>
        obtain ⟨hj, hN, _⟩ := unhide HJ
        refine ⟨i + 1, j + n, N ||| 2 ^ j, ⟨by rw [hj, Nat.succ_mul]; omega, ?_, .inl (by omega)⟩, by omega, by go_num, ?_⟩
        · rw [hN, hj]; exact Cal.upto_step a n i hn (by omega)
        · rw [wrap_pow (by omega), bits_or_u64_nat _ _ (by rw [hN]; exact Cal.nb_lt _) (pow_lt64 (by omega))]
      case measure => simp [intOf]; omega
    · go_wp2
      go_ret
      obtain ⟨hj, hN, hd⟩ := unhide HJ
      refine ⟨?_, rfl⟩
      rcases Cal.upto_end a b n i hb (by omega) (by omega) with h | h
      · show Ending.returned (.int .u64 (N : Int)) = _
        rw [hN, h]
      · omega
end Go.Proofs.YtnnhnihgeheahaaDoor
