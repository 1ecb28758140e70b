/- The program's sets of numbers: has, from. -/
import Derived.Test.YtnnhnihgeheahaaGreatDoorNumE
import Derived.Test.YtnnhnihgeheahaaGreatDoorShelf
import Derived.Laws.Bits64b
import Derived.Deep.QuietTactic
import Derived.BigQuiet
set_option linter.unusedSimpArgs false
set_option linter.unusedVariables false
namespace Go.Proofs.YtnnhnihgeheahaaGreatDoor
open Go.RowKit

theorem div_pow (N n : Nat) : (N : Int) / 2 ^ n = ((N / 2 ^ n : Nat) : Int) := by simp

set_option maxHeartbeats 1000000 in
theorem code_has (h : Nat → Bool) (n : Nat) (x n' : Int) (e0 : x = Cal.nb h) (e1 : n' = n) (w : World) (hn : n < 64) :
    Calls Tryz.prog 167 #[.int .u64 x, .int .i64 n'] w fun e w' => e = .returned (.bool (h n)) ∧ w' = w := by
  subst e0 e1
  have hb := Cal.nb_lt h
  have hbit := Cal.has_bits h n hn
  obtain ⟨N, hN⟩ : ∃ N, N = Cal.nb h := ⟨_, rfl⟩
  rw [← hN] at hb hbit
  rw [← hN]
  have HB := hide hbit
  clear hN hbit
  go_enter Tryz.func167, Tryz.ntmps167
  go_wp2
  go_ret
  refine ⟨ret_bool ?_, rfl⟩
  have h1 := unhide HB
  have h2 : N / 2 ^ n ≤ N := Nat.div_le_self _ _
  rw [div_pow, show (1 : Int) = ((1 : Nat) : Int) from rfl, bits_and_u64_nat _ _ (by omega) (by omega), Nat.and_one_is_mod, h1]
  cases h n <;> rfl

theorem code_tz (r : Nat) (x : Int) (e : x = r) (w : World) (hr : r < 18446744073709551616) (hT : TabAt 6 Lib.deBruijn64tab w) :
    Calls Tryz.prog 188 #[.int .u64 x] w fun e w' => e = .returned (.int .i64 ((Lib.ctz 64 r : Nat) : Int)) ∧ w' = w := by
  subst e
  exact Any7.bits_TrailingZeros64 Tryz.lays29 r hr w (fun _ => hT)
theorem ctz_le (r : Nat) (hr : r < 18446744073709551616) : Lib.ctz 64 r ≤ 64 := by
  unfold Lib.ctz
  split
  · exact Nat.le_refl _
  · rename_i h
    obtain ⟨_, _, h2⟩ := Lib.ctzFrom_spec 64 r (by omega) (by simpa using hr)
    omega

theorem ret_ib {a b : Int} {c d : Bool} (h1 : a = b) (h2 : c = d) : Ending.returned (.tuple #[.int .i64 a, .bool c]) = .returned (.tuple #[.int .i64 b, .bool d]) := by rw [h1, h2]
/-- What 'from' says. -/
def FromSaid (h : Nat → Bool) (n : Nat) (e : Ending) : Prop := ∃ (y : Nat) (ok : Bool), e = .returned (.tuple #[.int .i64 (y : Int), .bool ok]) ∧ y ≤ 200 ∧ Cal.Least h n y ok

set_option maxHeartbeats 1000000 in
theorem code_from (h : Nat → Bool) (n : Nat) (x n' : Int) (e0 : x = Cal.nb h) (e1 : n' = n) (w : World) (hn : n < 64) (hT : TabAt 6 Lib.deBruijn64tab w) :
    Calls Tryz.prog 169 #[.int .u64 x, .int .i64 n'] w fun e w' => FromSaid h n e ∧ w' = w := by
  subst e0 e1
  have hb := Cal.nb_lt h
  have hl := Cal.least_bits h n
  obtain ⟨N, hN⟩ : ∃ N, N = Cal.nb h := ⟨_, rfl⟩
  rw [← hN] at hb hl
  rw [← hN]
  obtain ⟨r, hr⟩ : ∃ r, r = N / 2 ^ n := ⟨_, rfl⟩
  have hri : (N : Int) / 2 ^ n = r := by rw [hr, div_pow]
  have hrb : r < 18446744073709551616 := by rw [hr]; exact Nat.lt_of_le_of_lt (Nat.div_le_self _ _) hb
  obtain ⟨c, hc⟩ : ∃ c, c = Lib.ctz 64 r := ⟨_, rfl⟩
  have hcb := ctz_le r hrb
  rw [← hr, ← hc] at hl
  rw [← hc] at hcb
  have HL := hide hl
  have HT := hide hT
  have HC := hide hc
  clear hN hl hT hr hc
  go_enter Tryz.func169, Tryz.ntmps169
  go_wp2_with (go_at_call 188; refine (code_tz r _ (by first | omega | rfl) _ hrb (unhide HT)).mono ?_; rintro e w1 ⟨rfl, rfl⟩; rw [← unhide HC])
  go_ret2
  exact ⟨⟨n + c, decide (r ≠ 0), ret_ib (by omega) (by by_cases h0 : r = 0 <;> simp [h0] <;> omega), by omega, unhide HL⟩, rfl⟩

end Go.Proofs.YtnnhnihgeheahaaGreatDoor
