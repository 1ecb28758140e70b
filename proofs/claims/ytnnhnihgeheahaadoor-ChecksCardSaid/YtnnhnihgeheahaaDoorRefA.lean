/- The reference reader's leaves: peek, fail, eat, digit. -/
import Derived.Test.YtnnhnihgeheahaaDoorChecked
import Derived.Test.YtnnhnihgeheahaaDoorBase
set_option linter.unusedSimpArgs false
set_option linter.unusedVariables false
namespace Go.Proofs.YtnnhnihgeheahaaDoor
open Go.RowKit

set_option maxHeartbeats 400000 in
theorem ref_digit (c : Int) (w : World) : Calls Tryd.prog 25 #[.int .u8 c] w fun e w' => e = .returned (.bool (decide (48 ≤ c) && decide (c ≤ 57))) ∧ w' = w := by
  by_cases h : 48 ≤ c
  all_goals
    go_enter Tryd.func25, Tryd.ntmps25
    go_wp2
    go_ret
    exact ⟨ret_bool (by simp; try omega), rfl⟩

set_option maxHeartbeats 400000 in
theorem ref_peek (b : Nat) (s : ByteArray) (i : Nat) (bad : Bool) (a : Nat) (T : TypeId) (w : World) (hb : Blk w b (rdr s i bad a) T) (_hs : s.size ≤ 281474976710656) (_hi : i ≤ s.size + 1) :
    Calls Tryd.prog 12 #[.pointer (some ⟨b, 0, none⟩)] w fun e w' => e = .returned (.int .u8 (peekV s i bad)) ∧ ∃ n, w' = w.drewN n := by
  have h0 := hb.cell 0
  have h1 := hb.cell 1
  have h2 := hb.cell 2
  simp [rdr] at h0 h1 h2
  clear hb
  cases bad
  · by_cases hlt : i < s.size
    · have hd : decide ((s.size : Int) ≤ i) = false := by simp; omega
      go_enter Tryd.func12, Tryd.ntmps12
      go_wp2
      go_quiet (fail)
      go_wp2
      go_quiet (fail)
      go_wp2
      go_ret
      exact ⟨ret_int (by simp [peekV, byteAt_in hlt]), _, World.drewN_drewN ..⟩
    · have hd : decide ((s.size : Int) ≤ i) = true := by simp; omega
      go_enter Tryd.func12, Tryd.ntmps12
      go_wp2
      go_quiet (fail)
      go_wp2
      go_ret
      exact ⟨ret_int (by simp [peekV, byteAt_out (Nat.le_of_not_lt hlt)]), _, rfl⟩
  · go_enter Tryd.func12, Tryd.ntmps12
    go_wp2
    go_quiet (fail)
    go_wp2
    go_ret
    exact ⟨ret_int (by simp [peekV]), _, rfl⟩

/-- What 'fail' leaves. -/
def failed (s : ByteArray) (i : Nat) (bad : Bool) (a p : Nat) : Array Value := rdr s i true (if bad then a else p)

set_option maxHeartbeats 400000 in
theorem ref_fail (b : Nat) (s : ByteArray) (i : Nat) (bad : Bool) (a p : Nat) (T : TypeId) (w : World) (hb : Blk w b (rdr s i bad a) T) :
    Calls Tryd.prog 13 #[.pointer (some ⟨b, 0, none⟩), .int .i64 p] w fun e w' => e = .returned (.tuple #[]) ∧ Blk w' b (failed s i bad a p) T ∧ Only [b] w w' := by
  have h2 := hb.cell 2
  have h3 := hb.cell 3
  have hf := hb.frozen
  have HB : Hid (Blk w b (rdr s i bad a) T) := hb
  simp [rdr] at h2 h3
  clear hb
  cases bad
  · go_enter Tryd.func13, Tryd.ntmps13
    go_wp2
    go_end0
    exact ⟨rfl, by simpa [failed, rdr] using (HB.out.set 2 (.bool true)).set 3 (.int .i64 p), ((Only.refl _ _).setCell (by simp) _).setCell (by simp) _⟩
  · go_enter Tryd.func13, Tryd.ntmps13
    go_wp2
    go_end0
    exact ⟨rfl, by simpa [failed, rdr] using HB.out, Only.refl _ _⟩

set_option maxHeartbeats 400000 in
theorem ref_eat (b : Nat) (s : ByteArray) (σ : Except Nat Nat) (c : Nat) (T : TypeId) (w : World) (hb : Holds w b T s σ) (hs : s.size ≤ 281474976710656) (hc : 0 < c) :
    Calls Tryd.prog 15 #[.pointer (some ⟨b, 0, none⟩), .int .u8 c] w fun e w' => e = .returned (.tuple #[]) ∧ Holds w' b T s (σ.bind (pEat s c)) ∧ Only [b] w w' := by
  obtain ⟨i, bad, a, hi, hB, hfin⟩ : ∃ i bad a, i ≤ s.size + 1 ∧ Blk w b (rdr s i bad a) T ∧ ∀ w', Blk w' b (if peekV s i bad = c then rdr s (i + 1) bad a else failed s i bad a i) T → Holds w' b T s (σ.bind (pEat s c)) := by
    cases σ with
    | ok j =>
      obtain ⟨hj, a, h⟩ := hb
      refine ⟨j, false, a, hj, h, fun w' h' => ?_⟩
      by_cases he : byteAt s j = c
      · have hlt : j < s.size := by
          rcases Nat.lt_or_ge j s.size with h | h
          · exact h
          · rw [byteAt_out h] at he; omega
        simp [peekV, he] at h'
        simp only [Except.bind, pEat, he, if_true]
        exact ⟨by omega, a, h'⟩
      · simp [peekV, he, failed] at h'
        simp only [Except.bind, pEat, he, if_false]
        exact ⟨j, hj, h'⟩
    | error p =>
      obtain ⟨i, hi, h⟩ := hb
      refine ⟨i, true, p, hi, h, fun w' h' => ⟨i, hi, ?_⟩⟩
      simpa [peekV, failed, show ¬ (0 = c) by omega] using h'
  have h0 := hB.cell 0
  have h1 := hB.cell 1
  have hf := hB.frozen
  have HB : Hid (Blk w b (rdr s i bad a) T) := hB
  have HF := hide hfin
  simp [rdr] at h0 h1
  clear hb hB hfin
  by_cases hlt : i < s.size
  · have hd : decide ((i : Int) < s.size) = true := by simp; omega
    by_cases he : peekV s i bad = c
    · have hq : ((peekV s i bad : Int) == c) = true := by simp; omega
      have HE := hide he
      clear he
      go_enter Tryd.func15, Tryd.ntmps15
      go_wp2
      go_quiet ((go_at_call 12; refine Calls.quiet_of (ref_peek b s i bad a T _ ?_ hs hi); exact HB.out))
      go_wp2
      go_end0
      refine ⟨rfl, unhide HF _ ?_, (((Only.refl _ _).drewN _).setCell (by simp) _)⟩
      rw [if_pos (unhide HE)]
      simpa [rdr] using (HB.out.drewN nq).set 1 (.int .i64 ((i : Int) + 1))
    · have hq : ((peekV s i bad : Int) == c) = false := by simp; omega
      have HE := hide he
      clear he
      go_enter Tryd.func15, Tryd.ntmps15
      go_wp2
      go_quiet ((go_at_call 12; refine Calls.quiet_of (ref_peek b s i bad a T _ ?_ hs hi); exact HB.out))
      go_wp2_with (go_at_call 13; refine (ref_fail b s i bad a i T _ ?_).mono ?_; · exact HB.out)
      rintro e w' ⟨rfl, hb', ho⟩
      go_wp2
      go_end0
      refine ⟨rfl, unhide HF _ ?_, ((Only.refl _ _).drewN _).trans ho⟩
      rw [if_neg (unhide HE)]
      exact hb'
  · have hd : decide ((i : Int) < s.size) = false := by simp; omega
    go_enter Tryd.func15, Tryd.ntmps15
    go_wp2
    go_quiet ((go_at_call 12; refine Calls.quiet_of (ref_peek b s i bad a T _ ?_ hs hi); exact HB.out))
    go_wp2_with (go_at_call 13; refine (ref_fail b s i bad a i T _ ?_).mono ?_; · exact HB.out)
    rintro e w' ⟨rfl, hb', ho⟩
    go_wp2
    go_end0
    refine ⟨rfl, unhide HF _ ?_, ((Only.refl _ _).drewN _).trans ho⟩
    rw [if_neg (by unfold peekV; rw [byteAt_out (by omega)]; simp; omega)]
    exact hb'
/-- The same, at a number that is written out. -/
theorem ref_eat' (b : Nat) (s : ByteArray) (σ : Except Nat Nat) (c : Nat) (ci : Int) (hci : ci = c) (T : TypeId) (w : World) (hb : Holds w b T s σ) (hs : s.size ≤ 281474976710656) (hc : 0 < c) :
    Calls Tryd.prog 15 #[.pointer (some ⟨b, 0, none⟩), .int .u8 ci] w fun e w' => e = .returned (.tuple #[]) ∧ Holds w' b T s (σ.bind (pEat s c)) ∧ Only [b] w w' := by
  subst hci; exact ref_eat b s σ c T w hb hs hc
theorem ref_fail' (b : Nat) (s : ByteArray) (i : Nat) (bad : Bool) (a p : Nat) (pi : Int) (hpi : pi = p) (T : TypeId) (w : World) (hb : Blk w b (rdr s i bad a) T) :
    Calls Tryd.prog 13 #[.pointer (some ⟨b, 0, none⟩), .int .i64 pi] w fun e w' => e = .returned (.tuple #[]) ∧ Blk w' b (failed s i bad a p) T ∧ Only [b] w w' := by
  subst hpi; exact ref_fail b s i bad a p T w hb
end Go.Proofs.YtnnhnihgeheahaaDoor
