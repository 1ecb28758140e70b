/- The reference reader's two digits and clock. -/
import Derived.Test.YtnnhnihgeheahaaDoorRefB
set_option linter.unusedSimpArgs false
set_option linter.unusedVariables false
namespace Go.Proofs.YtnnhnihgeheahaaDoor
open Go.RowKit

theorem two_step (v d : Nat) (hv : v ≤ 9) (h1 : 48 ≤ d) (h2 : d ≤ 57) : (Value.int .i64 (wrap64 (wrap64 (10 * (v : Int) + wrap64 (d : Int)) - 48))) = Value.int .i64 ((10 * v + (d - 48) : Nat) : Int) := num_step v d (by omega) h1 h2

set_option maxHeartbeats 1000000 in
theorem ref_two (b : Nat) (s : ByteArray) (σ : Except Nat Nat) (T : TypeId) (w : World) (hb : Holds w b T s σ) (hs : s.size ≤ 281474976710656) :
    Calls Tryd.prog 24 #[.pointer (some ⟨b, 0, none⟩)] w fun e w' =>
      ∃ v : Nat, e = .returned (.int .i64 v) ∧ Holds w' b T s (posOf (σ.bind (pTwo s))) ∧ Only [b] w w' ∧ (∀ x, σ.bind (pTwo s) = .ok x → v = x.2) ∧ v ≤ 99 := by
  cases σ with
  | error p =>
    obtain ⟨i, hi', h⟩ := hb
    have h1 := h.cell 1
    simp [rdr] at h1
    have HB := hide h
    clear h
    go_enter Tryd.func24, Tryd.ntmps24
    go_wp2
    refine wp_loop_rounds 1 ?_
    rw [rounds_succ]
    go_wp2_with (go_at_call 12; refine (ref_peek b s i true p T _ ?_ hs hi').mono ?_; · exact unhide HB)
    rintro e w' ⟨rfl, n, rfl⟩
    rw [show ((peekV s i true : Nat) : Int) = 0 from rfl]
    go_wp2_with (go_at_call 25; refine (ref_digit 0 _).mono ?_)
    rintro e w' ⟨rfl, rfl⟩
    go_wp2_with (go_at_call 13; refine (ref_fail b s i true p i T _ ?_).mono ?_; · exact unhide HB)
    rintro e w' ⟨rfl, hb', ho⟩
    go_wp2
    go_ret
    exact ⟨0, rfl, ⟨i, hi', hb'⟩, ((Only.refl _ _).drewN _).trans ho, fun x hx => (by cases hx), by omega⟩
  | ok i =>
    obtain ⟨hi', a, h⟩ := hb
    have h0 := h.cell 0
    have h1 := h.cell 1
    have hf := h.frozen
    simp [rdr] at h0 h1
    have HB := hide h
    clear h
    cases hD : isDig (byteAt s i) with
    | false =>
      have HD := hide hD
      clear hD
      go_enter Tryd.func24, Tryd.ntmps24
      go_wp2
      refine wp_loop_rounds 1 ?_
      rw [rounds_succ]
      go_wp2_with (go_at_call 12; refine (ref_peek b s i false a T _ ?_ hs hi').mono ?_; · exact unhide HB)
      rintro e w' ⟨rfl, n, rfl⟩
      go_wp2_with (go_at_call 25; refine (ref_digit _ _).mono ?_)
      rintro e w' ⟨rfl, rfl⟩
      rw [dig_of, show peekV s i false = byteAt s i from rfl, unhide HD]
      go_wp2_with (go_at_call 13; refine (ref_fail b s i false a i T _ ?_).mono ?_; · exact unhide HB)
      rintro e w' ⟨rfl, hb', ho⟩
      go_wp2
      go_ret
      refine ⟨0, rfl, ?_, ((Only.refl _ _).drewN _).trans ho, ?_, by omega⟩
      · simp only [Except.bind, pTwo, unhide HD, if_true, posOf]
        exact ⟨i, hi', hb'⟩
      · intro x hx
        simp only [Except.bind, pTwo, unhide HD, if_true] at hx
        cases hx
    | true =>
      have hin : i < s.size := by
        rcases Nat.lt_or_ge i s.size with h | h
        · exact h
        · rw [byteAt_out h, isDig_zero] at hD; cases hD
      have hbd : 48 ≤ byteAt s i ∧ byteAt s i ≤ 57 := by simpa [isDig] using hD
      have hB1 : (48 : Int) ≤ (s[i].toNat : Int) ∧ (s[i].toNat : Int) ≤ 57 := by rw [byteAt_in hin] at hbd; omega
      obtain ⟨hB1, hB2⟩ := hB1
      have HD := hide hD
      clear hD
      have hx : ∀ wx, Only [b] w wx → Blk wx b (rdr s i false a) T → Only [b] w (wx.setCell ⟨b, 1, none⟩ (.int .i64 ((i : Int) + 1))) ∧ Blk (wx.setCell ⟨b, 1, none⟩ (.int .i64 ((i : Int) + 1))) b (rdr s (i + 1) false a) T :=
        fun wx h1 h2 => ⟨h1.setCell (by simp) _, by simpa [rdr] using h2.set 1 (.int .i64 ((i : Int) + 1))⟩
      have HX := hide hx
      clear hx
      go_enter Tryd.func24, Tryd.ntmps24
      go_wp2
      refine wp_loop_rounds 3 ?_
      rw [rounds_succ]
      go_wp2_with (go_at_call 12; refine (ref_peek b s i false a T _ ?_ hs hi').mono ?_; · exact unhide HB)
      rintro e w' ⟨rfl, n, rfl⟩
      go_wp2_with (go_at_call 25; refine (ref_digit _ _).mono ?_)
      rintro e w' ⟨rfl, rfl⟩
      rw [dig_of, show peekV s i false = byteAt s i from rfl, unhide HD]
      go_wp2
      go_quiet (fail)
      go_wp2
      have hst := unhide HX _ ((Only.refl _ _).drewN (n + nq)) (unhide HB)
      revert hst
      generalize ((w.drewN (n + nq)).setCell { block := b, off := 1 } (Value.int IntKind.i64 ((i : Int) + 1))) = w1
      intro ⟨hO, hB⟩
      obtain ⟨v1, hv1, hv9⟩ : ∃ v1 : Nat, (s[i].toNat : Int) - 48 = v1 ∧ v1 ≤ 9 := ⟨s[i].toNat - 48, by omega, by omega⟩
      have hv1' : v1 = byteAt s i - 48 := by rw [byteAt_in hin]; omega
      rw [hv1]
      have HV1 := hide hv1'
      have hj' : i + 1 ≤ s.size + 1 := by omega
      have HHO := hide hO
      have HHB := hide hB
      clear h0 h1 hf hv1 hv1' hB1 hB2 hbd hO
      have h0 := hB.cell 0
      have h1 := hB.cell 1
      have hf := hB.frozen
      simp only [rdr] at h0 h1
      clear hB
      cases hD : isDig (byteAt s (i + 1)) with
      | false =>
        have HD1 := hide hD
        clear hD
        obtain ⟨j, hj⟩ : ∃ j, j = i + 1 := ⟨_, rfl⟩
        rw [← hj] at h1 HHB HD1 hj'
        have HJ := hide hj
        clear hj
        simp at h0 h1
        rw [rounds_succ]
        go_wp2_with (go_at_call 12; refine (ref_peek b s j false a T _ ?_ hs hj').mono ?_; · exact unhide HHB)
        rintro e w' ⟨rfl, n, rfl⟩
        go_wp2_with (go_at_call 25; refine (ref_digit _ _).mono ?_)
        rintro e w' ⟨rfl, rfl⟩
        rw [dig_of, show peekV s j false = byteAt s j from rfl, unhide HD1]
        go_wp2_with (go_at_call 13; refine (ref_fail b s j false a j T _ ?_).mono ?_; · exact unhide HHB)
        rintro e w' ⟨rfl, hb', ho⟩
        go_wp2
        go_ret
        have ej := unhide HJ
        have e1 := unhide HD1
        subst ej
        refine ⟨0, rfl, ?_, ((unhide HHO).drewN _).trans ho, ?_, by omega⟩
        · simp only [Except.bind, pTwo, unhide HD, e1, if_true, posOf]
          exact ⟨i + 1, hj', hb'⟩
        · intro x hx
          simp [Except.bind, pTwo, unhide HD, e1] at hx
      | true =>
        obtain ⟨j, hj⟩ : ∃ j, j = i + 1 := ⟨_, rfl⟩
        rw [← hj] at h1 HHB hj' hD
        have HJ := hide hj
        clear hj
        have hin1 : j < s.size := by
          rcases Nat.lt_or_ge j s.size with h | h
          · exact h
          · rw [byteAt_out h, isDig_zero] at hD; cases hD
        have hbd : 48 ≤ byteAt s j ∧ byteAt s j ≤ 57 := by simpa [isDig] using hD
        have hB1 : (48 : Int) ≤ (s[j].toNat : Int) ∧ (s[j].toNat : Int) ≤ 57 := by rw [byteAt_in hin1] at hbd; omega
        have HD1 := hide hD
        clear hD
        have hx : ∀ wx, Only [b] w wx → Blk wx b (rdr s j false a) T → Only [b] w (wx.setCell ⟨b, 1, none⟩ (.int .i64 ((j : Int) + 1))) ∧ Blk (wx.setCell ⟨b, 1, none⟩ (.int .i64 ((j : Int) + 1))) b (rdr s (j + 1) false a) T :=
          fun wx h1 h2 => ⟨h1.setCell (by simp) _, by simpa [rdr] using h2.set 1 (.int .i64 ((j : Int) + 1))⟩
        have HX := hide hx
        obtain ⟨hB1, hB2⟩ := hB1
        have HBD := hide hbd
        clear hx hbd
        simp at h0 h1
        rw [rounds_succ]
        go_wp2_with (go_at_call 12; refine (ref_peek b s j false a T _ ?_ hs hj').mono ?_; · exact unhide HHB)
        rintro e w' ⟨rfl, n, rfl⟩
        go_wp2_with (go_at_call 25; refine (ref_digit _ _).mono ?_)
        rintro e w' ⟨rfl, rfl⟩
        rw [dig_of, show peekV s j false = byteAt s j from rfl, unhide HD1]
        go_wp2
        go_quiet (fail)
        go_wp2
        rw [rounds_succ]
        go_wp2
        go_ret
        have hst := unhide HX _ ((unhide HHO).drewN (n + nq)) (unhide HHB)
        have ej := unhide HJ
        have e1 := unhide HD1
        have e2 := unhide HBD
        have e3 := byteAt_in hin1
        subst ej
        refine ⟨10 * v1 + (byteAt s (i + 1) - 48), ret_int ?_, ?_, hst.1, ?_, ?_⟩
        · omega
        · simp only [Except.bind, pTwo, unhide HD, e1, posOf]
          exact ⟨by omega, a, hst.2⟩
        · intro x hx
          simp [Except.bind, pTwo, unhide HD, e1] at hx
          rw [← hx, unhide HV1]
        · omega

set_option maxHeartbeats 1000000 in
theorem ref_clock (b : Nat) (s : ByteArray) (σ : Except Nat Nat) (lo hi p : Nat) (T : TypeId) (w : World) (hb : Holds w b T s σ) (hs : s.size ≤ 281474976710656) (hlo : lo ≤ 10000) (hhi : hi ≤ 10000) :
    Calls Tryd.prog 14 #[.pointer (some ⟨b, 0, none⟩), .int .i64 lo, .int .i64 hi, .int .i64 p] w fun e w' =>
      ∃ v : Nat, e = .returned (.int .i64 v) ∧ Holds w' b T s (posOf (σ.bind (pClock s lo hi p))) ∧ Only [b] w w' ∧ (∀ x, σ.bind (pClock s lo hi p) = .ok x → v = x.2) ∧ v ≤ 10000 := by
  have HB := hide hb
  clear hb
  go_enter Tryd.func14, Tryd.ntmps14
  go_wp2_with (go_at_call 24; refine (ref_two b s σ T _ ?_ hs).mono ?_; · exact unhide HB)
  rintro e w1 ⟨h, rfl, hb1, ho1, hv1, hl1⟩
  have HB1 := hide hb1
  have HO1 := hide ho1
  have HV1 := hide hv1
  clear hb1 ho1 hv1
  go_wp2_with (go_at_call 15; refine (ref_eat' b s _ 58 58 rfl T _ (unhide HB1) hs (by decide)).mono ?_)
  rintro e w2 ⟨rfl, hb2, ho2⟩
  have HB2 := hide hb2
  have HO2 := hide (Only.trans (unhide HO1) ho2)
  clear hb2 ho2 HO1 HB1
  go_wp2_with (go_at_call 24; refine (ref_two b s _ T _ (unhide HB2) hs).mono ?_)
  rintro e w3 ⟨m, rfl, hb3, ho3, hv3, hl3⟩
  have HO3 := hide (Only.trans (unhide HO2) ho3)
  have HB3 := hide hb3
  have HV3 := hide hv3
  have hmul : 60 * (h : Int) ≤ 5940 := by omega
  obtain ⟨i, bad, a, hi', hblk, hfin⟩ : ∃ i bad a, i ≤ s.size + 1 ∧ Blk w3 b (rdr s i bad a) T ∧ ∀ w',
      (if 59 < m ∨ 60 * h + m < lo ∨ hi < 60 * h + m then Blk w' b (failed s i bad a p) T else Blk w' b (rdr s i bad a) T) →
      Holds w' b T s (posOf (σ.bind (pClock s lo hi p))) ∧ (∀ x, σ.bind (pClock s lo hi p) = .ok x → 60 * h + m = x.2) := by
    rcases clock_cases s σ lo hi p h m (unhide HV1) hv3 with ⟨q, e1, e2⟩ | ⟨k, e1, e2⟩
    · rw [e1] at hb3
      obtain ⟨i, hi', hblk⟩ := hb3
      refine ⟨i, true, q, hi', hblk, fun w' hw => ?_⟩
      rw [e2]
      refine ⟨⟨i, hi', ?_⟩, fun x hx => by cases hx⟩
      split at hw <;> simpa [failed] using hw
    · rw [e1] at hb3
      obtain ⟨hk, a, hblk⟩ := hb3
      refine ⟨k, false, a, hk, hblk, fun w' hw => ?_⟩
      rw [e2]
      split at hw
      · rw [if_pos (by assumption)]
        exact ⟨⟨k, hk, hw⟩, fun x hx => by cases hx⟩
      · rw [if_neg (by assumption)]
        exact ⟨⟨hk, a, hw⟩, fun x hx => by cases hx; rfl⟩
  have HBK := hide hblk
  have HF := hide hfin
  clear hb3 ho3 hv3 hblk hfin HB2 HO2
  have hv : 60 * h + m ≤ 10000 := by omega
  by_cases hc : 59 < m ∨ 60 * h + m < lo ∨ hi < 60 * h + m
  · go_wp2_with fail
    all_goals
      go_at_call 13
      refine (ref_fail b s i bad a p T _ (unhide HBK)).mono ?_
      rintro e w' ⟨rfl, hb', ho⟩
      go_wp2
      go_ret
      have := unhide HF w' (by rw [if_pos hc]; exact hb')
      exact ⟨60 * h + m, ret_int (by omega), this.1, (unhide HO3).trans ho, this.2, hv⟩
  · have hc1 : decide (59 < (m : Int)) = false := by simp; omega
    have hc2 : decide (60 * (h : Int) + m < lo) = false := by simp; omega
    have hc3 : decide ((hi : Int) < 60 * (h : Int) + m) = false := by simp; omega
    go_wp2
    go_ret
    have := unhide HF w3 (by rw [if_neg hc]; exact unhide HBK)
    exact ⟨60 * h + m, ret_int (by omega), this.1, unhide HO3, this.2, hv⟩

theorem ref_clock' (b : Nat) (s : ByteArray) (σ : Except Nat Nat) (lo hi p : Nat) (lo' hi' p' : Int) (e1 : lo' = lo) (e2 : hi' = hi) (e3 : p' = p) (T : TypeId) (w : World) (hb : Holds w b T s σ) (hs : s.size ≤ 281474976710656) (hlo : lo ≤ 10000) (hhi : hi ≤ 10000) :
    Calls Tryd.prog 14 #[.pointer (some ⟨b, 0, none⟩), .int .i64 lo', .int .i64 hi', .int .i64 p'] w fun e w' =>
      ∃ v : Nat, e = .returned (.int .i64 v) ∧ Holds w' b T s (posOf (σ.bind (pClock s lo hi p))) ∧ Only [b] w w' ∧ (∀ x, σ.bind (pClock s lo hi p) = .ok x → v = x.2) ∧ v ≤ 10000 := by
  subst e1 e2 e3; exact ref_clock b s σ lo hi p T w hb hs hlo hhi
end Go.Proofs.YtnnhnihgeheahaaDoor
