/- The program's scanner: digits and times. -/
import Derived.Test.YtnnhnihgeheahaaDoorCodeA
set_option linter.unusedSimpArgs false
set_option linter.unusedVariables false
namespace Go.Proofs.YtnnhnihgeheahaaDoor
open Go.RowKit

set_option maxHeartbeats 400000 in
theorem c_atDigit (b : Nat) (s : ByteArray) (i : Nat) (bad : Bool) (a : Nat) (T : TypeId) (w : World) (hb : Blk w b (rdr s i bad a) T) (hs : s.size ≤ 281474976710656) (hi : i ≤ s.size) :
    Calls Tryd.prog 36 #[.pointer (some ⟨b, 0, none⟩)] w fun e w' => e = .returned (.bool (!bad && isDig (byteAt s i))) ∧ ∃ n, w' = w.drewN n := by
  have h0 := hb.cell 0
  have h1 := hb.cell 1
  have h2 := hb.cell 2
  simp [rdr] at h0 h1 h2
  clear hb
  cases bad
  · by_cases hlt : i < s.size
    · have hd : decide ((i : Int) < s.size) = true := by simp; omega
      have hby := byteAt_in hlt
      by_cases h48 : 48 ≤ byteAt s i
      · have hd2 : decide ((48 : Int) ≤ s[i].toNat) = true := by simp; omega
        by_cases h57 : byteAt s i ≤ 57
        · have hd3 : decide ((s[i].toNat : Int) ≤ 57) = true := by simp; omega
          have HF : Hid ((!false && isDig (byteAt s i)) = true) := by simp [Hid, isDig, h48, h57]
          clear hby h48 h57
          go_enter Tryd.func36, Tryd.ntmps36
          go_wp2
          go_quiet (fail)
          go_wp2
          go_ret
          exact ⟨ret_bool (unhide HF).symm, _, rfl⟩
        · have hd3 : decide ((s[i].toNat : Int) ≤ 57) = false := by simp; omega
          have HF : Hid ((!false && isDig (byteAt s i)) = false) := by simp [Hid, isDig, h48, h57]
          clear hby h48 h57
          go_enter Tryd.func36, Tryd.ntmps36
          go_wp2
          go_quiet (fail)
          go_wp2
          go_ret
          exact ⟨ret_bool (unhide HF).symm, _, rfl⟩
      · have hd2 : decide ((48 : Int) ≤ s[i].toNat) = false := by simp; omega
        have HF : Hid ((!false && isDig (byteAt s i)) = false) := by simp [Hid, isDig, h48]
        clear hby h48
        go_enter Tryd.func36, Tryd.ntmps36
        go_wp2
        go_quiet (fail)
        go_wp2
        go_ret
        exact ⟨ret_bool (unhide HF).symm, _, rfl⟩
    · have hd : decide ((i : Int) < s.size) = false := by simp; omega
      have HF : Hid ((!false && isDig (byteAt s i)) = false) := by simp [Hid, byteAt_out (Nat.le_of_not_lt hlt), isDig_zero]
      go_enter Tryd.func36, Tryd.ntmps36
      go_wp2
      go_quiet (fail)
      go_wp2
      go_ret
      exact ⟨ret_bool (unhide HF).symm, _, rfl⟩
  · go_enter Tryd.func36, Tryd.ntmps36
    go_wp2
    go_quiet (fail)
    go_wp2
    go_ret
    exact ⟨ret_bool (by simp), _, rfl⟩

/-- One digit. -/
def pDigit (s : ByteArray) (i : Nat) : Except Nat (Nat × Nat) := if isDig (byteAt s i) then .ok (i + 1, byteAt s i - 48) else .error i

set_option maxHeartbeats 400000 in
theorem c_digit (b : Nat) (s : ByteArray) (σ : Except Nat Nat) (T : TypeId) (w : World) (hb : HoldsC w b T s σ) (hs : s.size ≤ 281474976710656) :
    Calls Tryd.prog 38 #[.pointer (some ⟨b, 0, none⟩)] w fun e w' =>
      ∃ v : Nat, e = .returned (.int .i64 v) ∧ HoldsC w' b T s (posOf (σ.bind (pDigit s))) ∧ Only [b] w w' ∧ (∀ x, σ.bind (pDigit s) = .ok x → v = x.2) ∧ v ≤ 9 := by
  obtain ⟨i, bad, a, hi, hblk, hok, herr⟩ := hb.place
  have h0 := hblk.cell 0
  have h1 := hblk.cell 1
  have hf := hblk.frozen
  simp [rdr] at h0 h1
  have HK := hide hblk
  rcases Bool.eq_false_or_eq_true (!bad && isDig (byteAt s i)) with ht | ht
  · have HT := hide ht
    obtain ⟨rfl, hdig⟩ : bad = false ∧ isDig (byteAt s i) = true := by simpa using ht
    have hin : i < s.size := by
      rcases Nat.lt_or_ge i s.size with h | h
      · exact h
      · rw [byteAt_out h, isDig_zero] at hdig; cases hdig
    have hbd : 48 ≤ byteAt s i ∧ byteAt s i ≤ 57 := by simpa [isDig] using hdig
    have hB1 : (48 : Int) ≤ (s[i].toNat : Int) ∧ (s[i].toNat : Int) ≤ 57 := by rw [byteAt_in hin] at hbd; omega
    obtain ⟨hB1, hB2⟩ := hB1
    obtain rfl : σ = .ok i := by
      cases σ with
      | error p => have := (herr p rfl).1; cases this
      | ok j => rw [(hok j rfl).1]
    have HD := hide hdig
    have HBD := hide hbd
    clear hok herr hblk hb ht hdig hbd
    go_enter Tryd.func38, Tryd.ntmps38
    go_wp2_with (go_at_call 36; refine (c_atDigit b s i false a T _ ?_ hs hi).mono ?_; · exact unhide HK)
    rintro e w1 ⟨rfl, n, rfl⟩
    rw [unhide HT]
    go_wp2
    have hx : Blk ((w.drewN n).setCell ⟨b, 1, none⟩ (.int .i64 ((i : Int) + 1))) b (rdr s (i + 1) false a) T := by
      simpa [rdr] using ((unhide HK).drewN n).set 1 (.int .i64 ((i : Int) + 1))
    have hxo : Only [b] w ((w.drewN n).setCell ⟨b, 1, none⟩ (.int .i64 ((i : Int) + 1))) := ((Only.refl _ _).drewN _).setCell (by simp) _
    clear h0 h1 hf HK
    revert hx hxo
    generalize ((w.drewN n).setCell ⟨b, 1, none⟩ (.int .i64 ((i : Int) + 1))) = w2
    intro hx hxo
    have h0 := hx.cell 0
    have h1 := hx.cell 1
    simp [rdr] at h0 h1
    have HX := hide hx
    have HXO := hide hxo
    clear hx hxo
    go_quiet (fail)
    go_wp2
    go_ret
    refine ⟨byteAt s i - 48, ret_int ?_, ?_, (unhide HXO).drewN _, ?_, ?_⟩
    · have := unhide HBD
      rw [byteAt_in hin] at this ⊢
      omega
    · simp only [Except.bind, pDigit, unhide HD, if_true, posOf]
      exact ⟨hin, a, unhide HX⟩
    · intro x hx
      simp only [Except.bind, pDigit, unhide HD, if_true] at hx
      cases hx
      rfl
    · have := unhide HBD
      omega
  · have HT := hide ht
    have hfin : ∀ w', Blk w' b (failedC s i bad a i) T → HoldsC w' b T s (posOf (σ.bind (pDigit s))) ∧ (∀ x, σ.bind (pDigit s) = .ok x → 0 = x.2) := by
      intro w' hk
      cases σ with
      | error p =>
        obtain ⟨rfl, rfl⟩ := herr p rfl
        exact ⟨⟨i, hi, by simpa [failedC] using hk⟩, fun x hx => by cases hx⟩
      | ok j =>
        obtain ⟨rfl, rfl⟩ := hok j rfl
        have hD : isDig (byteAt s i) = false := by simpa using ht
        simp only [Except.bind, pDigit, hD, posOf]
        exact ⟨⟨i, hi, by simpa [failedC] using hk⟩, fun x hx => by cases hx⟩
    have HF := hide hfin
    clear hfin hok herr hblk hb ht
    go_enter Tryd.func38, Tryd.ntmps38
    go_wp2_with (go_at_call 36; refine (c_atDigit b s i bad a T _ ?_ hs hi).mono ?_; · exact unhide HK)
    rintro e w1 ⟨rfl, n, rfl⟩
    rw [unhide HT]
    go_wp2_with (go_at_call 31; refine (c_fail b s i bad a i i rfl T _ ?_).mono ?_; · exact unhide HK)
    rintro e w2 ⟨rfl, hk, ho2⟩
    go_wp2
    go_ret
    have := unhide HF _ hk
    exact ⟨0, rfl, this.1, ((Only.refl _ _).drewN _).trans ho2, this.2, by omega⟩

theorem two_cases (s : ByteArray) (σ : Except Nat Nat) (t u : Nat) (hv1 : ∀ x, σ.bind (pDigit s) = .ok x → t = x.2) (hv2 : ∀ x, (posOf (σ.bind (pDigit s))).bind (pDigit s) = .ok x → u = x.2) :
    posOf ((posOf (σ.bind (pDigit s))).bind (pDigit s)) = posOf (σ.bind (pTwo s)) ∧ ∀ x, σ.bind (pTwo s) = .ok x → 10 * t + u = x.2 := by
  cases σ with
  | error q => exact ⟨rfl, fun x hx => by cases hx⟩
  | ok i =>
    simp only [Except.bind, posOf, pDigit, pTwo] at *
    cases h1 : isDig (byteAt s i) with
    | false => simp
    | true =>
      simp [h1] at *
      cases h2 : isDig (byteAt s (i + 1)) with
      | false => simp
      | true => simp [h2] at *; simp [hv1, hv2]

set_option maxHeartbeats 400000 in
theorem c_two (b : Nat) (s : ByteArray) (σ : Except Nat Nat) (T : TypeId) (w : World) (hb : HoldsC w b T s σ) (hs : s.size ≤ 281474976710656) :
    Calls Tryd.prog 35 #[.pointer (some ⟨b, 0, none⟩)] w fun e w' =>
      ∃ v : Nat, e = .returned (.int .i64 v) ∧ HoldsC w' b T s (posOf (σ.bind (pTwo s))) ∧ Only [b] w w' ∧ (∀ x, σ.bind (pTwo s) = .ok x → v = x.2) ∧ v ≤ 99 := by
  have HB := hide hb
  clear hb
  go_enter Tryd.func35, Tryd.ntmps35
  go_wp2_with (go_at_call 38; refine (c_digit b s σ T _ (unhide HB) hs).mono ?_)
  rintro e w1 ⟨t, rfl, hb1, ho1, hv1, hl1⟩
  have HB1 := hide hb1
  have HO1 := hide ho1
  have HV1 := hide hv1
  clear hb1 ho1 hv1 HB
  go_wp2_with (go_at_call 38; refine (c_digit b s _ T _ (unhide HB1) hs).mono ?_)
  rintro e w2 ⟨u, rfl, hb2, ho2, hv2, hl2⟩
  have HB2 := hide hb2
  have HO2 := hide ((unhide HO1).trans ho2)
  have HV2 := hide hv2
  clear hb2 ho2 hv2 HB1 HO1
  go_wp2
  go_ret
  have hc := two_cases s σ t u (unhide HV1) (unhide HV2)
  exact ⟨10 * t + u, ret_int (by omega), by rw [← hc.1]; exact unhide HB2, unhide HO2, hc.2, by omega⟩

set_option maxHeartbeats 1000000 in
theorem c_hm (b : Nat) (s : ByteArray) (σ : Except Nat Nat) (lo hi p : Nat) (lo' hi' p' : Int) (e1 : lo' = lo) (e2 : hi' = hi) (e3 : p' = p) (T : TypeId) (w : World) (hb : HoldsC w b T s σ) (hs : s.size ≤ 281474976710656) (hlo : lo ≤ 10000) (hhi : hi ≤ 10000) :
    Calls Tryd.prog 28 #[.pointer (some ⟨b, 0, none⟩), .int .i64 p', .int .i64 lo', .int .i64 hi'] w fun e w' =>
      ∃ v : Nat, e = .returned (.int .i64 v) ∧ HoldsC w' b T s (posOf (σ.bind (pClock s lo hi p))) ∧ Only [b] w w' ∧ (∀ x, σ.bind (pClock s lo hi p) = .ok x → v = x.2) ∧ v ≤ 10000 := by
  subst e1 e2 e3
  have HB := hide hb
  clear hb
  go_enter Tryd.func28, Tryd.ntmps28
  go_wp2_with (go_at_call 35; refine (c_two b s σ T _ (unhide HB) hs).mono ?_)
  rintro e w1 ⟨h, rfl, hb1, ho1, hv1, hl1⟩
  have HB1 := hide hb1
  have HO1 := hide ho1
  have HV1 := hide hv1
  clear hb1 ho1 hv1
  go_wp2_with (go_at_call 21; refine (c_need b s _ 58 58 rfl T _ (unhide HB1) hs (by decide)).mono ?_)
  rintro e w2 ⟨rfl, hb2, ho2⟩
  have HB2 := hide hb2
  have HO2 := hide (Only.trans (unhide HO1) ho2)
  clear hb2 ho2 HO1 HB1
  go_wp2_with (go_at_call 35; refine (c_two b s _ T _ (unhide HB2) hs).mono ?_)
  rintro e w3 ⟨m, rfl, hb3, ho3, hv3, hl3⟩
  have HO3 := hide (Only.trans (unhide HO2) ho3)
  have HB3 := hide hb3
  have hmul : 60 * (h : Int) ≤ 5940 := by omega
  obtain ⟨i, bad, a, hi', hblk, hfin⟩ : ∃ i bad a, i ≤ s.size ∧ Blk w3 b (rdr s i bad a) T ∧ ∀ w',
      (if 59 < m ∨ 60 * h + m < lo ∨ hi < 60 * h + m then Blk w' b (failedC s i bad a p) T else Blk w' b (rdr s i bad a) T) →
      HoldsC w' b T s (posOf (σ.bind (pClock s lo hi p))) ∧ (∀ x, σ.bind (pClock s lo hi p) = .ok x → ¬ (59 < m ∨ 60 * h + m < lo ∨ hi < 60 * h + m) ∧ 60 * h + m = x.2) := by
    rcases clock_cases s σ lo hi p h m (unhide HV1) hv3 with ⟨q, e1, e2⟩ | ⟨k, e1, e2⟩
    · rw [e1] at hb3
      obtain ⟨i, hi', hblk⟩ := hb3
      refine ⟨i, true, q, hi', hblk, fun w' hw => ?_⟩
      rw [e2]
      refine ⟨⟨i, hi', ?_⟩, fun x hx => by cases hx⟩
      split at hw <;> simpa [failedC] using hw
    · rw [e1] at hb3
      obtain ⟨hk, a, hblk⟩ := hb3
      refine ⟨k, false, a, hk, hblk, fun w' hw => ?_⟩
      rw [e2]
      by_cases hc : 59 < m ∨ 60 * h + m < lo ∨ hi < 60 * h + m
      · rw [if_pos hc] at hw ⊢
        exact ⟨⟨k, hk, hw⟩, fun x hx => by cases hx⟩
      · rw [if_neg hc] at hw ⊢
        exact ⟨⟨hk, a, hw⟩, fun x hx => by cases hx; exact ⟨hc, rfl⟩⟩
  have HBK := hide hblk
  have HF := hide hfin
  clear hb3 ho3 hv3 hblk hfin HB2 HO2
  have hv : 60 * h + m ≤ 10000 := by omega
  have hcm : (h : Int) * 60 = 60 * h := by omega
  by_cases hc : 59 < m ∨ 60 * h + m < lo ∨ hi < 60 * h + m
  · go_wp2_with fail
    all_goals
      go_at_call 31
      refine (c_fail b s i bad a p p rfl T _ (unhide HBK)).mono ?_
      rintro e w' ⟨rfl, hb', ho⟩
      go_wp2
      go_ret
      have := unhide HF w' (by rw [if_pos hc]; exact hb')
      exact ⟨0, rfl, this.1, (unhide HO3).trans ho, fun x hx => absurd hc (this.2 x hx).1, by omega⟩
  · have hc1 : decide (59 < (m : Int)) = false := by simp; omega
    have hc2 : decide (60 * (h : Int) + m < lo) = false := by simp; omega
    have hc3 : decide ((hi : Int) < 60 * (h : Int) + m) = false := by simp; omega
    go_wp2
    go_ret
    have := unhide HF w3 (by rw [if_neg hc]; exact unhide HBK)
    exact ⟨60 * h + m, ret_int (by omega), this.1, unhide HO3, fun x hx => (this.2 x hx).2, hv⟩
end Go.Proofs.YtnnhnihgeheahaaDoor
