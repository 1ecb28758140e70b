/- The reference reader's number. -/
import Derived.Test.YtnnhnihgeheahaaDoorRefA
set_option linter.unusedSimpArgs false
set_option linter.unusedVariables false
namespace Go.Proofs.YtnnhnihgeheahaaDoor
open Go.RowKit

theorem dig_of {n : Nat} : (decide (48 ≤ (n : Int)) && decide ((n : Int) ≤ 57)) = isDig n := by
  unfold isDig
  rw [Bool.eq_iff_iff]
  simp; omega

set_option maxHeartbeats 1000000 in
theorem ref_number_bad (b : Nat) (s : ByteArray) (i p : Nat) (lo hi m : Int) (T : TypeId) (w : World) (hb : Blk w b (rdr s i true p) T) (hs : s.size ≤ 281474976710656) (hi' : i ≤ s.size + 1) :
    Calls Tryd.prog 16 #[.pointer (some ⟨b, 0, none⟩), .int .i64 lo, .int .i64 hi, .int .i64 m] w fun e w' => e = .returned (.int .i64 0) ∧ Blk w' b (rdr s i true p) T ∧ Only [b] w w' := by
  have h1 := hb.cell 1
  have HB : Hid (Blk w b (rdr s i true p) T) := hb
  simp [rdr] at h1
  have hd := ref_digit
  clear hb
  go_enter Tryd.func16, Tryd.ntmps16
  go_wp2
  refine wp_loop_rounds 1 ?_
  rw [rounds_succ]
  go_wp2_with (go_at_call 12; refine (ref_peek b s i true p T _ ?_ hs hi').mono ?_; · exact HB.out)
  rintro e w' ⟨rfl, n, rfl⟩
  rw [show ((peekV s i true : Nat) : Int) = 0 from rfl]
  go_wp2_with (go_at_call 25; refine (ref_digit 0 _).mono ?_)
  rintro e w' ⟨rfl, rfl⟩
  go_wp2_with (go_at_call 13; refine (ref_fail b s i true p i T _ ?_).mono ?_; · exact HB.out)
  rintro e w' ⟨rfl, hb', ho⟩
  go_wp2
  go_ret
  exact ⟨rfl, hb', ((Only.refl _ _).drewN _).trans ho⟩

set_option maxHeartbeats 1000000 in
theorem ref_number_ok (b : Nat) (s : ByteArray) (i a lo hi m : Nat) (T : TypeId) (w : World) (hb : Blk w b (rdr s i false a) T) (hs : s.size ≤ 281474976710656) (hi' : i ≤ s.size + 1)
    (hm : (m = 2 ∧ hi ≤ 99) ∨ (m = 3 ∧ hi ≤ 999)) (hlo : lo ≤ 1000000) :
    Calls Tryd.prog 16 #[.pointer (some ⟨b, 0, none⟩), .int .i64 lo, .int .i64 hi, .int .i64 m] w fun e w' =>
      ∃ v : Nat, e = .returned (.int .i64 v) ∧ Holds w' b T s (posOf (pNum s lo hi i)) ∧ Only [b] w w' ∧ (∀ x, pNum s lo hi i = .ok x → v = x.2) ∧ v ≤ 999999 := by
  have h1 := hb.cell 1
  have HB : Hid (Blk w b (rdr s i false a) T) := hb
  simp [rdr] at h1
  clear hb
  go_enter Tryd.func16, Tryd.ntmps16
  go_wp2
  go_loopw [10] (fun n wr => ∃ k j v : Nat, Hid (k ≤ (digs s i).length ∧ j = i + k ∧ v = val ((digs s i).take (min k 6)) ∧ Blk wr b (rdr s j false a) T ∧ Only [b] w wr) ∧ n = .int .i64 v) (fun n wr => s.size + 1 - posIn wr b)
  case atStart => exact ⟨0, i, 0, ⟨Nat.zero_le _, rfl, by simp [val], HB.out, Only.refl _ _⟩, rfl⟩
  case round =>
    obtain ⟨k, j, v, HR, rfl⟩ := hrel
    obtain ⟨hk, hj, hv, hB, hO⟩ := unhide HR
    have hv6 : v ≤ 999999 := hv ▸ val_take6 s i k
    obtain ⟨hat, hget⟩ := digs_at k hk
    rw [← hj] at hat hget
    have h0 := hB.cell 0
    have h1' := hB.cell 1
    have hf := hB.frozen
    simp [rdr] at h0 h1'
    have hik : i + k ≤ s.size + 1 := by
      rcases Nat.lt_or_ge i s.size with h | h
      · have := digs_len (Nat.le_of_lt h); omega
      · rw [digs_end h] at hk; simp at hk; omega
    have hj1 : j ≤ s.size + 1 := by omega
    have HG := hide hget
    have HJ := hide hj
    have HV := hide hv
    have HO := hide hO
    have HB' := hide hB
    have hji : i ≤ j := by omega
    clear hB hO h1 hget hv
    by_cases hlt : k < (digs s i).length
    · have hD : isDig (byteAt s j) = true := hat.2 hlt
      have hin : j < s.size := by
        rcases Nat.lt_or_ge j s.size with h | h
        · exact h
        · rw [byteAt_out h, isDig_zero] at hD; cases hD
      have hbd : 48 ≤ byteAt s j ∧ byteAt s j ≤ 57 := by simpa [isDig] using hD
      clear hat
      have hx : ∀ wx, Only [b] w wx → Blk wx b (rdr s j false a) T → Only [b] w (wx.setCell ⟨b, 1, none⟩ (.int .i64 ((j : Int) + 1))) ∧ Blk (wx.setCell ⟨b, 1, none⟩ (.int .i64 ((j : Int) + 1))) b (rdr s (j + 1) false a) T :=
        fun wx h1 h2 => ⟨h1.setCell (by simp) _, by simpa [rdr] using h2.set 1 (.int .i64 ((j : Int) + 1))⟩
      have HX := hide hx
      clear hx
      by_cases h6 : k < 6
      · have ht : val ((digs s i).take (min (k + 1) 6)) = 10 * v + (byteAt s j - 48) := by
          rw [show min (k + 1) 6 = k + 1 by omega, List.take_add_one, unhide HG hlt, unhide HV, show min k 6 = k by omega]
          exact val_snoc _ _
        have HT := hide ht
        have hdd : (j : Int) - i < 6 := by omega
        clear ht hj
        go_wp2_with (go_at_call 12; refine (ref_peek b s j false a T _ ?_ hs hj1).mono ?_; · exact unhide HB')
        rintro e w' ⟨rfl, n, rfl⟩
        go_wp2_with (go_at_call 25; refine (ref_digit _ _).mono ?_)
        rintro e w' ⟨rfl, rfl⟩
        rw [dig_of, show peekV s j false = byteAt s j from rfl, hD]
        go_wp2
        go_quiet (fail)
        go_wp2
        go_roundw
        case rel =>
          have := unhide HX _ ((unhide HO).drewN (n + nq)) (unhide HB')
          refine ⟨k + 1, j + 1, _, ⟨hlt, by rw [unhide HJ]; omega, rfl, this.2, this.1⟩, ?_⟩
          rw [unhide HT, ← byteAt_in hin]
          exact num_step v (byteAt s j) hv6 hbd.1 hbd.2
        case measure =>
          have := unhide HX _ ((unhide HO).drewN (n + nq)) (unhide HB')
          rw [posIn_of this.2, posIn_of (unhide HB')]
          omega
      · have ht : (digs s i).take (min (k + 1) 6) = (digs s i).take (min k 6) := by
          rw [show min (k + 1) 6 = min k 6 by omega]
        have HT := hide ht
        have hdd : 6 ≤ (j : Int) - i := by omega
        clear ht hj
        go_wp2_with (go_at_call 12; refine (ref_peek b s j false a T _ ?_ hs hj1).mono ?_; · exact unhide HB')
        rintro e w' ⟨rfl, n, rfl⟩
        go_wp2_with (go_at_call 25; refine (ref_digit _ _).mono ?_)
        rintro e w' ⟨rfl, rfl⟩
        rw [dig_of, show peekV s j false = byteAt s j from rfl, hD]
        go_wp2
        go_roundw
        case rel =>
          have := unhide HX _ ((unhide HO).drewN n) (unhide HB')
          exact ⟨k + 1, j + 1, v, ⟨hlt, by rw [unhide HJ]; omega, by rw [unhide HT]; exact unhide HV, this.2, this.1⟩, rfl⟩
        case measure =>
          have := unhide HX _ ((unhide HO).drewN n) (unhide HB')
          rw [posIn_of this.2, posIn_of (unhide HB')]
          omega
    · have hD : isDig (byteAt s j) = false := by
        cases h : isDig (byteAt s j) with
        | true => exact absurd (hat.1 h) hlt
        | false => rfl
      have hkl : k = (digs s i).length := by omega
      have HK := hide hkl
      clear hat hj hkl
      have hw : ∀ n, Blk (wr.drewN n) b (rdr s j false a) T := fun n => (unhide HB')
      go_wp2_with (go_at_call 12; refine (ref_peek b s j false a T _ ?_ hs hj1).mono ?_; · exact unhide HB')
      rintro e w' ⟨rfl, n, rfl⟩
      go_wp2_with (go_at_call 25; refine (ref_digit _ _).mono ?_)
      rintro e w' ⟨rfl, rfl⟩
      rw [dig_of, show peekV s j false = byteAt s j from rfl, hD]
      have hfail : ∀ w', (digs s i = [] ∨ (m < k ∨ (byteAt s i = 48 ∧ 1 < k) ∨ v < lo ∨ hi < v)) → Blk w' b (failed s j false a i) T → Only [b] w w' → ∃ v' : Nat, Ending.returned (.int .i64 (v : Int)) = .returned (.int .i64 (v' : Int)) ∧ Holds w' b T s (posOf (pNum s lo hi i)) ∧ Only [b] w w' ∧ (∀ x, pNum s lo hi i = .ok x → v' = x.2) ∧ v' ≤ 999999 := by
        intro w' hc hb' ho
        have hp : pNum s lo hi i = .error i := by
          unfold pNum
          rw [if_pos]
          by_cases hne : digs s i = []
          · exact .inl hne
          · rw [← num_test hm hne]
            have e6 : val ((digs s i).take 6) = v := by
              rw [unhide HV, unhide HK]
              by_cases h6 : (digs s i).length ≤ 6
              · rw [show min (digs s i).length 6 = (digs s i).length by omega, List.take_length, List.take_of_length_le h6]
              · rw [show min (digs s i).length 6 = 6 by omega]
            rw [e6, ← unhide HK]
            rcases hc with hc | hc
            · exact absurd hc hne
            · exact hc
        exact ⟨v, rfl, by rw [hp]; exact ⟨j, hj1, hb'⟩, ho, fun x hx => (by rw [hp] at hx; cases hx), hv6⟩
      have hok : ∀ w', digs s i ≠ [] → ¬ (m < k ∨ (byteAt s i = 48 ∧ 1 < k) ∨ v < lo ∨ hi < v) → Blk w' b (rdr s j false a) T → Only [b] w w' → ∃ v' : Nat, Ending.returned (.int .i64 (v : Int)) = .returned (.int .i64 (v' : Int)) ∧ Holds w' b T s (posOf (pNum s lo hi i)) ∧ Only [b] w w' ∧ (∀ x, pNum s lo hi i = .ok x → v' = x.2) ∧ v' ≤ 999999 := by
        intro w' hne hc hb' ho
        have e6 : val ((digs s i).take 6) = v := by
          rw [unhide HV, unhide HK]
          by_cases h6 : (digs s i).length ≤ 6
          · rw [show min (digs s i).length 6 = (digs s i).length by omega, List.take_length, List.take_of_length_le h6]
          · rw [show min (digs s i).length 6 = 6 by omega]
        have hkm : (digs s i).length ≤ 6 := by have := unhide HK; omega
        have hp : pNum s lo hi i = .ok (j, v) := by
          unfold pNum
          rw [if_neg, unhide HJ, unhide HK, ← e6, List.take_of_length_le hkm]
          rw [← num_test hm hne, e6, ← unhide HK]
          exact hc
        exact ⟨v, rfl, by rw [hp]; exact ⟨hj1, a, hb'⟩, ho, fun x hx => (by rw [hp] at hx; cases hx; rfl), hv6⟩
      have HF := hide hfail
      have HOK := hide hok
      clear hfail hok
      by_cases hji' : j = i
      · have hz : ((j : Int) == i) = true := by simp; omega
        have HE := hide hji'
        clear hji'
        go_wp2_with (go_at_call 13; refine (ref_fail b s j false a i T _ ?_).mono ?_; · exact unhide HB')
        rintro e w' ⟨rfl, hb', ho⟩
        go_wp2
        go_ret
        exact unhide HF _ (.inl (List.eq_nil_of_length_eq_zero (by have := unhide HE; have := unhide HJ; have := unhide HK; omega))) hb' (((unhide HO).drewN _).trans ho)
      · have hz : ((j : Int) == i) = false := by simp; omega
        have hne : digs s i ≠ [] := fun h => hji' (by have := unhide HJ; have := unhide HK; rw [h] at this; simp at this; omega)
        have hin0 : i < s.size := by
          rcases Nat.lt_or_ge i s.size with h | h
          · exact h
          · exact absurd (digs_end h) hne
        have HN := hide hne
        clear hji' hne
        go_wp2_with fail
        all_goals first
          | (go_at_call 13
             refine (ref_fail b s j false a i T _ (hw n)).mono ?_
             rintro e w' ⟨rfl, hb', ho⟩
             go_wp2
             go_ret
             refine unhide HF _ (.inr ?_) hb' (((unhide HO).drewN _).trans ho)
             have := unhide HJ
             rw [byteAt_in hin0]
             omega)
          | (go_ret
             refine unhide HOK _ (unhide HN) ?_ (hw n) ((unhide HO).drewN _)
             have := unhide HJ
             rw [byteAt_in hin0]
             omega)

theorem ref_number (b : Nat) (s : ByteArray) (σ : Except Nat Nat) (lo hi m : Nat) (T : TypeId) (w : World) (hb : Holds w b T s σ) (hs : s.size ≤ 281474976710656)
    (hm : (m = 2 ∧ hi ≤ 99) ∨ (m = 3 ∧ hi ≤ 999)) (hlo : lo ≤ 1000000) :
    Calls Tryd.prog 16 #[.pointer (some ⟨b, 0, none⟩), .int .i64 lo, .int .i64 hi, .int .i64 m] w fun e w' =>
      ∃ v : Nat, e = .returned (.int .i64 v) ∧ Holds w' b T s (posOf (σ.bind (pNum s lo hi))) ∧ Only [b] w w' ∧ (∀ x, σ.bind (pNum s lo hi) = .ok x → v = x.2) ∧ v ≤ 999999 := by
  cases σ with
  | ok j =>
    obtain ⟨hj, a, h⟩ := hb
    exact ref_number_ok b s j a lo hi m T w h hs hj hm hlo
  | error p =>
    obtain ⟨i, hi', h⟩ := hb
    refine (ref_number_bad b s i p lo hi m T w h hs hi').mono ?_
    rintro e w' ⟨rfl, h1, h2⟩
    exact ⟨0, rfl, ⟨i, hi', h1⟩, h2, fun x hx => (by cases hx), by omega⟩
theorem ref_number' (b : Nat) (s : ByteArray) (σ : Except Nat Nat) (lo hi m : Nat) (lo' hi' m' : Int) (e1 : lo' = lo) (e2 : hi' = hi) (e3 : m' = m) (T : TypeId) (w : World) (hb : Holds w b T s σ) (hs : s.size ≤ 281474976710656)
    (hm : (m = 2 ∧ hi ≤ 99) ∨ (m = 3 ∧ hi ≤ 999)) (hlo : lo ≤ 1000000) :
    Calls Tryd.prog 16 #[.pointer (some ⟨b, 0, none⟩), .int .i64 lo', .int .i64 hi', .int .i64 m'] w fun e w' =>
      ∃ v : Nat, e = .returned (.int .i64 v) ∧ Holds w' b T s (posOf (σ.bind (pNum s lo hi))) ∧ Only [b] w w' ∧ (∀ x, σ.bind (pNum s lo hi) = .ok x → v = x.2) ∧ v ≤ 999999 := by
  subst e1 e2 e3; exact ref_number b s σ lo hi m T w hb hs hm hlo
end Go.Proofs.YtnnhnihgeheahaaDoor
