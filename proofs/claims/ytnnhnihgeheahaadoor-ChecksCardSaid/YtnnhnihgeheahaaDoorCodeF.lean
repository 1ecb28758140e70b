/- The program's scanner: offset, rules. -/
import Derived.Test.YtnnhnihgeheahaaDoorCodeE
import Derived.Test.YtnnhnihgeheahaaDoorRefE
set_option linter.unusedSimpArgs false
set_option linter.unusedVariables false
namespace Go.Proofs.YtnnhnihgeheahaaDoor
open Go.RowKit

def OffSaid (b : Nat) (T : TypeId) (s : ByteArray) (w : World) (e : Ending) (w' : World) : Prop :=
  ∃ o : Int, e = .returned (.int .i64 o) ∧ HoldsC w' b T s (posOf (pOffset s)) ∧ Only [b] w w' ∧ (∀ x, pOffset s = .ok x → o = x.2) ∧ -10000 ≤ o ∧ o ≤ 10000

set_option maxHeartbeats 1000000 in
theorem c_offset (b : Nat) (s : ByteArray) (T : TypeId) (w : World) (hb : HoldsC w b T s (.ok 0)) (hs : s.size ≤ 281474976710656) :
    Calls Tryd.prog 19 #[.pointer (some ⟨b, 0, none⟩)] w (OffSaid b T s w) := by
  obtain ⟨i, bad, a, hi', hblk, hok, herr⟩ := hb.place
  obtain ⟨rfl, rfl⟩ := hok 0 rfl
  have h1 := hblk.cell 1
  simp [rdr] at h1
  have HB := hide hb
  clear hb hblk hok herr
  by_cases h45 : byteAt s 0 = 45
  · have H45 := hide h45
    have ht : tookB s 45 (.ok 0) = true := by simp [tookB, h45]
    have hts : tookS s 45 (.ok 0) = .ok 1 := by simp [tookS, h45]
    have HT := hide ht
    have HTS := hide hts
    clear h45 ht hts
    go_enter Tryd.func19, Tryd.ntmps19
    go_wp2_with (go_at_call 27; refine (c_took b s (.ok 0) 45 45 rfl T _ (unhide HB) hs (by decide)).mono ?_)
    rintro e w1 ⟨rfl, hb1, ho1⟩
    rw [unhide HTS] at hb1
    rw [unhide HT]
    have HB1 := hide hb1
    have HO1 := hide ho1
    clear hb1 ho1 h1
    go_wp2_with (go_at_call 28; refine (c_hm b s _ 0 840 0 0 840 0 rfl rfl rfl T _ (unhide HB1) hs (by decide) (by decide)).mono ?_)
    rintro e w2 ⟨v, rfl, hb2, ho2, hv2, hl2⟩
    have HB2 := hide hb2
    have HO2 := hide ((unhide HO1).trans ho2)
    have HV2 := hide hv2
    clear hb2 ho2 hv2
    go_wp2
    go_ret
    have hp : pOffset s = (pClock s 0 840 0 1).bind fun x => .ok (x.1, -(x.2 : Int)) := by unfold pOffset; rw [if_pos (unhide H45)]
    refine ⟨-(v : Int), rfl, ?_, unhide HO2, ?_, by omega, by omega⟩
    · have := unhide HB2
      rw [hp]
      simp only [Except.bind] at this
      cases hc : pClock s 0 840 0 1 with
      | error q => rw [hc] at this; exact this
      | ok x => rw [hc] at this; exact this
    · intro x hx
      rw [hp] at hx
      cases hc : pClock s 0 840 0 1 with
      | error q => rw [hc] at hx; cases hx
      | ok y => rw [hc] at hx; cases hx; rw [unhide HV2 y hc]
  · have H45 := hide h45
    have ht : tookB s 45 (.ok 0) = false := by simp [tookB, h45]
    have hts : tookS s 45 (.ok 0) = .ok 0 := by simp [tookS, h45]
    have HT := hide ht
    have HTS := hide hts
    clear h45 ht hts
    go_enter Tryd.func19, Tryd.ntmps19
    go_wp2_with (go_at_call 27; refine (c_took b s (.ok 0) 45 45 rfl T _ (unhide HB) hs (by decide)).mono ?_)
    rintro e w1 ⟨rfl, hb1, ho1⟩
    rw [unhide HTS] at hb1
    rw [unhide HT]
    have HB1 := hide hb1
    have HO1 := hide ho1
    clear hb1 ho1 h1
    go_wp2_with (go_at_call 21; refine (c_need b s _ 43 43 rfl T _ (unhide HB1) hs (by decide)).mono ?_)
    rintro e w2 ⟨rfl, hb2, ho2⟩
    have HB2 := hide hb2
    have HO2 := hide ((unhide HO1).trans ho2)
    clear hb2 ho2 HB1 HO1
    go_wp2_with (go_at_call 28; refine (c_hm b s _ 0 840 0 0 840 0 rfl rfl rfl T _ (unhide HB2) hs (by decide) (by decide)).mono ?_)
    rintro e w3 ⟨v, rfl, hb3, ho3, hv3, hl3⟩
    have HB3 := hide hb3
    have HO3 := hide ((unhide HO2).trans ho3)
    have HV3 := hide hv3
    clear hb3 ho3 hv3
    go_wp2
    go_ret
    have hp : pOffset s = (pEat s 43 0).bind fun i => (pClock s 0 840 0 i).bind fun x => .ok (x.1, (x.2 : Int)) := by unfold pOffset; rw [if_neg (unhide H45)]
    refine ⟨(v : Int), rfl, ?_, unhide HO3, ?_, by omega, by omega⟩
    · have := unhide HB3
      rw [hp]
      simp only [Except.bind] at this ⊢
      cases he : pEat s 43 0 with
      | error q => rw [he] at this; exact this
      | ok j =>
        rw [he] at this
        simp only [] at this ⊢
        cases hc : pClock s 0 840 0 j with
        | error q => rw [hc] at this; exact this
        | ok x => rw [hc] at this; exact this
    · intro x hx
      rw [hp] at hx
      have hv := unhide HV3
      simp only [Except.bind] at hx hv
      cases he : pEat s 43 0 with
      | error q => rw [he] at hx; cases hx
      | ok j =>
        rw [he] at hx hv
        simp only [] at hx hv
        cases hc : pClock s 0 840 0 j with
        | error q => rw [hc] at hx; cases hx
        | ok y => rw [hc] at hx; cases hx; rw [hv y hc]

/-- A clock's cells. -/
def zonC (z : Zon) : Array Value := #[.int .i64 z.offset, .int .i64 z.shift, .int .i64 z.beg.month, .int .i64 z.beg.week, .int .i64 z.beg.day, .int .i64 z.beg.time, .int .i64 z.fin.month, .int .i64 z.fin.week, .int .i64 z.fin.day, .int .i64 z.fin.time]

def RulesSaid (b bc : Nat) (T : TypeId) (s : ByteArray) (σ : Except Nat Nat) (o : Int) (w : World) (e : Ending) (w' : World) : Prop :=
  ∃ z : Zon, e = .returned (.tuple #[]) ∧ HoldsC w' b T s (posOf (σ.bind (pRules s o))) ∧ Blk w' bc (zonC z) 32 ∧ Only [b, bc] w w' ∧ (∀ x, σ.bind (pRules s o) = .ok x → z = x.2)

set_option maxHeartbeats 2000000 in
theorem c_rules (b bc : Nat) (s : ByteArray) (σ : Except Nat Nat) (o : Int) (T : TypeId) (w : World) (hb : HoldsC w b T s σ) (hu : Blk w bc (zonC ⟨o, 0, .zero, .zero⟩) 32) (hbc : bc ≠ b) (hs : s.size ≤ 281474976710656)
    (hE : Errs w) (hg1 : 1 ≠ b) (hg2 : 2 ≠ b) (hg3 : 1 ≠ bc) (hg4 : 2 ≠ bc) :
    Calls Tryd.prog 20 #[.pointer (some ⟨b, 0, none⟩), .pointer (some ⟨bc, 0, none⟩)] w (RulesSaid b bc T s σ o w) := by
  have hu0 : Blk w bc #[.int .i64 o, .int .i64 0, .int .i64 0, .int .i64 0, .int .i64 0, .int .i64 0, .int .i64 0, .int .i64 0, .int .i64 0, .int .i64 0] 32 := by simpa [zonC, Rul.zero] using hu
  have HU0 := hide hu0
  have HB0 := hide hb
  have HO0 := hide (Only.refl [b, bc] w)
  have HE := hide hE
  clear hu hu0 hb hE
  go_enter Tryd.func20, Tryd.ntmps20
  go_wp2_with (go_at_call 21; refine (c_need b s _ 32 32 rfl T _ (unhide HB0) hs (by decide)).mono ?_)
  rintro e w1 ⟨rfl, hb1, ho1⟩
  have HU1 := hide (Blk.only (unhide HU0) ho1 (by simpa using hbc))
  have HO1 := hide ((unhide HO0).trans (ho1.mono (by simp)))
  have HB1 := hide hb1
  clear hb1 ho1 HU0 HO0 HB0
  go_wp2_with (go_at_call 29; refine (c_number b s _ 1 120 1 120 rfl rfl T _ (unhide HB1) hs ((unhide HE).only (unhide HO1) (by simp; omega) (by simp; omega)) hg1 hg2 (by decide) (by decide)).mono ?_)
  rintro e w2 ⟨sh, rfl, hb2, ho2, hv2, hl2⟩
  have HU2 := hide (Blk.only (unhide HU1) ho2 (by simpa using hbc))
  have HO2 := hide ((unhide HO1).trans (ho2.mono (by simp)))
  have HB2 := hide hb2
  have HV2 := hide hv2
  clear hb2 ho2 HU1 HO1 HB1 hv2
  have uf := (unhide HU2).frozen
  have u1 := (unhide HU2).cell 1
  simp [rdr] at u1
  have hU2 : Blk (w2.setCell ⟨bc, 1, none⟩ (.int .i64 (sh : Int))) bc #[.int .i64 o, .int .i64 sh, .int .i64 0, .int .i64 0, .int .i64 0, .int .i64 0, .int .i64 0, .int .i64 0, .int .i64 0, .int .i64 0] 32 := by simpa using (unhide HU2).set 1 (.int .i64 (sh : Int))
  have hO2 : Only [b, bc] w (w2.setCell ⟨bc, 1, none⟩ (.int .i64 (sh : Int))) := (unhide HO2).setCell (by simp) _
  have hB2 := (unhide HB2).setOther (p := ⟨bc, 1, none⟩) (by simpa using hbc) (.int .i64 (sh : Int))
  clear HU2 HO2 HB2
  have HU2 := hide hU2
  have HO2 := hide hO2
  have HB2 := hide hB2
  clear hU2 hO2 hB2
  go_wp2_with (go_at_call 21; refine (c_need b s _ 32 32 rfl T _ (unhide HB2) hs (by decide)).mono ?_)
  rintro e w3 ⟨rfl, hb3, ho3⟩
  have HU3 := hide (Blk.only (unhide HU2) ho3 (by simpa using hbc))
  have HO3 := hide ((unhide HO2).trans (ho3.mono (by simp)))
  have HB3 := hide hb3
  clear hb3 ho3 HU2 HO2 HB2
  clear u1 uf
  go_wp2_with (go_at_call 30; refine (c_rule b s _ T _ (unhide HB3) hs ((unhide HE).only (unhide HO3) (by simp; omega) (by simp; omega)) hg1 hg2).mono ?_)
  rintro e w4 ⟨ra, rfl, hb4, ho4, hv4, hl4⟩
  unfold rulV
  have HU4 := hide (Blk.only (unhide HU3) ho4 (by simpa using hbc))
  have HO4 := hide ((unhide HO3).trans (ho4.mono (by simp)))
  have HB4 := hide hb4
  have HV4 := hide hv4
  clear hb4 ho4 HU3 HO3 HB3 hv4
  have uf := (unhide HU4).frozen
  have u2 := (unhide HU4).cell 2
  have u3 := (unhide HU4).cell 3
  have u4 := (unhide HU4).cell 4
  have u5 := (unhide HU4).cell 5
  simp [rdr] at u2 u3 u4 u5
  have hU4 : Blk ((((w4.setCell ⟨bc, 2, none⟩ (.int .i64 (ra.month : Nat))).setCell ⟨bc, 3, none⟩ (.int .i64 (ra.week : Nat))).setCell ⟨bc, 4, none⟩ (.int .i64 (ra.day : Nat))).setCell ⟨bc, 5, none⟩ (.int .i64 (ra.time : Nat))) bc #[.int .i64 o, .int .i64 sh, .int .i64 ra.month, .int .i64 ra.week, .int .i64 ra.day, .int .i64 ra.time, .int .i64 0, .int .i64 0, .int .i64 0, .int .i64 0] 32 := by simpa using (((((unhide HU4).set 2 (.int .i64 (ra.month : Nat))).set 3 (.int .i64 (ra.week : Nat))).set 4 (.int .i64 (ra.day : Nat))).set 5 (.int .i64 (ra.time : Nat)))
  have hO4 : Only [b, bc] w ((((w4.setCell ⟨bc, 2, none⟩ (.int .i64 (ra.month : Nat))).setCell ⟨bc, 3, none⟩ (.int .i64 (ra.week : Nat))).setCell ⟨bc, 4, none⟩ (.int .i64 (ra.day : Nat))).setCell ⟨bc, 5, none⟩ (.int .i64 (ra.time : Nat))) := (((((unhide HO4).setCell (by simp) _).setCell (by simp) _).setCell (by simp) _).setCell (by simp) _)
  have hB4 := (((((unhide HB4).setOther (p := ⟨bc, 2, none⟩) (by simpa using hbc) (.int .i64 (ra.month : Nat))).setOther (p := ⟨bc, 3, none⟩) (by simpa using hbc) (.int .i64 (ra.week : Nat))).setOther (p := ⟨bc, 4, none⟩) (by simpa using hbc) (.int .i64 (ra.day : Nat))).setOther (p := ⟨bc, 5, none⟩) (by simpa using hbc) (.int .i64 (ra.time : Nat)))
  clear HU4 HO4 HB4
  have HU4 := hide hU4
  have HO4 := hide hO4
  have HB4 := hide hB4
  clear hU4 hO4 hB4
  go_wp2_with (go_at_call 21; refine (c_need b s _ 32 32 rfl T _ (unhide HB4) hs (by decide)).mono ?_)
  rintro e w5 ⟨rfl, hb5, ho5⟩
  have HU5 := hide (Blk.only (unhide HU4) ho5 (by simpa using hbc))
  have HO5 := hide ((unhide HO4).trans (ho5.mono (by simp)))
  have HB5 := hide hb5
  clear hb5 ho5 HU4 HO4 HB4
  clear u2 u3 u4 u5 uf
  obtain ⟨i5, bad5, a5, hi5, hblk5, hok5, _⟩ := (unhide HB5).place
  have hc5 := hblk5.cell 1
  simp [rdr] at hc5
  have HOK5 := hide hok5
  clear hblk5 hok5
  go_wp2_with (go_at_call 30; refine (c_rule b s _ T _ (unhide HB5) hs ((unhide HE).only (unhide HO5) (by simp; omega) (by simp; omega)) hg1 hg2).mono ?_)
  rintro e w6 ⟨rb, rfl, hb6, ho6, hv6, hl6⟩
  unfold rulV
  have HU6 := hide (Blk.only (unhide HU5) ho6 (by simpa using hbc))
  have HO6 := hide ((unhide HO5).trans (ho6.mono (by simp)))
  have HB6 := hide hb6
  have HV6 := hide hv6
  clear hb6 ho6 HU5 HO5 HB5 hv6
  clear hc5
  have uf := (unhide HU6).frozen
  have u6 := (unhide HU6).cell 6
  have u7 := (unhide HU6).cell 7
  have u8 := (unhide HU6).cell 8
  have u9 := (unhide HU6).cell 9
  simp [rdr] at u6 u7 u8 u9
  have hU6 : Blk ((((w6.setCell ⟨bc, 6, none⟩ (.int .i64 (rb.month : Nat))).setCell ⟨bc, 7, none⟩ (.int .i64 (rb.week : Nat))).setCell ⟨bc, 8, none⟩ (.int .i64 (rb.day : Nat))).setCell ⟨bc, 9, none⟩ (.int .i64 (rb.time : Nat))) bc #[.int .i64 o, .int .i64 sh, .int .i64 ra.month, .int .i64 ra.week, .int .i64 ra.day, .int .i64 ra.time, .int .i64 rb.month, .int .i64 rb.week, .int .i64 rb.day, .int .i64 rb.time] 32 := by simpa using (((((unhide HU6).set 6 (.int .i64 (rb.month : Nat))).set 7 (.int .i64 (rb.week : Nat))).set 8 (.int .i64 (rb.day : Nat))).set 9 (.int .i64 (rb.time : Nat)))
  have hO6 : Only [b, bc] w ((((w6.setCell ⟨bc, 6, none⟩ (.int .i64 (rb.month : Nat))).setCell ⟨bc, 7, none⟩ (.int .i64 (rb.week : Nat))).setCell ⟨bc, 8, none⟩ (.int .i64 (rb.day : Nat))).setCell ⟨bc, 9, none⟩ (.int .i64 (rb.time : Nat))) := (((((unhide HO6).setCell (by simp) _).setCell (by simp) _).setCell (by simp) _).setCell (by simp) _)
  have hB6 := (((((unhide HB6).setOther (p := ⟨bc, 6, none⟩) (by simpa using hbc) (.int .i64 (rb.month : Nat))).setOther (p := ⟨bc, 7, none⟩) (by simpa using hbc) (.int .i64 (rb.week : Nat))).setOther (p := ⟨bc, 8, none⟩) (by simpa using hbc) (.int .i64 (rb.day : Nat))).setOther (p := ⟨bc, 9, none⟩) (by simpa using hbc) (.int .i64 (rb.time : Nat)))
  clear HU6 HO6 HB6
  have HU6 := hide hU6
  have HO6 := hide hO6
  have HB6 := hide hB6
  clear hU6 hO6 hB6
  go_wp2_with (go_at_call 23; refine (c_needEnd b s _ T _ (unhide HB6) hs).mono ?_)
  rintro e w7 ⟨rfl, hb7, ho7⟩
  have HU7 := hide (Blk.only (unhide HU6) ho7 (by simpa using hbc))
  have HO7 := hide ((unhide HO6).trans (ho7.mono (by simp)))
  have HB7 := hide hb7
  clear hb7 ho7 HU6 HO6 HB6
  clear u6 u7 u8 u9 uf
  obtain ⟨i7, bad7, a7, hi7, hblk7, hok7, herr7⟩ := (unhide HB7).place
  have HK7 := hide hblk7
  have hfin : ∀ w', ((ra.month = rb.month ∧ Blk w' b (failedC s i7 bad7 a7 i5) T) ∨ (ra.month ≠ rb.month ∧ Blk w' b (rdr s i7 bad7 a7) T)) →
      HoldsC w' b T s (posOf (σ.bind (pRules s o))) ∧ (∀ x, σ.bind (pRules s o) = .ok x → (⟨o, sh, ra, rb⟩ : Zon) = x.2) := by
    intro w' hk
    cases σ with
    | error p =>
      obtain ⟨rfl, rfl⟩ := herr7 p rfl
      refine ⟨⟨i7, hi7, ?_⟩, fun x hx => by cases hx⟩
      rcases hk with ⟨_, hk⟩ | ⟨_, hk⟩
      · simpa [failedC] using hk
      · exact hk
    | ok i0 =>
      rcases rules_cases s o i0 i5 sh ra rb _ _ _ _ _ rfl rfl (unhide HV2) rfl rfl (unhide HV4) rfl (fun j hj => (unhide HOK5 j hj).1) (unhide HV6) with ⟨q, e1, e2⟩ | ⟨k, e1, e2⟩
      · have e2' : (Except.ok i0 : Except Nat Nat).bind (pRules s o) = .error q := e2
        rw [e2']
        obtain ⟨rfl, rfl⟩ := herr7 q (by rw [e1]; rfl)
        refine ⟨⟨i7, hi7, ?_⟩, fun x hx => by cases hx⟩
        rcases hk with ⟨_, hk⟩ | ⟨_, hk⟩
        · simpa [failedC] using hk
        · exact hk
      · have e2' : (Except.ok i0 : Except Nat Nat).bind (pRules s o) = _ := e2
        rw [e2']
        by_cases hlt : k < s.size
        · rw [if_pos hlt]
          obtain ⟨rfl, rfl⟩ := herr7 k (by rw [e1]; simp [Except.bind, hlt])
          refine ⟨⟨i7, hi7, ?_⟩, fun x hx => by cases hx⟩
          rcases hk with ⟨_, hk⟩ | ⟨_, hk⟩
          · simpa [failedC] using hk
          · exact hk
        · rw [if_neg hlt]
          obtain ⟨rfl, rfl⟩ := hok7 k (by rw [e1]; simp [Except.bind, hlt])
          rcases hk with ⟨hm, hk⟩ | ⟨hm, hk⟩
          · rw [if_pos hm]
            exact ⟨⟨i7, hi7, by simpa [failedC] using hk⟩, fun x hx => by cases hx⟩
          · rw [if_neg hm]
            exact ⟨⟨hi7, a7, hk⟩, fun x hx => by cases hx; rfl⟩
  have HFIN := hide hfin
  clear hfin hok7 herr7 hblk7 HB7 HV2 HV4 HV6 HOK5
  have uf := (unhide HU7).frozen
  have u2 := (unhide HU7).cell 2
  have u6 := (unhide HU7).cell 6
  simp [rdr] at u2 u6
  by_cases hm : ra.month = rb.month
  · have HM := hide hm
    have hd : ((ra.month : Int) == rb.month) = true := by rw [beq_iff_eq]; omega
    clear hm
    go_wp2
    go_quiet (fail)
    go_wp2_with (go_at_call 31; refine (c_fail b s i7 bad7 a7 i5 i5 rfl T _ ?_).mono ?_; · exact unhide HK7)
    rintro e w8 ⟨rfl, hk8, ho8⟩
    go_wp2
    go_end0
    have hf := unhide HFIN w8 (.inl ⟨unhide HM, hk8⟩)
    refine ⟨⟨o, sh, ra, rb⟩, rfl, hf.1, ?_, ?_, hf.2⟩
    · exact Blk.only ((unhide HU7).drewN nq) ho8 (by simpa using hbc)
    · exact ((unhide HO7).drewN nq).trans (ho8.mono (by simp))
  · have hd : ((ra.month : Int) == rb.month) = false := by rw [beq_eq_false_iff_ne]; omega
    go_wp2
    go_quiet (fail)
    go_wp2
    go_end0
    have hf := unhide HFIN _ (.inr ⟨hm, (unhide HK7).drewN nq⟩)
    exact ⟨⟨o, sh, ra, rb⟩, rfl, hf.1, (unhide HU7).drewN nq, (unhide HO7).drewN nq, hf.2⟩
end Go.Proofs.YtnnhnihgeheahaaDoor
