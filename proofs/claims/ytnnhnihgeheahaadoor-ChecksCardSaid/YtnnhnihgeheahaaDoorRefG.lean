/- The reference's ParseZone. -/
import Derived.Test.YtnnhnihgeheahaaDoorRefE
import Derived.BigRegion
set_option linter.unusedSimpArgs false
set_option linter.unusedVariables false
namespace Go.Proofs.YtnnhnihgeheahaaDoor
open Go.RowKit

set_option maxHeartbeats 2000000 in
theorem ref_zone_pos_long (s : ByteArray) (w : World) (hs : s.size ≤ 281474976710656) (hc : byteAt s 0 = 43) (x : Nat × Nat) (hP : pClock s 0 840 0 1 = .ok x) (hx : x.1 < s.size) :
    Calls Tryd.prog 8 #[.string s] w (ZoneSaid s w) := by
  have hu0 : Blk (((w.alloc (.cells zone0 44)).alloc (.cells (rdr s 0 false 0) 60)).alloc (.cells zone0 44)) (w.heap.size + 1 + 1) zone0 44 := by
    simpa using Blk.new ((w.alloc (.cells zone0 44)).alloc (.cells (rdr s 0 false 0) 60)) zone0 44
  have hr0 : Blk (((w.alloc (.cells zone0 44)).alloc (.cells (rdr s 0 false 0) 60)).alloc (.cells zone0 44)) w.heap.size zone0 44 :=
    ((Blk.new w zone0 44).alloc _).alloc _
  have hb0 : Blk (((w.alloc (.cells zone0 44)).alloc (.cells (rdr s 0 false 0) 60)).alloc (.cells zone0 44)) (w.heap.size + 1) (rdr s 0 false 0) 60 := by
    simpa using (Blk.new (w.alloc (.cells zone0 44)) (rdr s 0 false 0) 60).alloc (.cells zone0 44)
  have ho0 : Only [] w (((w.alloc (.cells zone0 44)).alloc (.cells (rdr s 0 false 0) 60)).alloc (.cells zone0 44)) := (((Only.refl _ _).alloc _).alloc _).alloc _
  have HU0 := hide hu0
  have HR0 := hide hr0
  have HB0 := hide hb0
  have HO0 := hide ho0
  clear hu0 hr0 hb0 ho0
  go_enter Tryd.func8, Tryd.ntmps8
  go_wp2_with (go_at_call 12; refine (ref_peek (w.heap.size + 1) s 0 false 0 60 _ ?_ hs (Nat.zero_le _)).mono ?_; · exact unhide HB0)
  rintro e w0 ⟨rfl, nd, rfl⟩
  rw [show ((peekV s 0 false : Nat) : Int) = (byteAt s 0 : Int) from rfl]
  have hb := byteAt_lt s 0
  have hu0 := (unhide HU0).drewN nd
  have hr0 := (unhide HR0).drewN nd
  have hb0 := (unhide HB0).drewN nd
  have ho0 := (unhide HO0).drewN nd
  clear HU0 HR0 HB0 HO0
  have HU0 := hide hu0
  have HR0 := hide hr0
  have HB0 := hide hb0
  have HO0 := hide ho0
  clear hu0 hr0 hb0 ho0
  have HC := hide hc
  have HP := hide hP
  have hd1 : ((byteAt s 0 : Int) != 43) = false := by simp; omega
  have hd3 : ((byteAt s 0 : Int) == 45) = false := by rw [beq_eq_false_iff_ne]; omega
  clear hc hb hP
  have cf := (unhide HB0).frozen
  have c1 := (unhide HB0).cell 1
  simp [zone0, rdr] at c1
  have hX : Blk (((((w.alloc (.cells zone0 44)).alloc (.cells (rdr s 0 false 0) 60)).alloc (.cells zone0 44)).drewN nd).setCell ⟨w.heap.size + 1, 1, none⟩ (.int .i64 1)) (w.heap.size + 1) (rdr s 1 false 0) 60 := by
    simpa [rdr] using (unhide HB0).set 1 (.int .i64 1)
  have hXo : Only [w.heap.size + 1] ((((w.alloc (.cells zone0 44)).alloc (.cells (rdr s 0 false 0) 60)).alloc (.cells zone0 44)).drewN nd) (((((w.alloc (.cells zone0 44)).alloc (.cells (rdr s 0 false 0) 60)).alloc (.cells zone0 44)).drewN nd).setCell ⟨w.heap.size + 1, 1, none⟩ (.int .i64 1)) := (Only.refl _ _).setCell (by simp) _
  have HX := hide hX
  have HXo := hide hXo
  clear hX hXo
  go_wp2_with (go_at_call 14; refine (ref_clock' (w.heap.size + 1) s (.ok 1) 0 840 0 0 840 0 rfl rfl rfl 60 _ ?_ hs (by decide) (by decide)).mono ?_; · exact ⟨by omega, 0, unhide HX⟩)
  rintro e w1 ⟨v, rfl, hb1, ho1', hv1, hl1⟩
  have ho1 := (unhide HXo).trans ho1'
  clear ho1' HX HXo c1 cf
  have HU1 := hide (Blk.only (unhide HU0) ho1 (by simp))
  have HR1 := hide (Blk.only (unhide HR0) ho1 (by simp))
  have HO1 := hide ((unhide HO0).step ho1 (by simp))
  have HB1 := hide hb1
  have HV1 := hide hv1
  clear hb1 ho1 HU0 HR0 HO0 HB0 hv1
  have hb1 := unhide HB1
  rw [show (Except.ok 1 : Except Nat Nat).bind (pClock s 0 840 0) = pClock s 0 840 0 1 from rfl, unhide HP] at hb1
  obtain ⟨hi', a, hblk⟩ : x.1 ≤ s.size + 1 ∧ ∃ a : Nat, Blk w1 (w.heap.size + 1) (rdr s x.1 false a) 60 := hb1
  have hve : v = x.2 := unhide HV1 x (unhide HP)
  have HVE := hide hve
  have HK := hide hblk
  have hl : decide ((x.1 : Int) < s.size) = true := by simp; omega
  clear hblk HB1 HV1 hve
  have uf := (unhide HU1).frozen
  have u0 := (unhide HU1).cell 0
  have u1 := (unhide HU1).cell 1
  have u2 := (unhide HU1).cell 2
  have u3 := (unhide HU1).cell 3
  have u4 := (unhide HU1).cell 4
  have u5 := (unhide HU1).cell 5
  have u6 := (unhide HU1).cell 6
  have u7 := (unhide HU1).cell 7
  have u8 := (unhide HU1).cell 8
  have u9 := (unhide HU1).cell 9
  simp [zone0, rdr] at u0 u1 u2 u3 u4 u5 u6 u7 u8 u9
  have cf := (unhide HK).frozen
  have c1 := (unhide HK).cell 1
  have c2 := (unhide HK).cell 2
  have c3 := (unhide HK).cell 3
  simp [zone0, rdr] at c1 c2 c3
  go_wp2_with fail
  have hu2 : Blk (w1.setCell ⟨w.heap.size + 1 + 1, 0, none⟩ (.int .i64 (v : Int))) (w.heap.size + 1 + 1) (zone0.setIfInBounds 0 (.int .i64 (v : Int))) 44 := (unhide HU1).set 0 _
  have hk2 : Blk (w1.setCell ⟨w.heap.size + 1 + 1, 0, none⟩ (.int .i64 (v : Int))) (w.heap.size + 1) (rdr s x.1 false a) 60 := (unhide HK).setOther (by simp) _
  have hr2 : Blk (w1.setCell ⟨w.heap.size + 1 + 1, 0, none⟩ (.int .i64 (v : Int))) w.heap.size zone0 44 := (unhide HR1).setOther (by simp; omega) _
  have ho2 : Only [] w (w1.setCell ⟨w.heap.size + 1 + 1, 0, none⟩ (.int .i64 (v : Int))) := (unhide HO1).setNew (by simp; omega) _
  clear HU1 HK HR1 HO1
  clear u0 u1 u2 u3 u4 u5 u6 u7 u8 u9 uf
  clear c1 c2 c3 cf
  revert hu2 hk2 hr2 ho2
  generalize w1.setCell ⟨w.heap.size + 1 + 1, 0, none⟩ (.int .i64 (v : Int)) = w2
  intro hu2 hk2 hr2 ho2
  have HU2 := hide hu2
  have HK2 := hide hk2
  have HR2 := hide hr2
  have HO2 := hide ho2
  clear hu2 hk2 hr2 ho2
  have hb2 : Holds w2 (w.heap.size + 1) 60 s (.ok x.1) := ⟨hi', a, unhide HK2⟩
  have hu2 : Blk w2 (w.heap.size + 1 + 1) #[.int .i64 (v : Int), .int .i64 0, .int .i64 0, .int .i64 0, .int .i64 0, .int .i64 0, .int .i64 0, .int .i64 0, .int .i64 0, .int .i64 0] 44 := by simpa [zone0] using unhide HU2
  clear HU2
  have HU2 := hide hu2
  have HB2 := hide hb2
  clear hb2 hu2 HK2
  go_wp2_with (go_at_call 15; refine (ref_eat' (w.heap.size + 1) s _ 32 32 rfl 60 _ (unhide HB2) hs (by decide)).mono ?_)
  rintro e w3 ⟨rfl, hb3, ho3⟩
  have HU3 := hide (Blk.only (unhide HU2) ho3 (by simp))
  have HR3 := hide (Blk.only (unhide HR2) ho3 (by simp))
  have HO3 := hide ((unhide HO2).step ho3 (by simp))
  have HB3 := hide hb3
  clear hb3 ho3 HU2 HR2 HO2 HB2
  go_wp2_with (go_at_call 16; refine (ref_number' (w.heap.size + 1) s _ 1 120 3 1 120 3 rfl rfl rfl 60 _ (unhide HB3) hs (by decide) (by decide)).mono ?_)
  rintro e w4 ⟨sh, rfl, hb4, ho4, hv4, hl4⟩
  have HU4 := hide (Blk.only (unhide HU3) ho4 (by simp))
  have HR4 := hide (Blk.only (unhide HR3) ho4 (by simp))
  have HO4 := hide ((unhide HO3).step ho4 (by simp))
  have HB4 := hide hb4
  have HV4 := hide hv4
  clear hb4 ho4 HU3 HR3 HO3 HB3 hv4
  have uf := (unhide HU4).frozen
  have u1 := (unhide HU4).cell 1
  simp [zone0, rdr] at u1
  have hU4 : Blk (w4.setCell ⟨w.heap.size + 1 + 1, 1, none⟩ (.int .i64 (sh : Int))) (w.heap.size + 1 + 1) #[.int .i64 (v : Int), .int .i64 sh, .int .i64 0, .int .i64 0, .int .i64 0, .int .i64 0, .int .i64 0, .int .i64 0, .int .i64 0, .int .i64 0] 44 := by simpa using (unhide HU4).set 1 (.int .i64 (sh : Int))
  have hR4 : Blk (w4.setCell ⟨w.heap.size + 1 + 1, 1, none⟩ (.int .i64 (sh : Int))) w.heap.size zone0 44 := (unhide HR4).setOther (by simp; omega) _
  have hO4 : Only [] w (w4.setCell ⟨w.heap.size + 1 + 1, 1, none⟩ (.int .i64 (sh : Int))) := (unhide HO4).setNew (by simp; omega) _
  have hB4 := (unhide HB4).setOther (p := ⟨w.heap.size + 1 + 1, 1, none⟩) (by simp) (.int .i64 (sh : Int))
  clear HU4 HR4 HO4 HB4
  have HU4 := hide hU4
  have HR4 := hide hR4
  have HO4 := hide hO4
  have HB4 := hide hB4
  clear hU4 hR4 hO4 hB4
  go_wp2_with (go_at_call 15; refine (ref_eat' (w.heap.size + 1) s _ 32 32 rfl 60 _ (unhide HB4) hs (by decide)).mono ?_)
  rintro e w5 ⟨rfl, hb5, ho5⟩
  have HU5 := hide (Blk.only (unhide HU4) ho5 (by simp))
  have HR5 := hide (Blk.only (unhide HR4) ho5 (by simp))
  have HO5 := hide ((unhide HO4).step ho5 (by simp))
  have HB5 := hide hb5
  clear hb5 ho5 HU4 HR4 HO4 HB4
  clear u1 uf
  go_wp2_with (go_at_call 17; refine (ref_rule (w.heap.size + 1) s _ 60 _ (unhide HB5) hs).mono ?_)
  rintro e w6 ⟨ra, rfl, hb6, ho6, hv6, hl6⟩
  unfold rulV
  have HU6 := hide (Blk.only (unhide HU5) ho6 (by simp))
  have HR6 := hide (Blk.only (unhide HR5) ho6 (by simp))
  have HO6 := hide ((unhide HO5).step ho6 (by simp))
  have HB6 := hide hb6
  have HV6 := hide hv6
  clear hb6 ho6 HU5 HR5 HO5 HB5 hv6
  have uf := (unhide HU6).frozen
  have u2 := (unhide HU6).cell 2
  have u3 := (unhide HU6).cell 3
  have u4 := (unhide HU6).cell 4
  have u5 := (unhide HU6).cell 5
  simp [zone0, rdr] at u2 u3 u4 u5
  have hU6 : Blk ((((w6.setCell ⟨w.heap.size + 1 + 1, 2, none⟩ (.int .i64 (ra.month : Nat))).setCell ⟨w.heap.size + 1 + 1, 3, none⟩ (.int .i64 (ra.week : Nat))).setCell ⟨w.heap.size + 1 + 1, 4, none⟩ (.int .i64 (ra.day : Nat))).setCell ⟨w.heap.size + 1 + 1, 5, none⟩ (.int .i64 (ra.time : Nat))) (w.heap.size + 1 + 1) #[.int .i64 (v : Int), .int .i64 sh, .int .i64 ra.month, .int .i64 ra.week, .int .i64 ra.day, .int .i64 ra.time, .int .i64 0, .int .i64 0, .int .i64 0, .int .i64 0] 44 := by simpa using (((((unhide HU6).set 2 (.int .i64 (ra.month : Nat))).set 3 (.int .i64 (ra.week : Nat))).set 4 (.int .i64 (ra.day : Nat))).set 5 (.int .i64 (ra.time : Nat)))
  have hR6 : Blk ((((w6.setCell ⟨w.heap.size + 1 + 1, 2, none⟩ (.int .i64 (ra.month : Nat))).setCell ⟨w.heap.size + 1 + 1, 3, none⟩ (.int .i64 (ra.week : Nat))).setCell ⟨w.heap.size + 1 + 1, 4, none⟩ (.int .i64 (ra.day : Nat))).setCell ⟨w.heap.size + 1 + 1, 5, none⟩ (.int .i64 (ra.time : Nat))) w.heap.size zone0 44 := (((((unhide HR6).setOther (by simp; omega) _).setOther (by simp; omega) _).setOther (by simp; omega) _).setOther (by simp; omega) _)
  have hO6 : Only [] w ((((w6.setCell ⟨w.heap.size + 1 + 1, 2, none⟩ (.int .i64 (ra.month : Nat))).setCell ⟨w.heap.size + 1 + 1, 3, none⟩ (.int .i64 (ra.week : Nat))).setCell ⟨w.heap.size + 1 + 1, 4, none⟩ (.int .i64 (ra.day : Nat))).setCell ⟨w.heap.size + 1 + 1, 5, none⟩ (.int .i64 (ra.time : Nat))) := (((((unhide HO6).setNew (by simp; omega) _).setNew (by simp; omega) _).setNew (by simp; omega) _).setNew (by simp; omega) _)
  have hB6 := (((((unhide HB6).setOther (p := ⟨w.heap.size + 1 + 1, 2, none⟩) (by simp) (.int .i64 (ra.month : Nat))).setOther (p := ⟨w.heap.size + 1 + 1, 3, none⟩) (by simp) (.int .i64 (ra.week : Nat))).setOther (p := ⟨w.heap.size + 1 + 1, 4, none⟩) (by simp) (.int .i64 (ra.day : Nat))).setOther (p := ⟨w.heap.size + 1 + 1, 5, none⟩) (by simp) (.int .i64 (ra.time : Nat)))
  clear HU6 HR6 HO6 HB6
  have HU6 := hide hU6
  have HR6 := hide hR6
  have HO6 := hide hO6
  have HB6 := hide hB6
  clear hU6 hR6 hO6 hB6
  go_wp2_with (go_at_call 15; refine (ref_eat' (w.heap.size + 1) s _ 32 32 rfl 60 _ (unhide HB6) hs (by decide)).mono ?_)
  rintro e w7 ⟨rfl, hb7, ho7⟩
  have HU7 := hide (Blk.only (unhide HU6) ho7 (by simp))
  have HR7 := hide (Blk.only (unhide HR6) ho7 (by simp))
  have HO7 := hide ((unhide HO6).step ho7 (by simp))
  have HB7 := hide hb7
  clear hb7 ho7 HU6 HR6 HO6 HB6
  clear u2 u3 u4 u5 uf
  obtain ⟨i7, bad7, a7, hi7, hblk7, hok7, _⟩ := (unhide HB7).place
  have hc7 := hblk7.cell 1
  simp [rdr] at hc7
  have HOK7 := hide hok7
  clear hblk7 hok7
  go_wp2_with (go_at_call 17; refine (ref_rule (w.heap.size + 1) s _ 60 _ (unhide HB7) hs).mono ?_)
  rintro e w8 ⟨rb, rfl, hb8, ho8, hv8, hl8⟩
  unfold rulV
  have HU8 := hide (Blk.only (unhide HU7) ho8 (by simp))
  have HR8 := hide (Blk.only (unhide HR7) ho8 (by simp))
  have HO8 := hide ((unhide HO7).step ho8 (by simp))
  have HB8 := hide hb8
  have HV8 := hide hv8
  clear hb8 ho8 HU7 HR7 HO7 HB7 hv8
  clear hc7
  have uf := (unhide HU8).frozen
  have u2 := (unhide HU8).cell 2
  have u6 := (unhide HU8).cell 6
  have u7 := (unhide HU8).cell 7
  have u8 := (unhide HU8).cell 8
  have u9 := (unhide HU8).cell 9
  simp [zone0, rdr] at u2 u6 u7 u8 u9
  obtain ⟨i8, bad8, a8, hi8, hblk8, hok8, herr8⟩ := (unhide HB8).place
  have HOK8 := hide hok8
  have HER8 := hide herr8
  have HK8 := hide hblk8
  clear hok8 herr8 hblk8 HB8
  have cf := (unhide HK8).frozen
  have c1 := (unhide HK8).cell 1
  simp [zone0, rdr] at c1
  have hfin : ∀ bad9 a9 bad10 a10, ((i8 < s.size ∧ bad9 = true ∧ a9 = if bad8 then a8 else i8) ∨ (s.size ≤ i8 ∧ bad9 = bad8 ∧ a9 = a8)) →
      ((ra.month = rb.month ∧ bad10 = true ∧ a10 = if bad9 then a9 else i7) ∨ (ra.month ≠ rb.month ∧ bad10 = bad9 ∧ a10 = a9)) →
      (∀ z', pZone s = .ok z' → (!bad10) = true ∧ (⟨(v : Int), sh, ra, rb⟩ : Zon) = z') ∧ (∀ q, pZone s = .error q → (!bad10) = false ∧ a10 = q) := by
    intro bad9 a9 bad10 a10 h9 h10
    have hz : pZone s = (pRules s (v : Int) x.1).bind fun z => .ok z.2 := by
      unfold pZone pOffset
      rw [if_neg (by rw [unhide HC]; decide)]
      unfold pEat
      rw [if_pos (unhide HC)]
      simp only [Except.bind, Nat.zero_add, unhide HP]
      rw [if_pos hx, unhide HVE]
    rcases rules_cases s (v : Int) x.1 i7 sh ra rb _ _ _ _ _ rfl rfl (unhide HV4) rfl rfl (unhide HV6) rfl (fun j hj => (unhide HOK7 j hj).1) (unhide HV8) with ⟨q, e1, e2⟩ | ⟨k, e1, e2⟩
    · obtain ⟨rfl, rfl⟩ := unhide HER8 q e1
      rw [hz, e2]
      refine ⟨fun z' h => (by cases h), fun q' h => ?_⟩
      cases h
      rcases h9 with ⟨_, rfl, rfl⟩ | ⟨_, rfl, rfl⟩ <;> rcases h10 with ⟨_, rfl, rfl⟩ | ⟨_, rfl, rfl⟩ <;> simp
    · obtain ⟨rfl, rfl⟩ := unhide HOK8 k e1
      rw [hz, e2]
      rcases h9 with ⟨t9, rfl, rfl⟩ | ⟨t9, rfl, rfl⟩
      · rw [if_pos t9]
        refine ⟨fun z' h => (by cases h), fun q' h => ?_⟩
        cases h
        rcases h10 with ⟨_, rfl, rfl⟩ | ⟨_, rfl, rfl⟩ <;> simp
      · rw [if_neg (by omega)]
        rcases h10 with ⟨t10, rfl, rfl⟩ | ⟨t10, rfl, rfl⟩
        · rw [if_pos t10]
          refine ⟨fun z' h => (by cases h), fun q' h => ?_⟩
          cases h
          simp
        · rw [if_neg t10]
          refine ⟨fun z' h => ?_, fun q' h => (by cases h)⟩
          cases h
          simp
  have HFIN := hide hfin
  clear hfin HOK7 HOK8 HER8 HV4 HV6 HV8 HVE HP HC
  by_cases t9 : i8 < s.size
  · have hd9 : decide ((i8 : Int) < s.size) = true := by simp; omega
    go_wp2_with fail
    have hu9 : Blk ((((w8.setCell ⟨w.heap.size + 1 + 1, 6, none⟩ (.int .i64 (rb.month : Nat))).setCell ⟨w.heap.size + 1 + 1, 7, none⟩ (.int .i64 (rb.week : Nat))).setCell ⟨w.heap.size + 1 + 1, 8, none⟩ (.int .i64 (rb.day : Nat))).setCell ⟨w.heap.size + 1 + 1, 9, none⟩ (.int .i64 (rb.time : Nat))) (w.heap.size + 1 + 1) #[.int .i64 (v : Int), .int .i64 sh, .int .i64 ra.month, .int .i64 ra.week, .int .i64 ra.day, .int .i64 ra.time, .int .i64 rb.month, .int .i64 rb.week, .int .i64 rb.day, .int .i64 rb.time] 44 := by simpa using (((((unhide HU8).set 6 (.int .i64 (rb.month : Nat))).set 7 (.int .i64 (rb.week : Nat))).set 8 (.int .i64 (rb.day : Nat))).set 9 (.int .i64 (rb.time : Nat)))
    have hk9 : Blk ((((w8.setCell ⟨w.heap.size + 1 + 1, 6, none⟩ (.int .i64 (rb.month : Nat))).setCell ⟨w.heap.size + 1 + 1, 7, none⟩ (.int .i64 (rb.week : Nat))).setCell ⟨w.heap.size + 1 + 1, 8, none⟩ (.int .i64 (rb.day : Nat))).setCell ⟨w.heap.size + 1 + 1, 9, none⟩ (.int .i64 (rb.time : Nat))) (w.heap.size + 1) (rdr s i8 bad8 a8) 60 := (((((unhide HK8).setOther (by simp) _).setOther (by simp) _).setOther (by simp) _).setOther (by simp) _)
    have hr9 : Blk ((((w8.setCell ⟨w.heap.size + 1 + 1, 6, none⟩ (.int .i64 (rb.month : Nat))).setCell ⟨w.heap.size + 1 + 1, 7, none⟩ (.int .i64 (rb.week : Nat))).setCell ⟨w.heap.size + 1 + 1, 8, none⟩ (.int .i64 (rb.day : Nat))).setCell ⟨w.heap.size + 1 + 1, 9, none⟩ (.int .i64 (rb.time : Nat))) w.heap.size zone0 44 := (((((unhide HR8).setOther (by simp; omega) _).setOther (by simp; omega) _).setOther (by simp; omega) _).setOther (by simp; omega) _)
    have ho9 : Only [] w ((((w8.setCell ⟨w.heap.size + 1 + 1, 6, none⟩ (.int .i64 (rb.month : Nat))).setCell ⟨w.heap.size + 1 + 1, 7, none⟩ (.int .i64 (rb.week : Nat))).setCell ⟨w.heap.size + 1 + 1, 8, none⟩ (.int .i64 (rb.day : Nat))).setCell ⟨w.heap.size + 1 + 1, 9, none⟩ (.int .i64 (rb.time : Nat))) := (((((unhide HO8).setNew (by simp; omega) _).setNew (by simp; omega) _).setNew (by simp; omega) _).setNew (by simp; omega) _)
    clear HU8 HR8 HO8 HK8
    clear u2 u6 u7 u8 u9 uf
    clear c1 cf
    revert hu9 hk9 hr9 ho9
    generalize (((w8.setCell ⟨w.heap.size + 1 + 1, 6, none⟩ (.int .i64 (rb.month : Nat))).setCell ⟨w.heap.size + 1 + 1, 7, none⟩ (.int .i64 (rb.week : Nat))).setCell ⟨w.heap.size + 1 + 1, 8, none⟩ (.int .i64 (rb.day : Nat))).setCell ⟨w.heap.size + 1 + 1, 9, none⟩ (.int .i64 (rb.time : Nat)) = w9
    intro hu9 hk9 hr9 ho9
    have HU9 := hide hu9
    have HK9 := hide hk9
    have HR9 := hide hr9
    have HO9 := hide ho9
    clear hu9 hk9 hr9 ho9
    refine (ref_fail' (w.heap.size + 1) s i8 bad8 a8 i8 i8 rfl 60 _ (unhide HK9)).mono ?_
    rintro e w10 ⟨rfl, hk10', ho10⟩
    obtain ⟨a9, ha9⟩ : ∃ a9, a9 = if bad8 then a8 else i8 := ⟨_, rfl⟩
    have hk10 : Blk w10 (w.heap.size + 1) (rdr s i8 true a9) 60 := by rw [ha9]; exact hk10'
    have HU10 := hide (Blk.only (unhide HU9) ho10 (by simp))
    have HR10 := hide (Blk.only (unhide HR9) ho10 (by simp))
    have HO10 := hide ((unhide HO9).step ho10 (by simp))
    have HK10 := hide hk10
    have Ha9 := hide ha9
    clear hk10 hk10' ho10 HU9 HR9 HO9 HK9 ha9
    by_cases t10 : ra.month = rb.month
    · have uf := (unhide HU10).frozen
      have u2 := (unhide HU10).cell 2
      have u6 := (unhide HU10).cell 6
      simp [zone0, rdr] at u2 u6
      have hdm : ((ra.month : Int) == rb.month) = true := by rw [beq_iff_eq]; omega
      have T10 := hide t10
      clear t10
      go_wp2_with fail
      clear u2 u6 uf
      refine (ref_fail' (w.heap.size + 1) s i8 true a9 i7 i7 rfl 60 _ (unhide HK10)).mono ?_
      rintro e w11 ⟨rfl, hk11', ho11⟩
      obtain ⟨a10, ha10⟩ : ∃ a10, a10 = if true then a9 else i7 := ⟨_, rfl⟩
      have hk11 : Blk w11 (w.heap.size + 1) (rdr s i8 true a10) 60 := by rw [ha10]; exact hk11'
      have HU11 := hide (Blk.only (unhide HU10) ho11 (by simp))
      have HR11 := hide (Blk.only (unhide HR10) ho11 (by simp))
      have HO11 := hide ((unhide HO10).step ho11 (by simp))
      have HK11 := hide hk11
      have Ha10 := hide ha10
      clear hk11 hk11' ho11 HU10 HR10 HO10 HK10 ha10
      have uf := (unhide HU11).frozen
      have u0 := (unhide HU11).cell 0
      have u1 := (unhide HU11).cell 1
      have u2 := (unhide HU11).cell 2
      have u3 := (unhide HU11).cell 3
      have u4 := (unhide HU11).cell 4
      have u5 := (unhide HU11).cell 5
      have u6 := (unhide HU11).cell 6
      have u7 := (unhide HU11).cell 7
      have u8 := (unhide HU11).cell 8
      have u9 := (unhide HU11).cell 9
      simp [zone0, rdr] at u0 u1 u2 u3 u4 u5 u6 u7 u8 u9
      have cf := (unhide HK11).frozen
      have c2 := (unhide HK11).cell 2
      have c3 := (unhide HK11).cell 3
      simp [zone0, rdr] at c2 c3
      have rf := (unhide HR11).frozen
      have r0 := (unhide HR11).cell 0
      have r1 := (unhide HR11).cell 1
      have r2 := (unhide HR11).cell 2
      have r3 := (unhide HR11).cell 3
      have r4 := (unhide HR11).cell 4
      have r5 := (unhide HR11).cell 5
      have r6 := (unhide HR11).cell 6
      have r7 := (unhide HR11).cell 7
      have r8 := (unhide HR11).cell 8
      have r9 := (unhide HR11).cell 9
      simp [zone0, rdr] at r0 r1 r2 r3 r4 r5 r6 r7 r8 r9
      go_wp2_with fail
      go_region
      go_wp2
      refine bodyPost_ret (v := .tuple #[zonV ⟨(v : Int), sh, ra, rb⟩, .bool (!true), .int .i64 a10]) (by simp [results, Tryd.results8, go_sem, zonV, Rul.zero, r0, r1, r2, r3, r4, r5, r6, r7, r8, r9]) rfl ⟨⟨(v : Int), sh, ra, rb⟩, (!true), a10, rfl, ?_, ?_⟩
      · refine Only.below (l := []) ?_ (Nat.le_refl _) (by simp)
        exact Only.drew ((((((((((unhide HO11).setNew (by simp) _).setNew (by simp) _).setNew (by simp) _).setNew (by simp) _).setNew (by simp) _).setNew (by simp) _).setNew (by simp) _).setNew (by simp) _).setNew (by simp) _ |>.setNew (by simp) _)
      · exact unhide HFIN true a9 true a10 (.inl ⟨t9, rfl, unhide Ha9⟩) (.inl ⟨unhide T10, rfl, unhide Ha10⟩)
    · have uf := (unhide HU10).frozen
      have u0 := (unhide HU10).cell 0
      have u1 := (unhide HU10).cell 1
      have u2 := (unhide HU10).cell 2
      have u3 := (unhide HU10).cell 3
      have u4 := (unhide HU10).cell 4
      have u5 := (unhide HU10).cell 5
      have u6 := (unhide HU10).cell 6
      have u7 := (unhide HU10).cell 7
      have u8 := (unhide HU10).cell 8
      have u9 := (unhide HU10).cell 9
      simp [zone0, rdr] at u0 u1 u2 u3 u4 u5 u6 u7 u8 u9
      have cf := (unhide HK10).frozen
      have c2 := (unhide HK10).cell 2
      have c3 := (unhide HK10).cell 3
      simp [zone0, rdr] at c2 c3
      have rf := (unhide HR10).frozen
      have r0 := (unhide HR10).cell 0
      have r1 := (unhide HR10).cell 1
      have r2 := (unhide HR10).cell 2
      have r3 := (unhide HR10).cell 3
      have r4 := (unhide HR10).cell 4
      have r5 := (unhide HR10).cell 5
      have r6 := (unhide HR10).cell 6
      have r7 := (unhide HR10).cell 7
      have r8 := (unhide HR10).cell 8
      have r9 := (unhide HR10).cell 9
      simp [zone0, rdr] at r0 r1 r2 r3 r4 r5 r6 r7 r8 r9
      have hdm : ((ra.month : Int) == rb.month) = false := by rw [beq_eq_false_iff_ne]; omega
      go_wp2
      go_region
      go_wp2
      refine bodyPost_ret (v := .tuple #[zonV ⟨(v : Int), sh, ra, rb⟩, .bool (!true), .int .i64 a9]) (by simp [results, Tryd.results8, go_sem, zonV, Rul.zero, r0, r1, r2, r3, r4, r5, r6, r7, r8, r9]) rfl ⟨⟨(v : Int), sh, ra, rb⟩, (!true), a9, rfl, ?_, ?_⟩
      · refine Only.below (l := []) ?_ (Nat.le_refl _) (by simp)
        exact Only.drew ((((((((((unhide HO10).setNew (by simp) _).setNew (by simp) _).setNew (by simp) _).setNew (by simp) _).setNew (by simp) _).setNew (by simp) _).setNew (by simp) _).setNew (by simp) _).setNew (by simp) _ |>.setNew (by simp) _)
      · exact unhide HFIN true a9 true a9 (.inl ⟨t9, rfl, unhide Ha9⟩) (.inr ⟨t10, rfl, rfl⟩)
  · have hd9 : decide ((i8 : Int) < s.size) = false := by simp; omega
    by_cases t10 : ra.month = rb.month
    · have hdm : ((ra.month : Int) == rb.month) = true := by rw [beq_iff_eq]; omega
      have T10 := hide t10
      clear t10
      go_wp2_with fail
      have hu9 : Blk ((((w8.setCell ⟨w.heap.size + 1 + 1, 6, none⟩ (.int .i64 (rb.month : Nat))).setCell ⟨w.heap.size + 1 + 1, 7, none⟩ (.int .i64 (rb.week : Nat))).setCell ⟨w.heap.size + 1 + 1, 8, none⟩ (.int .i64 (rb.day : Nat))).setCell ⟨w.heap.size + 1 + 1, 9, none⟩ (.int .i64 (rb.time : Nat))) (w.heap.size + 1 + 1) #[.int .i64 (v : Int), .int .i64 sh, .int .i64 ra.month, .int .i64 ra.week, .int .i64 ra.day, .int .i64 ra.time, .int .i64 rb.month, .int .i64 rb.week, .int .i64 rb.day, .int .i64 rb.time] 44 := by simpa using (((((unhide HU8).set 6 (.int .i64 (rb.month : Nat))).set 7 (.int .i64 (rb.week : Nat))).set 8 (.int .i64 (rb.day : Nat))).set 9 (.int .i64 (rb.time : Nat)))
      have hk9 : Blk ((((w8.setCell ⟨w.heap.size + 1 + 1, 6, none⟩ (.int .i64 (rb.month : Nat))).setCell ⟨w.heap.size + 1 + 1, 7, none⟩ (.int .i64 (rb.week : Nat))).setCell ⟨w.heap.size + 1 + 1, 8, none⟩ (.int .i64 (rb.day : Nat))).setCell ⟨w.heap.size + 1 + 1, 9, none⟩ (.int .i64 (rb.time : Nat))) (w.heap.size + 1) (rdr s i8 bad8 a8) 60 := (((((unhide HK8).setOther (by simp) _).setOther (by simp) _).setOther (by simp) _).setOther (by simp) _)
      have hr9 : Blk ((((w8.setCell ⟨w.heap.size + 1 + 1, 6, none⟩ (.int .i64 (rb.month : Nat))).setCell ⟨w.heap.size + 1 + 1, 7, none⟩ (.int .i64 (rb.week : Nat))).setCell ⟨w.heap.size + 1 + 1, 8, none⟩ (.int .i64 (rb.day : Nat))).setCell ⟨w.heap.size + 1 + 1, 9, none⟩ (.int .i64 (rb.time : Nat))) w.heap.size zone0 44 := (((((unhide HR8).setOther (by simp; omega) _).setOther (by simp; omega) _).setOther (by simp; omega) _).setOther (by simp; omega) _)
      have ho9 : Only [] w ((((w8.setCell ⟨w.heap.size + 1 + 1, 6, none⟩ (.int .i64 (rb.month : Nat))).setCell ⟨w.heap.size + 1 + 1, 7, none⟩ (.int .i64 (rb.week : Nat))).setCell ⟨w.heap.size + 1 + 1, 8, none⟩ (.int .i64 (rb.day : Nat))).setCell ⟨w.heap.size + 1 + 1, 9, none⟩ (.int .i64 (rb.time : Nat))) := (((((unhide HO8).setNew (by simp; omega) _).setNew (by simp; omega) _).setNew (by simp; omega) _).setNew (by simp; omega) _)
      clear HU8 HR8 HO8 HK8
      clear u2 u6 u7 u8 u9 uf
      clear c1 cf
      revert hu9 hk9 hr9 ho9
      generalize (((w8.setCell ⟨w.heap.size + 1 + 1, 6, none⟩ (.int .i64 (rb.month : Nat))).setCell ⟨w.heap.size + 1 + 1, 7, none⟩ (.int .i64 (rb.week : Nat))).setCell ⟨w.heap.size + 1 + 1, 8, none⟩ (.int .i64 (rb.day : Nat))).setCell ⟨w.heap.size + 1 + 1, 9, none⟩ (.int .i64 (rb.time : Nat)) = w9
      intro hu9 hk9 hr9 ho9
      have HU9 := hide hu9
      have HK9 := hide hk9
      have HR9 := hide hr9
      have HO9 := hide ho9
      clear hu9 hk9 hr9 ho9
      refine (ref_fail' (w.heap.size + 1) s i8 bad8 a8 i7 i7 rfl 60 _ (unhide HK9)).mono ?_
      rintro e w10 ⟨rfl, hk10', ho10⟩
      obtain ⟨a10, ha10⟩ : ∃ a10, a10 = if bad8 then a8 else i7 := ⟨_, rfl⟩
      have hk10 : Blk w10 (w.heap.size + 1) (rdr s i8 true a10) 60 := by rw [ha10]; exact hk10'
      have HU10 := hide (Blk.only (unhide HU9) ho10 (by simp))
      have HR10 := hide (Blk.only (unhide HR9) ho10 (by simp))
      have HO10 := hide ((unhide HO9).step ho10 (by simp))
      have HK10 := hide hk10
      have Ha10 := hide ha10
      clear hk10 hk10' ho10 HU9 HR9 HO9 HK9 ha10
      have uf := (unhide HU10).frozen
      have u0 := (unhide HU10).cell 0
      have u1 := (unhide HU10).cell 1
      have u2 := (unhide HU10).cell 2
      have u3 := (unhide HU10).cell 3
      have u4 := (unhide HU10).cell 4
      have u5 := (unhide HU10).cell 5
      have u6 := (unhide HU10).cell 6
      have u7 := (unhide HU10).cell 7
      have u8 := (unhide HU10).cell 8
      have u9 := (unhide HU10).cell 9
      simp [zone0, rdr] at u0 u1 u2 u3 u4 u5 u6 u7 u8 u9
      have cf := (unhide HK10).frozen
      have c2 := (unhide HK10).cell 2
      have c3 := (unhide HK10).cell 3
      simp [zone0, rdr] at c2 c3
      have rf := (unhide HR10).frozen
      have r0 := (unhide HR10).cell 0
      have r1 := (unhide HR10).cell 1
      have r2 := (unhide HR10).cell 2
      have r3 := (unhide HR10).cell 3
      have r4 := (unhide HR10).cell 4
      have r5 := (unhide HR10).cell 5
      have r6 := (unhide HR10).cell 6
      have r7 := (unhide HR10).cell 7
      have r8 := (unhide HR10).cell 8
      have r9 := (unhide HR10).cell 9
      simp [zone0, rdr] at r0 r1 r2 r3 r4 r5 r6 r7 r8 r9
      go_wp2_with fail
      go_region
      go_wp2
      refine bodyPost_ret (v := .tuple #[zonV ⟨(v : Int), sh, ra, rb⟩, .bool (!true), .int .i64 a10]) (by simp [results, Tryd.results8, go_sem, zonV, Rul.zero, r0, r1, r2, r3, r4, r5, r6, r7, r8, r9]) rfl ⟨⟨(v : Int), sh, ra, rb⟩, (!true), a10, rfl, ?_, ?_⟩
      · refine Only.below (l := []) ?_ (Nat.le_refl _) (by simp)
        exact Only.drew ((((((((((unhide HO10).setNew (by simp) _).setNew (by simp) _).setNew (by simp) _).setNew (by simp) _).setNew (by simp) _).setNew (by simp) _).setNew (by simp) _).setNew (by simp) _).setNew (by simp) _ |>.setNew (by simp) _)
      · exact unhide HFIN bad8 a8 true a10 (.inr ⟨by omega, rfl, rfl⟩) (.inl ⟨unhide T10, rfl, unhide Ha10⟩)
    · have hdm : ((ra.month : Int) == rb.month) = false := by rw [beq_eq_false_iff_ne]; omega
      go_wp2
      have hu9 : Blk ((((w8.setCell ⟨w.heap.size + 1 + 1, 6, none⟩ (.int .i64 (rb.month : Nat))).setCell ⟨w.heap.size + 1 + 1, 7, none⟩ (.int .i64 (rb.week : Nat))).setCell ⟨w.heap.size + 1 + 1, 8, none⟩ (.int .i64 (rb.day : Nat))).setCell ⟨w.heap.size + 1 + 1, 9, none⟩ (.int .i64 (rb.time : Nat))) (w.heap.size + 1 + 1) #[.int .i64 (v : Int), .int .i64 sh, .int .i64 ra.month, .int .i64 ra.week, .int .i64 ra.day, .int .i64 ra.time, .int .i64 rb.month, .int .i64 rb.week, .int .i64 rb.day, .int .i64 rb.time] 44 := by simpa using (((((unhide HU8).set 6 (.int .i64 (rb.month : Nat))).set 7 (.int .i64 (rb.week : Nat))).set 8 (.int .i64 (rb.day : Nat))).set 9 (.int .i64 (rb.time : Nat)))
      have hk9 : Blk ((((w8.setCell ⟨w.heap.size + 1 + 1, 6, none⟩ (.int .i64 (rb.month : Nat))).setCell ⟨w.heap.size + 1 + 1, 7, none⟩ (.int .i64 (rb.week : Nat))).setCell ⟨w.heap.size + 1 + 1, 8, none⟩ (.int .i64 (rb.day : Nat))).setCell ⟨w.heap.size + 1 + 1, 9, none⟩ (.int .i64 (rb.time : Nat))) (w.heap.size + 1) (rdr s i8 bad8 a8) 60 := (((((unhide HK8).setOther (by simp) _).setOther (by simp) _).setOther (by simp) _).setOther (by simp) _)
      have hr9 : Blk ((((w8.setCell ⟨w.heap.size + 1 + 1, 6, none⟩ (.int .i64 (rb.month : Nat))).setCell ⟨w.heap.size + 1 + 1, 7, none⟩ (.int .i64 (rb.week : Nat))).setCell ⟨w.heap.size + 1 + 1, 8, none⟩ (.int .i64 (rb.day : Nat))).setCell ⟨w.heap.size + 1 + 1, 9, none⟩ (.int .i64 (rb.time : Nat))) w.heap.size zone0 44 := (((((unhide HR8).setOther (by simp; omega) _).setOther (by simp; omega) _).setOther (by simp; omega) _).setOther (by simp; omega) _)
      have ho9 : Only [] w ((((w8.setCell ⟨w.heap.size + 1 + 1, 6, none⟩ (.int .i64 (rb.month : Nat))).setCell ⟨w.heap.size + 1 + 1, 7, none⟩ (.int .i64 (rb.week : Nat))).setCell ⟨w.heap.size + 1 + 1, 8, none⟩ (.int .i64 (rb.day : Nat))).setCell ⟨w.heap.size + 1 + 1, 9, none⟩ (.int .i64 (rb.time : Nat))) := (((((unhide HO8).setNew (by simp; omega) _).setNew (by simp; omega) _).setNew (by simp; omega) _).setNew (by simp; omega) _)
      clear HU8 HR8 HO8 HK8
      clear u2 u6 u7 u8 u9 uf
      clear c1 cf
      revert hu9 hk9 hr9 ho9
      generalize (((w8.setCell ⟨w.heap.size + 1 + 1, 6, none⟩ (.int .i64 (rb.month : Nat))).setCell ⟨w.heap.size + 1 + 1, 7, none⟩ (.int .i64 (rb.week : Nat))).setCell ⟨w.heap.size + 1 + 1, 8, none⟩ (.int .i64 (rb.day : Nat))).setCell ⟨w.heap.size + 1 + 1, 9, none⟩ (.int .i64 (rb.time : Nat)) = w9
      intro hu9 hk9 hr9 ho9
      have HU9 := hide hu9
      have HK9 := hide hk9
      have HR9 := hide hr9
      have HO9 := hide ho9
      clear hu9 hk9 hr9 ho9
      have uf := (unhide HU9).frozen
      have u0 := (unhide HU9).cell 0
      have u1 := (unhide HU9).cell 1
      have u2 := (unhide HU9).cell 2
      have u3 := (unhide HU9).cell 3
      have u4 := (unhide HU9).cell 4
      have u5 := (unhide HU9).cell 5
      have u6 := (unhide HU9).cell 6
      have u7 := (unhide HU9).cell 7
      have u8 := (unhide HU9).cell 8
      have u9 := (unhide HU9).cell 9
      simp [zone0, rdr] at u0 u1 u2 u3 u4 u5 u6 u7 u8 u9
      have cf := (unhide HK9).frozen
      have c2 := (unhide HK9).cell 2
      have c3 := (unhide HK9).cell 3
      simp [zone0, rdr] at c2 c3
      have rf := (unhide HR9).frozen
      have r0 := (unhide HR9).cell 0
      have r1 := (unhide HR9).cell 1
      have r2 := (unhide HR9).cell 2
      have r3 := (unhide HR9).cell 3
      have r4 := (unhide HR9).cell 4
      have r5 := (unhide HR9).cell 5
      have r6 := (unhide HR9).cell 6
      have r7 := (unhide HR9).cell 7
      have r8 := (unhide HR9).cell 8
      have r9 := (unhide HR9).cell 9
      simp [zone0, rdr] at r0 r1 r2 r3 r4 r5 r6 r7 r8 r9
      go_region
      go_wp2
      refine bodyPost_ret (v := .tuple #[zonV ⟨(v : Int), sh, ra, rb⟩, .bool (!bad8), .int .i64 a8]) (by simp [results, Tryd.results8, go_sem, zonV, Rul.zero, r0, r1, r2, r3, r4, r5, r6, r7, r8, r9]) rfl ⟨⟨(v : Int), sh, ra, rb⟩, (!bad8), a8, rfl, ?_, ?_⟩
      · refine Only.below (l := []) ?_ (Nat.le_refl _) (by simp)
        exact Only.drew ((((((((((unhide HO9).setNew (by simp) _).setNew (by simp) _).setNew (by simp) _).setNew (by simp) _).setNew (by simp) _).setNew (by simp) _).setNew (by simp) _).setNew (by simp) _).setNew (by simp) _ |>.setNew (by simp) _)
      · exact unhide HFIN bad8 a8 bad8 a8 (.inr ⟨by omega, rfl, rfl⟩) (.inr ⟨t10, rfl, rfl⟩)
end Go.Proofs.YtnnhnihgeheahaaDoor
