/- The reference's ParseZone. -/
import Derived.Test.YtnnhnihgeheahaaDoorRefD
import Derived.BigRegion
set_option linter.unusedSimpArgs false
set_option linter.unusedVariables false
namespace Go.Proofs.YtnnhnihgeheahaaDoor
open Go.RowKit

/-- A zone as a value. -/
def zonV (z : Zon) : Value := .agg #[.int .i64 z.offset, .int .i64 z.shift, .int .i64 z.beg.month, .int .i64 z.beg.week, .int .i64 z.beg.day, .int .i64 z.beg.time, .int .i64 z.fin.month, .int .i64 z.fin.week, .int .i64 z.fin.day, .int .i64 z.fin.time]
/-- Its zero. -/
def zone0 : Array Value := #[.int .i64 0, .int .i64 0, .int .i64 0, .int .i64 0, .int .i64 0, .int .i64 0, .int .i64 0, .int .i64 0, .int .i64 0, .int .i64 0]

def ZoneSaid (s : ByteArray) (w : World) (e : Ending) (w' : World) : Prop :=
  ∃ (z : Zon) (ok : Bool) (p : Nat), e = .returned (.tuple #[zonV z, .bool ok, .int .i64 p]) ∧ Below w.heap.size w w' ∧ (∀ z', pZone s = .ok z' → ok = true ∧ z = z') ∧ (∀ q, pZone s = .error q → ok = false ∧ p = q)

set_option maxHeartbeats 2000000 in
theorem ref_zone_no (s : ByteArray) (w : World) (hs : s.size ≤ 281474976710656) (hc1 : byteAt s 0 ≠ 43) (hc2 : byteAt s 0 ≠ 45) :
    Calls Tryd.prog 8 #[.string s] w (ZoneSaid s w) := by
  have hu0 : Blk (((w.alloc (.cells zone0 44)).alloc (.cells (rdr s 0 false 0) 60)).alloc (.cells zone0 44)) (w.heap.size + 1 + 1) zone0 44 := by
    simpa using Blk.new ((w.alloc (.cells zone0 44)).alloc (.cells (rdr s 0 false 0) 60)) zone0 44
  have hr0 : Blk (((w.alloc (.cells zone0 44)).alloc (.cells (rdr s 0 false 0) 60)).alloc (.cells zone0 44)) w.heap.size zone0 44 :=
    ((Blk.new w zone0 44).alloc _).alloc _
  have hb0 : Blk (((w.alloc (.cells zone0 44)).alloc (.cells (rdr s 0 false 0) 60)).alloc (.cells zone0 44)) (w.heap.size + 1) (rdr s 0 false 0) 60 := by
    simpa using (Blk.new (w.alloc (.cells zone0 44)) (rdr s 0 false 0) 60).alloc (.cells zone0 44)
  have ho0 : Only [] w (((w.alloc (.cells zone0 44)).alloc (.cells (rdr s 0 false 0) 60)).alloc (.cells zone0 44)) := (((Only.refl _ _).alloc _).alloc _).alloc _
  have HU0 := hide hu0
  have HR0 := hide hr0
  have HB0 := hide hb0
  have HO0 := hide ho0
  clear hu0 hr0 hb0 ho0
  go_enter Tryd.func8, Tryd.ntmps8
  go_wp2_with (go_at_call 12; refine (ref_peek (w.heap.size + 1) s 0 false 0 60 _ ?_ hs (Nat.zero_le _)).mono ?_; · exact unhide HB0)
  rintro e w0 ⟨rfl, nd, rfl⟩
  rw [show ((peekV s 0 false : Nat) : Int) = (byteAt s 0 : Int) from rfl]
  have hb := byteAt_lt s 0
  have hu0 := (unhide HU0).drewN nd
  have hr0 := (unhide HR0).drewN nd
  have hb0 := (unhide HB0).drewN nd
  have ho0 := (unhide HO0).drewN nd
  clear HU0 HR0 HB0 HO0
  have HU0 := hide hu0
  have HR0 := hide hr0
  have HB0 := hide hb0
  have HO0 := hide ho0
  clear hu0 hr0 hb0 ho0
  have hd1 : ((byteAt s 0 : Int) != 43) = true := by rw [bne_iff_ne]; omega
  have hd2 : ((byteAt s 0 : Int) != 45) = true := by rw [bne_iff_ne]; omega
  have hd3 : ((byteAt s 0 : Int) == 45) = false := by rw [beq_eq_false_iff_ne]; omega
  go_wp2_with (go_at_call 13; refine (ref_fail' (w.heap.size + 1) s 0 false 0 0 0 rfl 60 _ ?_).mono ?_; · exact unhide HB0)
  rintro e w1 ⟨rfl, hb1, ho1⟩
  have HU1 := hide (Blk.only (unhide HU0) ho1 (by simp))
  have HR1 := hide (Blk.only (unhide HR0) ho1 (by simp))
  have HO1 := hide ((unhide HO0).step ho1 (by simp))
  have HB1 := hide hb1
  clear hb1 ho1 HU0 HR0 HO0 HB0
  have cf := (unhide HB1).frozen
  have c1 := (unhide HB1).cell 1
  simp [failed, zone0, rdr] at c1
  have hX : Blk (w1.setCell ⟨w.heap.size + 1, 1, none⟩ (.int .i64 1)) (w.heap.size + 1) (rdr s 1 true 0) 60 := by
    simpa [failed, rdr] using (unhide HB1).set 1 (.int .i64 1)
  have hXo : Only [w.heap.size + 1] w1 (w1.setCell ⟨w.heap.size + 1, 1, none⟩ (.int .i64 1)) := (Only.refl _ _).setCell (by simp) _
  have HX := hide hX
  have HXo := hide hXo
  clear hX hXo
  go_wp2_with (go_at_call 14; refine (ref_clock' (w.heap.size + 1) s (.error 0) 0 840 0 0 840 0 rfl rfl rfl 60 _ ?_ hs (by decide) (by decide)).mono ?_; · exact ⟨1, by omega, unhide HX⟩)
  rintro e w2 ⟨v, rfl, hb2, ho2', hv2, hl2⟩
  have ho2 := (unhide HXo).trans ho2'
  clear ho2' HX HXo c1 cf hv2
  have HU2 := hide (Blk.only (unhide HU1) ho2 (by simp))
  have HR2 := hide (Blk.only (unhide HR1) ho2 (by simp))
  have HO2 := hide ((unhide HO1).step ho2 (by simp))
  have HB2 := hide hb2
  clear hb2 ho2 HU1 HR1 HO1 HB1
  obtain ⟨i, hi', hblk⟩ : ∃ i : Nat, i ≤ s.size + 1 ∧ Blk w2 (w.heap.size + 1) (rdr s i true 0) 60 := unhide HB2
  have HK := hide hblk
  clear hblk
  have uf := (unhide HU2).frozen
  have u0 := (unhide HU2).cell 0
  have u1 := (unhide HU2).cell 1
  have u2 := (unhide HU2).cell 2
  have u3 := (unhide HU2).cell 3
  have u4 := (unhide HU2).cell 4
  have u5 := (unhide HU2).cell 5
  have u6 := (unhide HU2).cell 6
  have u7 := (unhide HU2).cell 7
  have u8 := (unhide HU2).cell 8
  have u9 := (unhide HU2).cell 9
  simp [zone0, rdr] at u0 u1 u2 u3 u4 u5 u6 u7 u8 u9
  have cf := (unhide HK).frozen
  have c1 := (unhide HK).cell 1
  have c2 := (unhide HK).cell 2
  have c3 := (unhide HK).cell 3
  simp [zone0, rdr] at c1 c2 c3
  have rf := (unhide HR2).frozen
  have r0 := (unhide HR2).cell 0
  have r1 := (unhide HR2).cell 1
  have r2 := (unhide HR2).cell 2
  have r3 := (unhide HR2).cell 3
  have r4 := (unhide HR2).cell 4
  have r5 := (unhide HR2).cell 5
  have r6 := (unhide HR2).cell 6
  have r7 := (unhide HR2).cell 7
  have r8 := (unhide HR2).cell 8
  have r9 := (unhide HR2).cell 9
  simp [zone0, rdr] at r0 r1 r2 r3 r4 r5 r6 r7 r8 r9
  go_wp2
  have hu3 : Blk (w2.setCell ⟨w.heap.size + 1 + 1, 0, none⟩ (.int .i64 (v : Int))) (w.heap.size + 1 + 1) (zone0.setIfInBounds 0 (.int .i64 (v : Int))) 44 := (unhide HU2).set 0 _
  have hk3 : Blk (w2.setCell ⟨w.heap.size + 1 + 1, 0, none⟩ (.int .i64 (v : Int))) (w.heap.size + 1) (rdr s i true 0) 60 := (unhide HK).setOther (by simp) _
  have hr3 : Blk (w2.setCell ⟨w.heap.size + 1 + 1, 0, none⟩ (.int .i64 (v : Int))) w.heap.size zone0 44 := (unhide HR2).setOther (by simp; omega) _
  have ho3 : Only [] w (w2.setCell ⟨w.heap.size + 1 + 1, 0, none⟩ (.int .i64 (v : Int))) := (unhide HO2).setNew (by simp; omega) _
  clear HU2 HK HR2 HO2 HB2
  clear u0 u1 u2 u3 u4 u5 u6 u7 u8 u9 uf
  clear c1 c2 c3 cf
  clear r0 r1 r2 r3 r4 r5 r6 r7 r8 r9 rf
  revert hu3 hk3 hr3 ho3
  generalize w2.setCell ⟨w.heap.size + 1 + 1, 0, none⟩ (.int .i64 (v : Int)) = w3
  intro hu3 hk3 hr3 ho3
  have HU3 := hide hu3
  have HK3 := hide hk3
  have HR3 := hide hr3
  have HO3 := hide ho3
  clear hu3 hk3 hr3 ho3
  have uf := (unhide HU3).frozen
  have u0 := (unhide HU3).cell 0
  have u1 := (unhide HU3).cell 1
  have u2 := (unhide HU3).cell 2
  have u3 := (unhide HU3).cell 3
  have u4 := (unhide HU3).cell 4
  have u5 := (unhide HU3).cell 5
  have u6 := (unhide HU3).cell 6
  have u7 := (unhide HU3).cell 7
  have u8 := (unhide HU3).cell 8
  have u9 := (unhide HU3).cell 9
  simp [zone0, rdr] at u0 u1 u2 u3 u4 u5 u6 u7 u8 u9
  have cf := (unhide HK3).frozen
  have c2 := (unhide HK3).cell 2
  have c3 := (unhide HK3).cell 3
  simp [zone0, rdr] at c2 c3
  have rf := (unhide HR3).frozen
  have r0 := (unhide HR3).cell 0
  have r1 := (unhide HR3).cell 1
  have r2 := (unhide HR3).cell 2
  have r3 := (unhide HR3).cell 3
  have r4 := (unhide HR3).cell 4
  have r5 := (unhide HR3).cell 5
  have r6 := (unhide HR3).cell 6
  have r7 := (unhide HR3).cell 7
  have r8 := (unhide HR3).cell 8
  have r9 := (unhide HR3).cell 9
  simp [zone0, rdr] at r0 r1 r2 r3 r4 r5 r6 r7 r8 r9
  go_region
  go_wp2
  refine bodyPost_ret (v := .tuple #[zonV ⟨v, 0, .zero, .zero⟩, .bool false, .int .i64 0]) (by simp [results, Tryd.results8, go_sem, zonV, Rul.zero, r0, r1, r2, r3, r4, r5, r6, r7, r8, r9]) rfl ⟨⟨v, 0, .zero, .zero⟩, false, 0, rfl, ?_, ?_⟩
  · refine Only.below (l := []) ?_ (Nat.le_refl _) (by simp)
    exact Only.drew ((((((((((unhide HO3).setNew (by simp) _).setNew (by simp) _).setNew (by simp) _).setNew (by simp) _).setNew (by simp) _).setNew (by simp) _).setNew (by simp) _).setNew (by simp) _).setNew (by simp) _ |>.setNew (by simp) _)
  · have hp : pZone s = .error 0 := by
      unfold pZone pOffset pEat
      rw [if_neg hc2, if_neg hc1]
      rfl
    rw [hp]
    exact ⟨fun z hz => (by cases hz), fun q hq => (by cases hq; exact ⟨rfl, rfl⟩)⟩
end Go.Proofs.YtnnhnihgeheahaaDoor
