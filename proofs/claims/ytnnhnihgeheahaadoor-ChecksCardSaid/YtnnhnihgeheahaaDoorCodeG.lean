/- The program's readClock. -/
import Derived.Test.YtnnhnihgeheahaaDoorCodeF
import Derived.Deep.Cut
set_option linter.unusedSimpArgs false
set_option linter.unusedVariables false
namespace Go.Proofs.YtnnhnihgeheahaaDoor
open Go.RowKit

def ReadSaid (s : ByteArray) (w : World) (e : Ending) (w' : World) : Prop :=
  Below w.heap.size w w' ∧ ∃ (z : Zon) (n : Int) (p : Nat), e = .returned (.tuple #[zonV z, .int .i64 n, .int .i64 p]) ∧ (100 < s.size → n = 1 ∧ p = 0) ∧
    (s.size ≤ 100 → (∀ z', pZone s = .ok z' → n = 0 ∧ p = 0 ∧ z = z') ∧ (∀ q, pZone s = .error q → n = 2 ∧ p = q))

theorem zonV_eq (z : Zon) : zonV z = .agg (zonC z) := rfl
theorem zone0_eq : zone0 = zonC ⟨0, 0, .zero, .zero⟩ := rfl

set_option maxHeartbeats 1000000 in
theorem c_read_long (s : ByteArray) (w : World) (hs : s.size ≤ 281474976710656) (hl : 100 < s.size) : Calls Tryd.prog 10 #[.string s] w (ReadSaid s w) := by
  have hd : decide ((100 : Int) < s.size) = true := by simp; omega
  go_enter Tryd.func10, Tryd.ntmps10
  go_wp2
  refine bodyPost_ret (v := .tuple #[zonV ⟨0, 0, .zero, .zero⟩, .int .i64 1, .int .i64 0]) (by simp [results, Tryd.results10, go_sem, zonV, Rul.zero]) rfl ⟨?_, ⟨0, 0, .zero, .zero⟩, 1, 0, rfl, fun _ => ⟨rfl, rfl⟩, fun h => by omega⟩
  exact (Below.refl _ _).alloc (Nat.le_refl _) _

set_option maxHeartbeats 1000000 in
theorem c_read_short (s : ByteArray) (w : World) (hl : s.size ≤ 100) (hE : Errs w) : Calls Tryd.prog 10 #[.string s] w (ReadSaid s w) := by
  have hd : decide ((100 : Int) < s.size) = false := by simp; omega
  have hs : s.size ≤ 281474976710656 := by omega
  have HE := hide hE
  obtain ⟨⟨_, _, hg1⟩, ⟨_, _, hg2⟩⟩ := hE
  have hg1 := cell_lt hg1
  have hg2 := cell_lt hg2
  simp only [] at hg1 hg2
  go_enter Tryd.func10, Tryd.ntmps10
  have hb0 : HoldsC ((w.alloc (.cells zone0 32)).alloc (.cells (rdr s 0 false 0) 68)) (w.heap.size + 1) 68 s (.ok 0) := ⟨Nat.zero_le _, 0, by simpa using Blk.new (w.alloc (.cells zone0 32)) (rdr s 0 false 0) 68⟩
  have hr0 : Blk ((w.alloc (.cells zone0 32)).alloc (.cells (rdr s 0 false 0) 68)) w.heap.size zone0 32 := (Blk.new w zone0 32).alloc _
  have ho0 : Only [] w ((w.alloc (.cells zone0 32)).alloc (.cells (rdr s 0 false 0) 68)) := ((Only.refl _ _).alloc _).alloc _
  have HB0 := hide hb0
  have HR0 := hide hr0
  have HO0 := hide ho0
  clear hb0 hr0 ho0
  go_wp2_with (go_at_call 19; refine (c_offset (w.heap.size + 1) s 68 _ ?_ hs).mono ?_; · exact unhide HB0)
  rintro e w1 ⟨o, rfl, hb1, ho1, hv1, hl1, hl1'⟩
  have HR1 := hide (Blk.only (unhide HR0) ho1 (by simp))
  have HO1 := hide ((unhide HO0).step ho1 (by simp))
  have hsz : w.heap.size + 1 < w1.heap.size := hb1.lt
  clear HR0 HO0 HB0 ho1
  obtain ⟨i1, bad1, a1, hi1, hblk1, hok1, herr1⟩ := hb1.place
  have hu2 : Blk (w1.alloc (.cells #[.int .i64 o, .int .i64 0, .int .i64 0, .int .i64 0, .int .i64 0, .int .i64 0, .int .i64 0, .int .i64 0, .int .i64 0, .int .i64 0] 32)) w1.heap.size (zonC ⟨o, 0, .zero, .zero⟩) 32 := Blk.new _ _ _
  have hb2 := hb1.alloc (.cells #[.int .i64 o, .int .i64 0, .int .i64 0, .int .i64 0, .int .i64 0, .int .i64 0, .int .i64 0, .int .i64 0, .int .i64 0, .int .i64 0] 32)
  have hk2 := hblk1.alloc (.cells #[.int .i64 o, .int .i64 0, .int .i64 0, .int .i64 0, .int .i64 0, .int .i64 0, .int .i64 0, .int .i64 0, .int .i64 0, .int .i64 0] 32)
  have hr2 := (unhide HR1).alloc (.cells #[.int .i64 o, .int .i64 0, .int .i64 0, .int .i64 0, .int .i64 0, .int .i64 0, .int .i64 0, .int .i64 0, .int .i64 0, .int .i64 0] 32)
  have ho2 := (unhide HO1).alloc (.cells #[.int .i64 o, .int .i64 0, .int .i64 0, .int .i64 0, .int .i64 0, .int .i64 0, .int .i64 0, .int .i64 0, .int .i64 0, .int .i64 0] 32)
  have HOK1 := hide hok1
  have HER1 := hide herr1
  have HV1 := hide hv1
  have HU2 := hide hu2
  have HB2 := hide hb2
  have HK2 := hide hk2
  have HR2 := hide hr2
  have HO2 := hide ho2
  clear hb1 hblk1 hok1 herr1 hv1 hu2 hb2 hk2 hr2 ho2 HR1 HO1
  go_upto_region 5 with fail
  revert HU2 HB2 HK2 HR2 HO2
  generalize (w1.alloc (.cells #[.int .i64 o, .int .i64 0, .int .i64 0, .int .i64 0, .int .i64 0, .int .i64 0, .int .i64 0, .int .i64 0, .int .i64 0, .int .i64 0] 32)) = w2
  intro HU2 HB2 HK2 HR2 HO2
  obtain ⟨bc, hbc⟩ : ∃ bc, bc = w1.heap.size := ⟨_, rfl⟩
  rw [← hbc] at HU2 hsz
  rw [← hbc]
  clear hbc
  by_cases t1 : i1 < s.size
  · have cf := (unhide HK2).frozen
    have c1 := (unhide HK2).cell 1
    simp [zone0, zonC, rdr, Rul.zero] at c1
    have hd1 : decide ((i1 : Int) < s.size) = true := by simp; omega
    go_wp2_with (go_at_call 20; refine (c_rules (w.heap.size + 1) bc s (posOf (pOffset s)) o 68 _ ?_ ?_ (by omega) hs ?_ (by omega) (by omega) (by omega) (by omega)).mono ?_)
    · exact unhide HB2
    · exact unhide HU2
    · exact (unhide HE).only (unhide HO2) (by simp) (by simp)
    rintro e w3 ⟨z, rfl, hb3, hu3, ho3, hv3⟩
    have HU3 := hide hu3
    have HR3 := hide (Blk.only (unhide HR2) ho3 (by simp; omega))
    have HO3 := hide ((unhide HO2).step ho3 (by simp; omega))
    obtain ⟨i3, bad3, a3, hi3, hblk3, hok3, herr3⟩ := hb3.place
    have hfin : (bad3 = true → pZone s = .error a3) ∧ (bad3 = false → pZone s = .ok z) := by
      cases hP : pOffset s with
      | error q =>
        have hz : pZone s = .error q := by unfold pZone; rw [hP]; rfl
        obtain ⟨rfl, rfl⟩ := herr3 q (by rw [hP]; rfl)
        exact ⟨fun _ => hz, fun h => (by cases h)⟩
      | ok k =>
        obtain ⟨rfl, _⟩ := unhide HOK1 k.1 (by rw [hP]; rfl)
        have ho : o = k.2 := unhide HV1 k hP
        subst ho
        have hz : pZone s = (pRules s k.2 k.1).bind fun z => .ok z.2 := by
          unfold pZone
          rw [hP]
          simp only [Except.bind]
          rw [if_pos t1]
        have hs2 : (posOf (pOffset s)).bind (pRules s k.2) = pRules s k.2 k.1 := by rw [hP]; rfl
        rw [hs2] at hok3 herr3 hv3
        cases hQ : pRules s k.2 k.1 with
        | error q =>
          rw [hQ] at hz
          obtain ⟨rfl, rfl⟩ := herr3 q (by rw [hQ]; rfl)
          exact ⟨fun _ => hz, fun h => (by cases h)⟩
        | ok y =>
          rw [hQ] at hz
          obtain ⟨rfl, rfl⟩ := hok3 y.1 (by rw [hQ]; rfl)
          rw [hv3 y hQ]
          exact ⟨fun h => (by cases h), fun _ => hz⟩
    have HF := hide hfin
    have HK3 := hide hblk3
    clear c1 cf hb3 hu3 ho3 hv3 hok3 herr3 hblk3 hfin HU2 HB2 HK2 HR2 HO2 HOK1 HER1 HV1
    have cf := (unhide HK3).frozen
    have c2 := (unhide HK3).cell 2
    have c3 := (unhide HK3).cell 3
    simp [zone0, zonC, rdr, Rul.zero] at c2 c3
    have rf := (unhide HR3).frozen
    have r0 := (unhide HR3).cell 0
    have r1 := (unhide HR3).cell 1
    have r2 := (unhide HR3).cell 2
    have r3 := (unhide HR3).cell 3
    have r4 := (unhide HR3).cell 4
    have r5 := (unhide HR3).cell 5
    have r6 := (unhide HR3).cell 6
    have r7 := (unhide HR3).cell 7
    have r8 := (unhide HR3).cell 8
    have r9 := (unhide HR3).cell 9
    simp [zone0, zonC, rdr, Rul.zero] at r0 r1 r2 r3 r4 r5 r6 r7 r8 r9
    have uf := (unhide HU3).frozen
    have u0 := (unhide HU3).cell 0
    have u1 := (unhide HU3).cell 1
    have u2 := (unhide HU3).cell 2
    have u3 := (unhide HU3).cell 3
    have u4 := (unhide HU3).cell 4
    have u5 := (unhide HU3).cell 5
    have u6 := (unhide HU3).cell 6
    have u7 := (unhide HU3).cell 7
    have u8 := (unhide HU3).cell 8
    have u9 := (unhide HU3).cell 9
    simp [zone0, zonC, rdr, Rul.zero] at u0 u1 u2 u3 u4 u5 u6 u7 u8 u9
    cases bad3
    · have hz0 := (unhide HF).2 rfl
      have HZ := hide hz0
      clear HF hz0
      go_wp2
      refine bodyPost_ret (v := .tuple #[zonV z, .int .i64 0, .int .i64 0]) (by simp [results, Tryd.results10, go_sem, zonV, Rul.zero, r0, r1, r2, r3, r4, r5, r6, r7, r8, r9]) rfl ⟨?_, z, 0, 0, rfl, fun h => (by omega), fun _ => ⟨fun z' hz => ?_, fun q hq => ?_⟩⟩
      · refine Only.below (l := []) ?_ (Nat.le_refl _) (by simp)
        exact ((((((((((unhide HO3).setNew (by simp) _).setNew (by simp) _).setNew (by simp) _).setNew (by simp) _).setNew (by simp) _).setNew (by simp) _).setNew (by simp) _).setNew (by simp) _).setNew (by simp) _).setNew (by simp) _
      · rw [unhide HZ] at hz
        cases hz
        exact ⟨rfl, rfl, rfl⟩
      · rw [unhide HZ] at hq
        cases hq
    · have hz0 := (unhide HF).1 rfl
      have HZ := hide hz0
      clear HF hz0
      go_wp2
      go_region
      go_wp2
      refine bodyPost_ret (v := .tuple #[zonV ⟨0, 0, .zero, .zero⟩, .int .i64 2, .int .i64 a3]) (by simp [results, Tryd.results10, go_sem, zonV, Rul.zero, r0, r1, r2, r3, r4, r5, r6, r7, r8, r9]) rfl ⟨?_, ⟨0, 0, .zero, .zero⟩, 2, a3, rfl, fun h => (by omega), fun _ => ⟨fun z' hz => ?_, fun q hq => ?_⟩⟩
      · refine Only.below (l := []) ?_ (Nat.le_refl _) (by simp)
        exact Only.drew (((((((((((unhide HO3).setNew (by simp) _).setNew (by simp) _).setNew (by simp) _).setNew (by simp) _).setNew (by simp) _).setNew (by simp) _).setNew (by simp) _).setNew (by simp) _).setNew (by simp) _).setNew (by simp) _)
      · rw [unhide HZ] at hz
        cases hz
      · rw [unhide HZ] at hq
        cases hq
        exact ⟨rfl, rfl⟩
  · have hd1 : decide ((i1 : Int) < s.size) = false := by simp; omega
    have hfin : (bad1 = true → pZone s = .error a1) ∧ (bad1 = false → pZone s = .ok ⟨o, 0, .zero, .zero⟩) := by
      cases hP : pOffset s with
      | error q =>
        have hz : pZone s = .error q := by unfold pZone; rw [hP]; rfl
        obtain ⟨rfl, rfl⟩ := unhide HER1 q (by rw [hP]; rfl)
        exact ⟨fun _ => hz, fun h => (by cases h)⟩
      | ok k =>
        obtain ⟨rfl, rfl⟩ := unhide HOK1 k.1 (by rw [hP]; rfl)
        have ho : o = k.2 := unhide HV1 k hP
        subst ho
        refine ⟨fun h => (by cases h), fun _ => ?_⟩
        unfold pZone
        rw [hP]
        simp only [Except.bind]
        rw [if_neg t1]
    have HF := hide hfin
    clear hfin HOK1 HER1 HV1 HB2
    have cf := (unhide HK2).frozen
    have c1 := (unhide HK2).cell 1
    have c2 := (unhide HK2).cell 2
    have c3 := (unhide HK2).cell 3
    simp [zone0, zonC, rdr, Rul.zero] at c1 c2 c3
    have rf := (unhide HR2).frozen
    have r0 := (unhide HR2).cell 0
    have r1 := (unhide HR2).cell 1
    have r2 := (unhide HR2).cell 2
    have r3 := (unhide HR2).cell 3
    have r4 := (unhide HR2).cell 4
    have r5 := (unhide HR2).cell 5
    have r6 := (unhide HR2).cell 6
    have r7 := (unhide HR2).cell 7
    have r8 := (unhide HR2).cell 8
    have r9 := (unhide HR2).cell 9
    simp [zone0, zonC, rdr, Rul.zero] at r0 r1 r2 r3 r4 r5 r6 r7 r8 r9
    have uf := (unhide HU2).frozen
    have u0 := (unhide HU2).cell 0
    have u1 := (unhide HU2).cell 1
    have u2 := (unhide HU2).cell 2
    have u3 := (unhide HU2).cell 3
    have u4 := (unhide HU2).cell 4
    have u5 := (unhide HU2).cell 5
    have u6 := (unhide HU2).cell 6
    have u7 := (unhide HU2).cell 7
    have u8 := (unhide HU2).cell 8
    have u9 := (unhide HU2).cell 9
    simp [zone0, zonC, rdr, Rul.zero] at u0 u1 u2 u3 u4 u5 u6 u7 u8 u9
    cases bad1
    · have hz0 := (unhide HF).2 rfl
      have HZ := hide hz0
      clear HF hz0
      go_wp2
      refine bodyPost_ret (v := .tuple #[zonV ⟨o, 0, .zero, .zero⟩, .int .i64 0, .int .i64 0]) (by simp [results, Tryd.results10, go_sem, zonV, Rul.zero, r0, r1, r2, r3, r4, r5, r6, r7, r8, r9]) rfl ⟨?_, ⟨o, 0, .zero, .zero⟩, 0, 0, rfl, fun h => (by omega), fun _ => ⟨fun z' hz => ?_, fun q hq => ?_⟩⟩
      · refine Only.below (l := []) ?_ (Nat.le_refl _) (by simp)
        exact ((((((((((unhide HO2).setNew (by simp) _).setNew (by simp) _).setNew (by simp) _).setNew (by simp) _).setNew (by simp) _).setNew (by simp) _).setNew (by simp) _).setNew (by simp) _).setNew (by simp) _).setNew (by simp) _
      · rw [unhide HZ] at hz
        cases hz
        exact ⟨rfl, rfl, rfl⟩
      · rw [unhide HZ] at hq
        cases hq
    · have hz0 := (unhide HF).1 rfl
      have HZ := hide hz0
      clear HF hz0
      go_wp2
      go_region
      go_wp2
      refine bodyPost_ret (v := .tuple #[zonV ⟨0, 0, .zero, .zero⟩, .int .i64 2, .int .i64 a1]) (by simp [results, Tryd.results10, go_sem, zonV, Rul.zero, r0, r1, r2, r3, r4, r5, r6, r7, r8, r9]) rfl ⟨?_, ⟨0, 0, .zero, .zero⟩, 2, a1, rfl, fun h => (by omega), fun _ => ⟨fun z' hz => ?_, fun q hq => ?_⟩⟩
      · refine Only.below (l := []) ?_ (Nat.le_refl _) (by simp)
        exact Only.drew (((((((((((unhide HO2).setNew (by simp) _).setNew (by simp) _).setNew (by simp) _).setNew (by simp) _).setNew (by simp) _).setNew (by simp) _).setNew (by simp) _).setNew (by simp) _).setNew (by simp) _).setNew (by simp) _)
      · rw [unhide HZ] at hz
        cases hz
      · rw [unhide HZ] at hq
        cases hq
        exact ⟨rfl, rfl⟩

theorem c_read (s : ByteArray) (w : World) (hs : s.size ≤ 281474976710656) (hE : Errs w) : Calls Tryd.prog 10 #[.string s] w (ReadSaid s w) := by
  by_cases h : s.size ≤ 100
  · exact c_read_short s w h hE
  · exact c_read_long s w hs (by omega)
end Go.Proofs.YtnnhnihgeheahaaDoor
