/- The program's summer, shown. -/
import Derived.Test.YtdepepggfoiefaaGreatDoorCalD
import Derived.Test.YtdepepggfoiefaaGreatDoorRefU
set_option linter.unusedSimpArgs false
set_option linter.unusedVariables false
namespace Go.Proofs.YtdepepggfoiefaaGreatDoor
open Go.RowKit

def zonA (off : Int) (sh m1 k1 d1 t1 m2 k2 d2 t2 : Nat) : Array Value := #[.int .i64 off, .int .i64 sh, .int .i64 m1, .int .i64 k1, .int .i64 d1, .int .i64 t1, .int .i64 m2, .int .i64 k2, .int .i64 d2, .int .i64 t2]

/-- What the region of 'summer' holds: the zone's cells in block b. -/
abbrev ZS (w : World) (b : Nat) (sh m2 k2 d2 t2 : Nat) (w' : World) : Prop :=
  (w'.cell? ⟨b, 1, none⟩ = some (.int .i64 (sh : Int)) ∧ w'.cell? ⟨b, 6, none⟩ = some (.int .i64 (m2 : Int)) ∧ w'.cell? ⟨b, 7, none⟩ = some (.int .i64 (k2 : Int)) ∧ w'.cell? ⟨b, 8, none⟩ = some (.int .i64 (d2 : Int)) ∧ w'.cell? ⟨b, 9, none⟩ = some (.int .i64 (t2 : Int))) ∧ Hid (Only [] w w') ∧ Hid (Months w')
theorem ZS.months {w : World} {b sh m2 k2 d2 t2 : Nat} {w' : World} (h : ZS w b sh m2 k2 d2 t2 w') : Months w' := h.2.2
theorem ZS.next {w : World} {b sh m2 k2 d2 t2 : Nat} {w' w1 : World} (h : ZS w b sh m2 k2 d2 t2 w') (ho : Only [] w' w1) : ZS w b sh m2 k2 d2 t2 w1 := by
  obtain ⟨⟨u0, u1, u2, u3, u4⟩, HO, HM⟩ := h
  exact ⟨⟨cell_keep ho u0, cell_keep ho u1, cell_keep ho u2, cell_keep ho u3, cell_keep ho u4⟩, (unhide HO).trans ho, (unhide HM).only ho (by simp)⟩

set_option maxRecDepth 4000 in
set_option maxHeartbeats 4000000 in
theorem code_summer (z : Zon) (s : Int) (w : World) (hM : Months w) (hz : z.Good) (hs1 : -3000000 ≤ s) (hs2 : s ≤ 80000000) :
    Calls Tryz.prog 32 #[zonV z, .int .i64 s] w fun e w' => e = .returned (.bool (Cal.summer z s)) ∧ Only [] w w' := by
  obtain ⟨⟨ho1, ho2⟩, hsh, hru⟩ := hz
  by_cases h0 : z.shift = 0
  · have HF : Hid (Cal.summer z s = false) := by simp [Hid, Cal.summer, h0]
    unfold zonV
    rw [h0]
    clear hru hM
    go_enter Tryz.func32, Tryz.ntmps32
    go_wp2
    go_ret
    exact ⟨ret_bool (unhide HF).symm, (Only.refl _ _).alloc _⟩
  · obtain ⟨hg1, hg2⟩ := hru h0
    obtain ⟨D, hD⟩ : ∃ D, D = (s + 5260320).toNat / 1440 := ⟨_, rfl⟩
    have hDi : s / 1440 = (D : Int) - 3653 := by omega
    have hDb : 600 ≤ D ∧ D ≤ 70000 := by omega
    have HF : Hid (Cal.summer z s = Cal.summerAt z (Cal.yr D) s) := by simp only [Hid, Cal.summer, if_neg h0, ← hD]
    have HDI := hide hDi
    have HM := hide hM
    clear hD hru hM hDi
    obtain ⟨off, sh, ⟨m1, k1, d1, t1⟩, ⟨m2, k2, d2, t2⟩⟩ := z
    simp only at *
    unfold zonV
    have h0i : ((sh : Int) == 0) = false := by rw [beq_eq_false_iff_ne]; omega
    have hz0 : Blk (w.alloc (.cells (zonA off sh m1 k1 d1 t1 m2 k2 d2 t2) 40)) w.heap.size (zonA off sh m1 k1 d1 t1 m2 k2 d2 t2) 40 := Blk.new _ _ _
    have HZ0 := hide hz0
    have HO0 := hide ((Only.refl [] w).alloc (.cells (zonA off sh m1 k1 d1 t1 m2 k2 d2 t2) 40))
    have HM0 := hide ((unhide HM).alloc (.cells (zonA off sh m1 k1 d1 t1 m2 k2 d2 t2) 40))
    clear hz0
    go_enter Tryz.func32, Tryz.ntmps32
    go_wp2_with (first
      | (go_at_call 25; refine (code_floorDiv' s 1440 _ _ (by omega) (by omega) _ (by omega) (by omega) (by omega) (by omega)).mono ?_; rintro e w1 ⟨rfl, rfl⟩; rw [unhide HDI])
      | (go_at_call 46; refine (code_yearOf D _ (by omega) _ (by omega) (by omega)).mono ?_; rintro e w1 ⟨n, hn, hyn, rfl, rfl⟩
         have HF2 : Hid (Cal.summer ⟨off, sh, ⟨m1, k1, d1, t1⟩, ⟨m2, k2, d2, t2⟩⟩ s = Cal.summerAt ⟨off, sh, ⟨m1, k1, d1, t1⟩, ⟨m2, k2, d2, t2⟩⟩ n s) := by rw [← Cal.yr_eq hyn]; exact unhide HF
         clear hyn HF
         have hA := Cal.ruleMin_bd n _ hn hg1
         have hB := Cal.ruleMin_bd n _ hn hg2
         obtain ⟨A, hA'⟩ : ∃ A, A = Cal.ruleMin n ⟨m1, k1, d1, t1⟩ := ⟨_, rfl⟩
         obtain ⟨B, hB'⟩ : ∃ B, B = Cal.ruleMin n ⟨m2, k2, d2, t2⟩ := ⟨_, rfl⟩
         rw [← hA'] at hA
         rw [← hB'] at hB
         have HA := hide hA'
         have HB := hide hB'
         clear hA' hB')
      | (go_at_call 52; refine (code_minute n ⟨m1, k1, d1, t1⟩ _ (by omega) _ (unhide HM0) (by omega) hg1).mono ?_; rintro e w2 ⟨rfl, hc2⟩; rw [← unhide HA]
         have HZ2 := hide ((unhide HZ0).only hc2 (by simp))
         have HO2 := hide ((unhide HO0).trans hc2)
         have HM2 := hide ((unhide HM0).only hc2 (by simp))
         clear HZ0 HO0 HM0 hc2
         have uf := (unhide HZ2).frozen
         have u0 := (unhide HZ2).cell 0
         have u1 := (unhide HZ2).cell 1
         have u2 := (unhide HZ2).cell 2
         have u3 := (unhide HZ2).cell 3
         have u4 := (unhide HZ2).cell 4
         have u5 := (unhide HZ2).cell 5
         have u6 := (unhide HZ2).cell 6
         have u7 := (unhide HZ2).cell 7
         have u8 := (unhide HZ2).cell 8
         have u9 := (unhide HZ2).cell 9
         simp [zonA] at u0 u1 u2 u3 u4 u5 u6 u7 u8 u9))
    have hwr : IntKind.i64.wrap (B - (sh : Int)) = B - sh := by simp only [IntKind.wrap_i64]; omega
    have hk0 : ZS w2 w.heap.size sh m2 k2 d2 t2 w2.drew := ⟨⟨u1, u6, u7, u8, u9⟩, (Only.refl [] w2).drew, unhide HM2⟩
    have HK0 := hide hk0
    clear hk0
    go_region_held3 (fun w' => (w'.cell? ⟨w.heap.size, 1, none⟩ = some (.int .i64 (sh : Int)) ∧ w'.cell? ⟨w.heap.size, 6, none⟩ = some (.int .i64 (m2 : Int)) ∧ w'.cell? ⟨w.heap.size, 7, none⟩ = some (.int .i64 (k2 : Int)) ∧ w'.cell? ⟨w.heap.size, 8, none⟩ = some (.int .i64 (d2 : Int)) ∧ w'.cell? ⟨w.heap.size, 9, none⟩ = some (.int .i64 (t2 : Int))) ∧ Hid (Only [] w2 w') ∧ Hid (Months w')) (first | exact unhide HK0 | exact unhide HK1)
      ((
      go_at_call 52
      refine (code_minute n ⟨m2, k2, d2, t2⟩ _ (by omega) _ (ZS.months (w := w2) (b := w.heap.size) (sh := sh) (m2 := m2) (k2 := k2) (d2 := d2) (t2 := t2) (by assumption)) (by omega) hg2).mono ?_
      rintro e w3 ⟨rfl, hc3⟩
      rw [← unhide HB]
      have HK1 := hide (ZS.next (w := w2) (b := w.heap.size) (sh := sh) (m2 := m2) (k2 := k2) (d2 := d2) (t2 := t2) (by assumption) hc3)
      clear hc3))
    have hO3 := (unhide HK1).2.1
    have HZ3 := hide ((unhide HZ2).only (unhide hO3) (by simp))
    have HO3 := hide ((unhide HO2).trans (unhide hO3))
    have hmm1 := hg1.month
    have hmm2 := hg2.month
    simp only at hmm1 hmm2
    clear HZ2 HO2 HM2 HK0 hO3 uf u0 u1 u2 u3 u4 u5 u6 u7 u8 u9 hg1 hg2 HM
    have uf := (unhide HZ3).frozen
    have u2 := (unhide HZ3).cell 2
    have u6 := (unhide HZ3).cell 6
    simp [zonA] at u2 u6
    have HFF : Hid (Cal.summer ⟨off, sh, ⟨m1, k1, d1, t1⟩, ⟨m2, k2, d2, t2⟩⟩ s = if m1 < m2 then decide (A ≤ s) && decide (s < B - sh) else decide (A ≤ s) || decide (s < B - sh)) := by
      simp only [Hid, unhide HF2, Cal.summerAt, ← unhide HA, ← unhide HB]
    clear HF2 HA HB
    by_cases c1 : m1 < m2 <;> by_cases c2 : A ≤ s <;> by_cases c3 : s < B - sh
    all_goals
      go_wp2
      go_ret
      refine ⟨ret_bool ?_, unhide HO3⟩
      rw [unhide HFF]
      simp [c1, c2, c3]

set_option maxRecDepth 4000 in
set_option maxHeartbeats 4000000 in
theorem code_shown (z : Zon) (t : Int) (w : World) (hM : Months w) (hz : z.Good) (ht1 : 0 ≤ t) (ht2 : t ≤ 70000000) :
    Calls Tryz.prog 12 #[zonV z, .int .i64 t] w fun e w' => e = .returned (.int .i64 (Cal.shown z t)) ∧ Only [] w w' := by
  obtain ⟨ho1, ho2⟩ := hz.offset
  have hs2 := hz.shift
  have HG := hide hz
  have HM := hide hM
  clear hz hM
  obtain ⟨S, hS⟩ : ∃ S, S = Cal.summer z (t + z.offset) := ⟨_, rfl⟩
  have HF : Hid (Cal.shown z t = t + z.offset + (if S then (z.shift : Int) else 0)) := by rw [hS]; rfl
  have HS := hide hS
  clear hS
  obtain ⟨off, sh, ⟨m1, k1, d1, t1⟩, ⟨m2, k2, d2, t2⟩⟩ := z
  simp only at *
  unfold zonV
  have hz0 : Blk (w.alloc (.cells (zonA off sh m1 k1 d1 t1 m2 k2 d2 t2) 40)) w.heap.size (zonA off sh m1 k1 d1 t1 m2 k2 d2 t2) 40 := Blk.new _ _ _
  have HZ0 := hide hz0
  have HO0 := hide ((Only.refl [] w).alloc (.cells (zonA off sh m1 k1 d1 t1 m2 k2 d2 t2) 40))
  have HM0 := hide ((unhide HM).alloc (.cells (zonA off sh m1 k1 d1 t1 m2 k2 d2 t2) 40))
  clear hz0
  go_enter Tryz.func12, Tryz.ntmps12
  go_wp2_with (
    go_at_call 32
    refine (code_summer ⟨off, sh, ⟨m1, k1, d1, t1⟩, ⟨m2, k2, d2, t2⟩⟩ (t + off) _ (unhide HM0) (unhide HG) (by omega) (by omega)).mono ?_
    rintro e w1 ⟨rfl, ho⟩
    rw [← unhide HS]
    have HZ1 := hide ((unhide HZ0).only ho (by simp))
    have HO1 := hide ((unhide HO0).trans ho)
    clear HZ0 HO0 ho HS HG
    have uf := (unhide HZ1).frozen
    have u0 := (unhide HZ1).cell 0
    have u1 := (unhide HZ1).cell 1
    simp [zonA] at u0 u1
    cases S)
  all_goals
    go_ret
    refine ⟨ret_int ?_, unhide HO1⟩
    rw [unhide HF]
    simp
end Go.Proofs.YtdepepggfoiefaaGreatDoor
