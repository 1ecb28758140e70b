/- The program's clock: turns. -/
import Derived.Test.YtnnhnihgeheahaaGreatDoorMCal
import Derived.Test.YtnnhnihgeheahaaGreatDoorMStr
set_option linter.unusedSimpArgs false
set_option linter.unusedVariables false
namespace Go.Proofs.YtnnhnihgeheahaaGreatDoor
open Go.RowKit

def zonA (off : Int) (sh m1 k1 d1 t1 m2 k2 d2 t2 : Nat) : Array Value := #[.int .i64 off, .int .i64 sh, .int .i64 m1, .int .i64 k1, .int .i64 d1, .int .i64 t1, .int .i64 m2, .int .i64 k2, .int .i64 d2, .int .i64 t2]

/-- What the region of 'turns' holds: the zone's cells in block b. -/
abbrev ZS (w : World) (b : Nat) (sh m2 k2 d2 t2 : Nat) (w' : World) : Prop :=
  (w'.cell? ⟨b, 1, none⟩ = some (.int .i64 (sh : Int)) ∧ w'.cell? ⟨b, 6, none⟩ = some (.int .i64 (m2 : Int)) ∧ w'.cell? ⟨b, 7, none⟩ = some (.int .i64 (k2 : Int)) ∧ w'.cell? ⟨b, 8, none⟩ = some (.int .i64 (d2 : Int)) ∧ w'.cell? ⟨b, 9, none⟩ = some (.int .i64 (t2 : Int))) ∧ Hid (Only [] w w') ∧ Hid (Months w')
theorem ZS.months {w : World} {b sh m2 k2 d2 t2 : Nat} {w' : World} (h : ZS w b sh m2 k2 d2 t2 w') : Months w' := h.2.2
theorem ZS.next {w : World} {b sh m2 k2 d2 t2 : Nat} {w' w1 : World} (h : ZS w b sh m2 k2 d2 t2 w') (ho : Only [] w' w1) : ZS w b sh m2 k2 d2 t2 w1 := by
  obtain ⟨⟨u0, u1, u2, u3, u4⟩, HO, HM⟩ := h
  exact ⟨⟨cell_keep ho u0, cell_keep ho u1, cell_keep ho u2, cell_keep ho u3, cell_keep ho u4⟩, (unhide HO).trans ho, (unhide HM).only ho (by simp)⟩
theorem Cal.ruleMin_bd2 (n : Nat) (r : Rul) (hn : n ≤ 201) (hr : r.Good) : -6000000 ≤ Cal.ruleMin n r ∧ Cal.ruleMin n r ≤ 1000000000 := by
  have h1 := Cal.ruleDay_year n r hr
  have h2 := Cal.yd_le (n + 1)
  have h3 := hr.time
  unfold Cal.ruleMin
  omega

set_option maxRecDepth 4000 in
set_option maxHeartbeats 4000000 in
theorem code_turns (z : Zon) (n : Nat) (y' : Int) (e1 : y' = 1960 + n) (w : World) (hM : Months w) (hz : z.Good) (h0 : z.shift ≠ 0) (hn : n ≤ 201) :
    Calls Tryz.prog 96 #[zonV z, .int .i64 y'] w fun e w' => e = .returned (.tuple #[.int .i64 (Cal.tP z n), .int .i64 (Cal.tQ z n)]) ∧ Only [] w w' := by
  subst e1
  obtain ⟨⟨ho1, ho2⟩, hsh, hru⟩ := hz
  obtain ⟨hg1, hg2⟩ := hru h0
  have HFP : Hid (Cal.tP z n = if Cal.ruleMin n z.beg ≤ Cal.ruleMin n z.fin - z.shift then Cal.ruleMin n z.beg else Cal.ruleMin n z.fin - z.shift) := rfl
  have HFQ : Hid (Cal.tQ z n = if Cal.ruleMin n z.beg ≤ Cal.ruleMin n z.fin - z.shift then Cal.ruleMin n z.fin - z.shift else Cal.ruleMin n z.beg) := rfl
  have HM := hide hM
  clear hru hM h0
  obtain ⟨off, sh, ⟨m1, k1, d1, t1⟩, ⟨m2, k2, d2, t2⟩⟩ := z
  simp only at *
  unfold zonV
  have hz0 : Blk (w.alloc (.cells (zonA off sh m1 k1 d1 t1 m2 k2 d2 t2) 79)) w.heap.size (zonA off sh m1 k1 d1 t1 m2 k2 d2 t2) 79 := Blk.new _ _ _
  have HZ0 := hide hz0
  have HO0 := hide ((Only.refl [] w).alloc (.cells (zonA off sh m1 k1 d1 t1 m2 k2 d2 t2) 79))
  have HM0 := hide ((unhide HM).alloc (.cells (zonA off sh m1 k1 d1 t1 m2 k2 d2 t2) 79))
  clear hz0
  have hA := Cal.ruleMin_bd2 n _ hn hg1
  have hB := Cal.ruleMin_bd2 n _ hn hg2
  obtain ⟨A, hA'⟩ : ∃ A, A = Cal.ruleMin n ⟨m1, k1, d1, t1⟩ := ⟨_, rfl⟩
  obtain ⟨B, hB'⟩ : ∃ B, B = Cal.ruleMin n ⟨m2, k2, d2, t2⟩ := ⟨_, rfl⟩
  rw [← hA'] at hA HFP HFQ
  rw [← hB'] at hB HFP HFQ
  have HA := hide hA'
  have HB := hide hB'
  clear hA' hB'
  go_enter Tryz.func96, Tryz.ntmps96
  go_wp2_with (first
    | (go_at_call 136; refine (code_minute n ⟨m1, k1, d1, t1⟩ _ (by omega) _ (unhide HM0) (by omega) hg1).mono ?_; rintro e w2 ⟨rfl, hc2⟩; rw [← unhide HA]
       have HZ2 := hide ((unhide HZ0).only hc2 (by simp))
       have HO2 := hide ((unhide HO0).trans hc2)
       have HM2 := hide ((unhide HM0).only hc2 (by simp))
       clear HZ0 HO0 HM0 hc2
       have uf := (unhide HZ2).frozen
       have u0 := (unhide HZ2).cell 0
       have u1 := (unhide HZ2).cell 1
       have u2 := (unhide HZ2).cell 2
       have u3 := (unhide HZ2).cell 3
       have u4 := (unhide HZ2).cell 4
       have u5 := (unhide HZ2).cell 5
       have u6 := (unhide HZ2).cell 6
       have u7 := (unhide HZ2).cell 7
       have u8 := (unhide HZ2).cell 8
       have u9 := (unhide HZ2).cell 9
       simp [zonA] at u0 u1 u2 u3 u4 u5 u6 u7 u8 u9))
  have hwr : IntKind.i64.wrap (B - (sh : Int)) = B - sh := by simp only [IntKind.wrap_i64]; omega
  have hk0 : ZS w2 w.heap.size sh m2 k2 d2 t2 w2.drew := ⟨⟨u1, u6, u7, u8, u9⟩, (Only.refl [] w2).drew, unhide HM2⟩
  have HK0 := hide hk0
  clear hk0
  go_region_held3 (fun w' => (w'.cell? ⟨w.heap.size, 1, none⟩ = some (.int .i64 (sh : Int)) ∧ w'.cell? ⟨w.heap.size, 6, none⟩ = some (.int .i64 (m2 : Int)) ∧ w'.cell? ⟨w.heap.size, 7, none⟩ = some (.int .i64 (k2 : Int)) ∧ w'.cell? ⟨w.heap.size, 8, none⟩ = some (.int .i64 (d2 : Int)) ∧ w'.cell? ⟨w.heap.size, 9, none⟩ = some (.int .i64 (t2 : Int))) ∧ Hid (Only [] w2 w') ∧ Hid (Months w')) (first | exact unhide HK0 | exact unhide HK1)
    ((
    go_at_call 136
    refine (code_minute n ⟨m2, k2, d2, t2⟩ _ (by omega) _ (ZS.months (w := w2) (b := w.heap.size) (sh := sh) (m2 := m2) (k2 := k2) (d2 := d2) (t2 := t2) (by assumption)) (by omega) hg2).mono ?_
    rintro e w3 ⟨rfl, hc3⟩
    rw [← unhide HB]
    have HK1 := hide (ZS.next (w := w2) (b := w.heap.size) (sh := sh) (m2 := m2) (k2 := k2) (d2 := d2) (t2 := t2) (by assumption) hc3)
    clear hc3))
  have hO3 := (unhide HK1).2.1
  have HO3 := hide ((unhide HO2).trans (unhide hO3))
  clear HZ2 HO2 HM2 HK0 hO3 uf u0 u1 u2 u3 u4 u5 u6 u7 u8 u9 hg1 hg2 HM HK1
  go_wp2
  all_goals
    go_ret2
    refine ⟨ret_two ?_ ?_, unhide HO3⟩
    · rw [unhide HFP]; split <;> omega
    · rw [unhide HFQ]; split <;> omega

theorem year_facts {D n : Nat} {s : Int} (hD : D = (s + 5260320).toNat / 1440) (hs1 : -3000000 ≤ s) (hyn : Cal.yd n ≤ D ∧ D < Cal.yd (n + 1)) : 1 ≤ n ∧ Cal.Y n ≤ s ∧ s < Cal.Y (n + 1) := by
  refine ⟨?_, ?_, ?_⟩
  · rcases Nat.eq_zero_or_pos n with h | h
    · subst h
      have := Cal.yd_le (0 + 1)
      omega
    · exact h
  · unfold Cal.Y; omega
  · unfold Cal.Y; omega

/-- What 'stretchAt' says. -/
def StretchSaid (z : Zon) (s : Int) (w : World) (e : Ending) (w' : World) : Prop :=
  (∃ (a b ah : Int) (su : Bool), e = .returned (.agg #[.int .i64 a, .int .i64 b, .int .i64 ah]) ∧ Cal.Str z s a b su ∧ (ah = if su then (z.shift : Int) else 0) ∧ -6000000 ≤ a ∧ b ≤ 1000000000) ∧ Only [] w w'

set_option maxRecDepth 4000 in
set_option maxHeartbeats 4000000 in
theorem code_stretchAt0 (z : Zon) (s : Int) (w : World) (hz : Cal.Fine z) (hs1 : -840 ≤ s) (hs2 : s ≤ 70000840) (h0 : z.shift = 0) :
    Calls Tryz.prog 67 #[zonV z, .int .i64 s] w (StretchSaid z s w) := by
  have HS := hide (Cal.str_none h0 (s := s) (a := -840) (b := 70000841) (by omega) (by omega))
  have H0 := hide h0
  obtain ⟨off, sh, ⟨m1, k1, d1, t1⟩, ⟨m2, k2, d2, t2⟩⟩ := z
  simp only at h0
  subst h0
  unfold zonV
  clear hz
  go_enter Tryz.func67, Tryz.ntmps67
  go_wp2
  refine bodyPost_ret (v := .agg #[.int .i64 (-840), .int .i64 70000841, .int .i64 0]) (by simp [results, Tryz.results67, go_sem]) rfl ⟨⟨-840, 70000841, 0, false, rfl, unhide HS, rfl, by omega, by omega⟩, ?_⟩
  exact ((Only.refl [] w).alloc _).alloc _

theorem str_three {z : Zon} (hz : Cal.Fine z) (h0 : z.shift ≠ 0) {n : Nat} {s : Int} (hn : 1 ≤ n) (h1 : Cal.Y n ≤ s) (h2 : s < Cal.Y (n + 1)) :
    (s < Cal.tP z n → Cal.Str z s (Cal.tQ z (n - 1)) (Cal.tP z n) (!Cal.north z)) ∧ (Cal.tP z n ≤ s → s < Cal.tQ z n → Cal.Str z s (Cal.tP z n) (Cal.tQ z n) (Cal.north z)) ∧ (Cal.tQ z n ≤ s → Cal.Str z s (Cal.tQ z n) (Cal.tP z (n + 1)) (!Cal.north z)) := by
  refine ⟨fun h => ?_, fun h k => Cal.str_mid hz h0 hn h k, fun h => ?_⟩
  · obtain ⟨m, rfl⟩ : ∃ m, n = m + 1 := ⟨n - 1, by omega⟩
    have := Cal.turns_bd hz h0 m
    exact Cal.str_out hz h0 (n := m) (by omega) h
  · have := Cal.turns_bd hz h0 (n + 1)
    exact Cal.str_out hz h0 h (by omega)

theorem stretch_done (zz : Zon) (s : Int) (w : World) {tmps : Array Value} {w2 : World} {br : Nat} {x y h : Int} (hr : Blk w2 br #[.int .i64 0, .int .i64 0, .int .i64 0] 135) (hbr : w.heap.size ≤ br) (ho : Only [] w w2)
    (h4 : tmps.getD 4 undef = .pointer (some ⟨br, 0, none⟩)) (su : Bool) (hs : Cal.Str zz s x y su) (hh : h = if su then (zz.shift : Int) else 0) (hx : -6000000 ≤ x) (hy : y ≤ 1000000000) :
    bodyPost Tryz.prog Tryz.f67 (StretchSaid zz s w) Exit.ret { tmps := tmps, defers := [] } (((w2.setCell ⟨br, 0, none⟩ (.int .i64 x)).setCell ⟨br, 1, none⟩ (.int .i64 y)).setCell ⟨br, 2, none⟩ (.int .i64 h)) := by
  have h4' : tmps[4]?.getD undef = .pointer (some ⟨br, 0, none⟩) := by simpa using h4
  have r0 := hr.cell 0
  have r1 := hr.cell 1
  have r2 := hr.cell 2
  simp at r0 r1 r2
  refine bodyPost_ret (v := .agg #[.int .i64 x, .int .i64 y, .int .i64 h]) (by simp [results, Tryz.results67, go_sem, h4', r0, r1, r2]) rfl ⟨⟨x, y, h, su, rfl, hs, hh, hx, hy⟩, ?_⟩
  exact ((ho.setNew hbr _).setNew hbr _).setNew hbr _

set_option maxRecDepth 4000 in
set_option maxHeartbeats 4000000 in
theorem code_stretchAt1 (z : Zon) (s : Int) (w : World) (hM : Months w) (hz : Cal.Fine z) (hs1 : -3000000 ≤ s) (hs2 : s ≤ 80000000) (h0 : z.shift ≠ 0) :
    Calls Tryz.prog 67 #[zonV z, .int .i64 s] w (StretchSaid z s w) := by
  obtain ⟨D, hD⟩ : ∃ D, D = (s + 5260320).toNat / 1440 := ⟨_, rfl⟩
  have hDi : s / 1440 = (D : Int) - 3653 := by omega
  have hDb : 600 ≤ D ∧ D ≤ 70000 := by omega
  have HD := hide hD
  have HDI := hide hDi
  have HM := hide hM
  have HG := hide hz
  clear hD hM hDi hz
  obtain ⟨zz, hzz⟩ : ∃ zz, zz = z := ⟨_, rfl⟩
  rw [← hzz] at HG
  have HNO : Hid (Cal.north zz = decide (z.beg.month < z.fin.month)) := by rw [hzz]; rfl
  have HNE : z.beg.month ≠ z.fin.month := by rw [← hzz]; exact (unhide HG).months (by rw [hzz]; exact h0)
  have HSH : Hid (zz.shift = z.shift) := by rw [hzz]; rfl
  have h0z : Hid (zz.shift ≠ 0) := by rw [hzz]; exact h0
  have hshb := (unhide HG).good.shift
  rw [unhide HSH] at hshb
  rw [← hzz]
  have HZZ := hide hzz
  obtain ⟨off, sh, ⟨m1, k1, d1, t1⟩, ⟨m2, k2, d2, t2⟩⟩ := z
  have hmm1 := ((unhide HG).good.rules (unhide h0z)).1.month
  have hmm2 := ((unhide HG).good.rules (unhide h0z)).2.month
  have hoo := (unhide HG).good.offset
  rw [hzz] at hmm1 hmm2 hoo
  simp only at *
  have hzv : zonV zz = .agg (zonA off sh m1 k1 d1 t1 m2 k2 d2 t2) := by rw [hzz]; rfl
  rw [hzv]
  have HZV := hide hzv
  unfold zonA
  clear hzz hzv
  have h0i : ((sh : Int) == 0) = false := by rw [beq_eq_false_iff_ne]; omega
  have hz0 : Blk (w.alloc (.cells (zonA off sh m1 k1 d1 t1 m2 k2 d2 t2) 79)) w.heap.size (zonA off sh m1 k1 d1 t1 m2 k2 d2 t2) 79 := Blk.new _ _ _
  have hz1 := hz0.alloc (.cells #[.int .i64 0, .int .i64 0, .int .i64 0] 135)
  have hr1 : Blk ((w.alloc (.cells (zonA off sh m1 k1 d1 t1 m2 k2 d2 t2) 79)).alloc (.cells #[.int .i64 0, .int .i64 0, .int .i64 0] 135)) (w.heap.size + 1) #[.int .i64 0, .int .i64 0, .int .i64 0] 135 := by
    simpa using Blk.new (w.alloc (.cells (zonA off sh m1 k1 d1 t1 m2 k2 d2 t2) 79)) #[.int .i64 0, .int .i64 0, .int .i64 0] 135
  have HZ0 := hide hz1
  have HR0 := hide hr1
  have HO0 := hide (((Only.refl [] w).alloc (.cells (zonA off sh m1 k1 d1 t1 m2 k2 d2 t2) 79)).alloc (.cells #[.int .i64 0, .int .i64 0, .int .i64 0] 135))
  have HM0 := hide (((unhide HM).alloc (.cells (zonA off sh m1 k1 d1 t1 m2 k2 d2 t2) 79)).alloc (.cells #[.int .i64 0, .int .i64 0, .int .i64 0] 135))
  clear hz0 hz1 hr1
  go_enter Tryz.func67, Tryz.ntmps67
  by_cases c1 : m2 < m1
  all_goals
    go_wp2_with (first
      | (go_at_call 60; refine (code_floorDiv' s 1440 _ _ (by omega) (by omega) _ (by omega) (by omega) (by omega) (by omega)).mono ?_; rintro e w1 ⟨rfl, rfl⟩; rw [unhide HDI])
      | (go_at_call 90; refine (code_yearOf D _ (by omega) _ (by omega) (by omega)).mono ?_; rintro e w1 ⟨n, hn, hyn, rfl, rfl⟩
         obtain ⟨hn1, hyy⟩ := year_facts (unhide HD) hs1 hyn
         have hP := (Cal.turn_bd (unhide HG) (unhide h0z) n (by omega)).1
         have hQ := (Cal.turn_bd (unhide HG) (unhide h0z) n (by omega)).2
         have hQ' := (Cal.turn_bd (unhide HG) (unhide h0z) (n - 1) (by omega)).2
         have hP' := (Cal.turn_bd (unhide HG) (unhide h0z) (n + 1) (by omega)).1
         obtain ⟨P, hPe⟩ : ∃ P, P = Cal.tP zz n := ⟨_, rfl⟩
         obtain ⟨Q, hQe⟩ : ∃ Q, Q = Cal.tQ zz n := ⟨_, rfl⟩
         obtain ⟨Q', hQe'⟩ : ∃ Q', Q' = Cal.tQ zz (n - 1) := ⟨_, rfl⟩
         obtain ⟨P', hPe'⟩ : ∃ P', P' = Cal.tP zz (n + 1) := ⟨_, rfl⟩
         rw [← hPe] at hP
         rw [← hQe] at hQ
         rw [← hQe'] at hQ'
         rw [← hPe'] at hP'
         have HPE := hide hPe
         have HQE := hide hQe
         have HQE' := hide hQe'
         have HPE' := hide hPe'
         have HYY := hide hyy
         clear hPe hQe hQe' hPe' hyy hyn)
      | (go_at_call 96; rw [show (.agg #[.int .i64 off, .int .i64 sh, .int .i64 m1, .int .i64 k1, .int .i64 d1, .int .i64 t1, .int .i64 m2, .int .i64 k2, .int .i64 d2, .int .i64 t2] : Value) = zonV zz from (unhide HZV).symm]
         refine (code_turns zz n _ (by omega) _ (unhide HM0) (unhide HG).good (unhide h0z) (by omega)).mono ?_; rintro e w2 ⟨rfl, hc2⟩; rw [← unhide HPE, ← unhide HQE]
         have HZ2 := hide ((unhide HZ0).only hc2 (by simp))
         have HR2 := hide ((unhide HR0).only hc2 (by simp))
         have HO2 := hide ((unhide HO0).trans hc2)
         have HM2 := hide ((unhide HM0).only hc2 (by simp))
         clear HZ0 HO0 HM0 HR0 hc2
         have uf := (unhide HZ2).frozen
         have u0 := (unhide HZ2).cell 0
         have u1 := (unhide HZ2).cell 1
         have u2 := (unhide HZ2).cell 2
         have u3 := (unhide HZ2).cell 3
         have u4 := (unhide HZ2).cell 4
         have u5 := (unhide HZ2).cell 5
         have u6 := (unhide HZ2).cell 6
         have u7 := (unhide HZ2).cell 7
         have u8 := (unhide HZ2).cell 8
         have u9 := (unhide HZ2).cell 9
         have rf := (unhide HR2).frozen
         have r0 := (unhide HR2).cell 0
         have r1 := (unhide HR2).cell 1
         have r2 := (unhide HR2).cell 2
         simp [zonA] at u0 u1 u2 u3 u4 u5 u6 u7 u8 u9 r0 r1 r2)
      | (go_at_call 96; rw [show (.agg #[.int .i64 off, .int .i64 sh, .int .i64 m1, .int .i64 k1, .int .i64 d1, .int .i64 t1, .int .i64 m2, .int .i64 k2, .int .i64 d2, .int .i64 t2] : Value) = zonV zz from (unhide HZV).symm]
         refine (code_turns zz (n - 1) _ (by omega) _ (unhide HM2) (unhide HG).good (unhide h0z) (by omega)).mono ?_; rintro e w3 ⟨rfl, hc3⟩; rw [← unhide HQE']
         have hR3 := (unhide HR2).only hc3 (by simp)
         have hO3 := (unhide HO2).trans hc3
         clear HZ2 HO2 HM2 HR2 hc3 uf u0 u1 u2 u3 u4 u5 u6 u7 u8 u9 rf r0 r1 r2
         have HR2 := hide hR3
         have HO2 := hide hO3
         have rf := hR3.frozen
         have r0 := hR3.cell 0
         have r1 := hR3.cell 1
         have r2 := hR3.cell 2
         simp at r0 r1 r2
         clear hR3 hO3)
      | (go_at_call 96; rw [show (.agg #[.int .i64 off, .int .i64 sh, .int .i64 m1, .int .i64 k1, .int .i64 d1, .int .i64 t1, .int .i64 m2, .int .i64 k2, .int .i64 d2, .int .i64 t2] : Value) = zonV zz from (unhide HZV).symm]
         refine (code_turns zz (n + 1) _ (by omega) _ (unhide HM2) (unhide HG).good (unhide h0z) (by omega)).mono ?_; rintro e w3 ⟨rfl, hc3⟩; rw [← unhide HPE']
         have hR3 := (unhide HR2).only hc3 (by simp)
         have hO3 := (unhide HO2).trans hc3
         clear HZ2 HO2 HM2 HR2 hc3 uf u0 u1 u2 u3 u4 u5 u6 u7 u8 u9 rf r0 r1 r2
         have HR2 := hide hR3
         have HO2 := hide hO3
         have rf := hR3.frozen
         have r0 := hR3.cell 0
         have r1 := hR3.cell 1
         have r2 := hR3.cell 2
         simp at r0 r1 r2
         clear hR3 hO3)
      )
    all_goals
      have h3 := str_three (unhide HG) (unhide h0z) hn1 (unhide HYY).1 (unhide HYY).2
      rw [← unhide HPE, ← unhide HQE, ← unhide HQE', ← unhide HPE', unhide HNO] at h3
      first
        | (refine stretch_done zz s w (unhide HR2) (by omega) (unhide HO2) rfl _ (h3.1 (by omega)) ?_ (by omega) (by omega)
           rw [unhide HSH]; simp; omega)
        | (refine stretch_done zz s w (unhide HR2) (by omega) (unhide HO2) rfl _ (h3.2.1 (by omega) (by omega)) ?_ (by omega) (by omega)
           rw [unhide HSH]; simp; omega)
        | (refine stretch_done zz s w (unhide HR2) (by omega) (unhide HO2) rfl _ (h3.2.2 (by omega)) ?_ (by omega) (by omega)
           rw [unhide HSH]; simp; omega)

theorem code_stretchAt (z : Zon) (s : Int) (w : World) (hM : Months w) (hz : Cal.Fine z) (hs1 : -840 ≤ s) (hs2 : s ≤ 70000840) : Calls Tryz.prog 67 #[zonV z, .int .i64 s] w (StretchSaid z s w) := by
  by_cases h0 : z.shift = 0
  · exact code_stretchAt0 z s w hz hs1 hs2 h0
  · exact code_stretchAt1 z s w hM hz (by omega) (by omega) h0
end Go.Proofs.YtnnhnihgeheahaaGreatDoor
