/- The reference's Summer, Clock. -/
import Derived.Test.YtnnhnihgeheahaaGreatDoorRefS
set_option linter.unusedSimpArgs false
set_option linter.unusedVariables false
namespace Go.Proofs.YtnnhnihgeheahaaGreatDoor
open Go.RowKit

/-- A zone's bounds. -/
structure Zon.Good (z : Zon) : Prop where
  offset : -840 ≤ z.offset ∧ z.offset ≤ 840
  shift : z.shift ≤ 120
  rules : z.shift ≠ 0 → z.beg.Good ∧ z.fin.Good

/-- The year of a day. -/
noncomputable def Cal.yr (D : Nat) : Nat := Classical.epsilon fun n => Cal.yd n ≤ D ∧ D < Cal.yd (n + 1)
theorem Cal.yr_eq {D n : Nat} (h : Cal.yd n ≤ D ∧ D < Cal.yd (n + 1)) : Cal.yr D = n :=
  Cal.year_unique (Classical.epsilon_spec (p := fun n => Cal.yd n ≤ D ∧ D < Cal.yd (n + 1)) ⟨n, h⟩) h
theorem Cal.Is.le {D n m k : Nat} (h : Cal.Is D n m k) (hD : D ≤ 70000) : n ≤ 200 := by
  have h1 := h.year.1
  have h2 := Cal.yd_ge n
  omega

noncomputable def Cal.summerAt (z : Zon) (n : Nat) (s : Int) : Bool :=
  if z.beg.month < z.fin.month then decide (Cal.ruleMin n z.beg ≤ s) && decide (s < Cal.ruleMin n z.fin - z.shift) else decide (Cal.ruleMin n z.beg ≤ s) || decide (s < Cal.ruleMin n z.fin - z.shift)
noncomputable def Cal.summer (z : Zon) (s : Int) : Bool :=
  if z.shift = 0 then false else Cal.summerAt z (Cal.yr ((s + 5260320).toNat / 1440)) s

theorem Cal.ruleMin_bd (n : Nat) (r : Rul) (hn : n ≤ 200) (hr : r.Good) : -6000000 ≤ Cal.ruleMin n r ∧ Cal.ruleMin n r ≤ 1000000000 := by
  obtain ⟨⟨hm1, hm2⟩, ⟨hk1, hk2⟩, hd1, ⟨ht1, ht2⟩⟩ := hr
  have h1 := Cal.yd_le n
  have h2 := Cal.md_mono (1960 + n) (show r.month - 1 ≤ 12 by omega)
  rw [Cal.md_12] at h2
  have h3 := (Cal.yl_bd (1960 + n)).2
  have h4 : Cal.late n r ≤ 34 := by unfold Cal.late; omega
  have h5 : Cal.ruleDay n r ≤ 74000 := by
    unfold Cal.ruleDay Cal.first
    split <;> omega
  unfold Cal.ruleMin
  omega

theorem run_date0 (a b c d e : Int) (w : World) : (Instr.field 94 (.agg #[.int .i64 a, .int .i64 b, .int .i64 c, .int .i64 d, .int .i64 e]) 0).run Tryz.prog w = .ok (.int .i64 a) w := by kernel_rfl
theorem run_date1 (a b c d e : Int) (w : World) : (Instr.field 94 (.agg #[.int .i64 a, .int .i64 b, .int .i64 c, .int .i64 d, .int .i64 e]) 1).run Tryz.prog w = .ok (.int .i64 b) w := by kernel_rfl
theorem run_date2 (a b c d e : Int) (w : World) : (Instr.field 94 (.agg #[.int .i64 a, .int .i64 b, .int .i64 c, .int .i64 d, .int .i64 e]) 2).run Tryz.prog w = .ok (.int .i64 c) w := by kernel_rfl
theorem run_date3 (a b c d e : Int) (w : World) : (Instr.field 94 (.agg #[.int .i64 a, .int .i64 b, .int .i64 c, .int .i64 d, .int .i64 e]) 3).run Tryz.prog w = .ok (.int .i64 d) w := by kernel_rfl
theorem run_date4 (a b c d e : Int) (w : World) : (Instr.field 94 (.agg #[.int .i64 a, .int .i64 b, .int .i64 c, .int .i64 d, .int .i64 e]) 4).run Tryz.prog w = .ok (.int .i64 e) w := by kernel_rfl

set_option maxRecDepth 4000 in
set_option maxHeartbeats 4000000 in
theorem ref_Summer (z : Zon) (t : Int) (w : World) (hz : z.Good) (ht1 : -3000000 ≤ t) (ht2 : t ≤ 80000000) :
    Calls Tryz.prog 51 #[zonV z, .int .i64 t] w fun e w' => e = .returned (.bool (Cal.summer z (t + z.offset))) ∧ Only [] w w' := by
  obtain ⟨⟨ho1, ho2⟩, hs2, hru⟩ := hz
  by_cases h0 : z.shift = 0
  · have HF : Hid (Cal.summer z (t + z.offset) = false) := by simp [Hid, Cal.summer, h0]
    unfold zonV
    rw [h0]
    clear hru
    go_enter Tryz.func51, Tryz.ntmps51
    go_wp2
    go_ret
    exact ⟨ret_bool (unhide HF).symm, (Only.refl _ _).alloc _⟩
  · obtain ⟨hg1, hg2⟩ := hru h0
    obtain ⟨S, hS⟩ : ∃ S, S = (t + z.offset + 5260320).toNat := ⟨_, rfl⟩
    have hSi : (t + z.offset) = (S : Int) - 5260320 := by omega
    have hSb : S ≤ 100000000 := by omega
    have HF : Hid (Cal.summer z (t + z.offset) = Cal.summerAt z (Cal.yr (S / 1440)) (t + z.offset)) := by simp only [Hid, Cal.summer, if_neg h0, ← hS]
    have HS := hide hS
    have HSI := hide hSi
    clear hS hSi hru
    obtain ⟨off, sh, ⟨m1, k1, d1, t1⟩, ⟨m2, k2, d2, t2⟩⟩ := z
    simp only at *
    unfold zonV
    have hz0 : Blk (w.alloc (.cells #[.int .i64 off, .int .i64 sh, .int .i64 m1, .int .i64 k1, .int .i64 d1, .int .i64 t1, .int .i64 m2, .int .i64 k2, .int .i64 d2, .int .i64 t2] 32)) w.heap.size #[.int .i64 off, .int .i64 sh, .int .i64 m1, .int .i64 k1, .int .i64 d1, .int .i64 t1, .int .i64 m2, .int .i64 k2, .int .i64 d2, .int .i64 t2] 32 := Blk.new _ _ _
    have HZ0 := hide hz0
    have HO0 := hide ((Only.refl [] w).alloc (.cells #[.int .i64 off, .int .i64 sh, .int .i64 m1, .int .i64 k1, .int .i64 d1, .int .i64 t1, .int .i64 m2, .int .i64 k2, .int .i64 d2, .int .i64 t2] 32))
    clear hz0
    go_enter Tryz.func51, Tryz.ntmps51
    go_wp2_with (go_at_call 46; refine (ref_Show S _ (unhide HSI) _ hSb).mono ?_)
    rintro e w1 ⟨n, m, k, hIs, rfl, ho1⟩
    have hyr := Cal.yr_eq hIs.year
    have hn := hIs.le (by omega)
    have HF2 : Hid (Cal.summer ⟨off, sh, ⟨m1, k1, d1, t1⟩, ⟨m2, k2, d2, t2⟩⟩ (t + off) = Cal.summerAt ⟨off, sh, ⟨m1, k1, d1, t1⟩, ⟨m2, k2, d2, t2⟩⟩ n (t + off)) := by rw [← hyr]; exact unhide HF
    have HZ1 := hide ((unhide HZ0).only ho1 (by simp))
    have HO1 := hide ((unhide HO0).trans ho1)
    clear HF hyr hIs HZ0 HO0 ho1
    obtain ⟨A, hA⟩ : ∃ A, A = Cal.ruleMin n ⟨m1, k1, d1, t1⟩ := ⟨_, rfl⟩
    obtain ⟨B, hB⟩ : ∃ B, B = Cal.ruleMin n ⟨m2, k2, d2, t2⟩ := ⟨_, rfl⟩
    have hAb := Cal.ruleMin_bd n _ hn hg1
    have hBb := Cal.ruleMin_bd n _ hn hg2
    rw [← hA] at hAb
    rw [← hB] at hBb
    have HA := hide hA
    have HB := hide hB
    have HG1 := hide hg1
    have HG2 := hide hg2
    have hmm1 := hg1.month
    have hmm2 := hg2.month
    simp only at hmm1 hmm2
    clear hA hB hg1 hg2
    unfold dateV
    have hfd := run_date0
    have uf := (unhide HZ1).frozen
    have u0 := (unhide HZ1).cell 0
    have u1 := (unhide HZ1).cell 1
    have u2 := (unhide HZ1).cell 2
    have u3 := (unhide HZ1).cell 3
    have u4 := (unhide HZ1).cell 4
    have u5 := (unhide HZ1).cell 5
    have u6 := (unhide HZ1).cell 6
    have u7 := (unhide HZ1).cell 7
    have u8 := (unhide HZ1).cell 8
    have u9 := (unhide HZ1).cell 9
    simp at u0 u1 u2 u3 u4 u5 u6 u7 u8 u9
    go_wp2_with (go_at_call 75; refine (ref_minute n ⟨m1, k1, d1, t1⟩ _ (by omega) _ (by omega) (unhide HG1)).mono ?_)
    rintro e w2 ⟨rfl, ho2⟩
    rw [← unhide HA]
    have HZ2 := hide ((unhide HZ1).only ho2 (by simp))
    have HO2 := hide ((unhide HO1).trans ho2)
    clear HZ1 HO1 ho2 uf u0 u1 u2 u3 u4 u5 u6 u7 u8 u9
    have uf := (unhide HZ2).frozen
    have u0 := (unhide HZ2).cell 0
    have u1 := (unhide HZ2).cell 1
    have u2 := (unhide HZ2).cell 2
    have u3 := (unhide HZ2).cell 3
    have u4 := (unhide HZ2).cell 4
    have u5 := (unhide HZ2).cell 5
    have u6 := (unhide HZ2).cell 6
    have u7 := (unhide HZ2).cell 7
    have u8 := (unhide HZ2).cell 8
    have u9 := (unhide HZ2).cell 9
    simp at u0 u1 u2 u3 u4 u5 u6 u7 u8 u9
    go_wp2_with (go_at_call 75; refine (ref_minute n ⟨m2, k2, d2, t2⟩ _ (by omega) _ (by omega) (unhide HG2)).mono ?_)
    rintro e w3 ⟨rfl, ho3⟩
    rw [← unhide HB]
    have HZ3 := hide ((unhide HZ2).only ho3 (by simp))
    have HO3 := hide ((unhide HO2).trans ho3)
    clear HZ2 HO2 ho3 uf u0 u1 u2 u3 u4 u5 u6 u7 u8 u9
    have uf := (unhide HZ3).frozen
    have u0 := (unhide HZ3).cell 0
    have u1 := (unhide HZ3).cell 1
    have u2 := (unhide HZ3).cell 2
    have u3 := (unhide HZ3).cell 3
    have u4 := (unhide HZ3).cell 4
    have u5 := (unhide HZ3).cell 5
    have u6 := (unhide HZ3).cell 6
    have u7 := (unhide HZ3).cell 7
    have u8 := (unhide HZ3).cell 8
    have u9 := (unhide HZ3).cell 9
    simp at u0 u1 u2 u3 u4 u5 u6 u7 u8 u9
    have HFF : Hid (Cal.summer ⟨off, sh, ⟨m1, k1, d1, t1⟩, ⟨m2, k2, d2, t2⟩⟩ (t + off) = if m1 < m2 then decide (A ≤ t + off) && decide (t + off < B - sh) else decide (A ≤ t + off) || decide (t + off < B - sh)) := by
      simp only [Hid, unhide HF2, Cal.summerAt, ← unhide HA, ← unhide HB]
    clear HF2 HA HB HG1 HG2
    by_cases c1 : m1 < m2 <;> by_cases c2 : A ≤ t + off <;> by_cases c3 : t + off < B - sh
    all_goals
      go_wp2
      go_ret
      refine ⟨ret_bool ?_, unhide HO3⟩
      rw [unhide HFF]
      simp [c1, c2, c3]
end Go.Proofs.YtnnhnihgeheahaaGreatDoor
