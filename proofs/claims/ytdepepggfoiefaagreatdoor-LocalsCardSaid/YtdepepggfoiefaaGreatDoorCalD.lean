/- The program's rules: day, minute. -/
import Derived.Test.YtdepepggfoiefaaGreatDoorCalC
import Derived.Deep.QuietTactic
import Derived.BigQuiet
import Derived.Deep.RegionHeld3
set_option linter.unusedSimpArgs false
set_option linter.unusedVariables false
namespace Go.Proofs.YtdepepggfoiefaaGreatDoor
open Go.RowKit

theorem code_floorModR (n b n' b' r : Int) (e1 : n' = n) (e2 : b' = b) (er : r = n % b) (w : World) (hb : 0 < b) (hb2 : b ≤ 1000000) (hn1 : -1000000000000 ≤ n) (hn2 : n ≤ 1000000000000) :
    Calls Tryz.prog 26 #[.int .i64 n', .int .i64 b'] w fun e w' => e = .returned (.int .i64 r) ∧ w' = w := by
  subst e1 e2 er; exact code_floorMod _ _ w hb hb2 hn1 hn2
theorem code_weekdayOfR (d d' r : Int) (e1 : d' = d) (er : r = (d + 4) % 7) (w : World) (h1 : -1000000 ≤ d) (h2 : d ≤ 1000000) : Calls Tryz.prog 31 #[.int .i64 d'] w fun e w' => e = .returned (.int .i64 r) ∧ w' = w := by
  subst e1 er; exact code_weekdayOf _ w h1 h2

theorem late_last (F L d : Nat) (hL : 28 ≤ L) (hL2 : L ≤ 31) (hd : d ≤ 6) :
    ((F : Int) - 3653 + L - 1) - ((((F : Int) - 3653 + L - 1 + 4) % 7 - d) % 7) = ((F + (if L ≤ (d + 7 - (F + 5) % 7) % 7 + 7 * 4 then (d + 7 - (F + 5) % 7) % 7 + 7 * 4 - 7 else (d + 7 - (F + 5) % 7) % 7 + 7 * 4) : Nat) : Int) - 3653 := by
  split <;> omega
theorem late_week (F L d k : Nat) (hL : 28 ≤ L) (hd : d ≤ 6) (hk : 1 ≤ k) (hk4 : k ≤ 4) :
    ((F : Int) - 3653) + (((d : Int) - ((F : Int) - 3653 + 4) % 7) % 7) + 7 * ((k : Int) - 1) = ((F + (if L ≤ (d + 7 - (F + 5) % 7) % 7 + 7 * (k - 1) then (d + 7 - (F + 5) % 7) % 7 + 7 * (k - 1) - 7 else (d + 7 - (F + 5) % 7) % 7 + 7 * (k - 1)) : Nat) : Int) - 3653 := by
  split <;> omega

set_option maxRecDepth 2000 in
set_option maxHeartbeats 2000000 in
theorem code_day (n : Nat) (r : Rul) (y' : Int) (e1 : y' = 1960 + n) (w : World) (hM : Months w) (hn : n ≤ 1000) (hr : r.Good) :
    Calls Tryz.prog 68 #[rulV r, .int .i64 y'] w fun e w' => e = .returned (.int .i64 ((Cal.ruleDay n r : Int) - 3653)) ∧ Only [] w w' := by
  subst e1
  obtain ⟨⟨hm1, hm2⟩, ⟨hk1, hk2⟩, hd1, ⟨ht1, ht2⟩⟩ := hr
  obtain ⟨F, hF⟩ : ∃ F, F = Cal.first n r := ⟨_, rfl⟩
  have hFb : F ≤ 400000 := by
    have h1 := Cal.yd_le n
    have h2 := Cal.md_mono (1960 + n) (show r.month - 1 ≤ 12 by omega)
    rw [Cal.md_12] at h2
    have h3 := (Cal.yl_bd (1960 + n)).2
    rw [hF]; unfold Cal.first
    omega
  obtain ⟨L, hL⟩ : ∃ L, L = Cal.ml (1960 + n) r.month := ⟨_, rfl⟩
  have hLb := Cal.ml_bd (1960 + n) r.month
  rw [← hL] at hLb
  have hfin : Cal.ruleDay n r = F + (if L ≤ (r.day + 7 - (F + 5) % 7) % 7 + 7 * (r.week - 1) then (r.day + 7 - (F + 5) % 7) % 7 + 7 * (r.week - 1) - 7 else (r.day + 7 - (F + 5) % 7) % 7 + 7 * (r.week - 1)) := by
    rw [hF, hL]; rfl
  have hF2 : ((Cal.yd n : Int) + Cal.md (1960 + n) (r.month - 1) + (1 : Nat) - 3654) = (F : Int) - 3653 := by rw [hF]; unfold Cal.first; omega
  have hL2 : (Cal.ml (1960 + n) (r.month - 1 + 1) : Int) = L := by rw [hL, show r.month - 1 + 1 = r.month by omega]
  obtain ⟨m, k, d, t⟩ := r
  simp only at hm1 hm2 hk1 hk2 hd1 ht1 ht2 hF2 hL2 hfin
  have HF2 := hide hF2
  have HL2 := hide hL2
  have HFI := hide hfin
  have HM := hide hM
  clear hF hL hF2 hL2 hfin hM
  unfold rulV
  have HZ0 := hide (Blk.new w #[.int .i64 (m : Int), .int .i64 (k : Int), .int .i64 (d : Int), .int .i64 (t : Int)] 38)
  by_cases h5 : k = 5
  · subst h5
    have hfin : Cal.ruleDay n ⟨m, 5, d, t⟩ - 3653 = 0 ∨ True := .inr trivial
    clear hfin
    obtain ⟨x, hx⟩ : ∃ x : Int, x = ((F : Int) - 3653 + L - 1 + 4) % 7 := ⟨_, rfl⟩
    obtain ⟨z, hz⟩ : ∃ z : Int, z = (x - d) % 7 := ⟨_, rfl⟩
    have hres : ((F : Int) - 3653 + L - 1) - z = (Cal.ruleDay n ⟨m, 5, d, t⟩ : Int) - 3653 := by
      rw [hz, hx, unhide HFI]; exact late_last F L d hLb.1 hLb.2 hd1
    have hxz : 0 ≤ x ∧ x ≤ 6 ∧ 0 ≤ z ∧ z ≤ 6 := by omega
    have HX := hide hx
    have HZ := hide hz
    have HR := hide hres
    clear hx hz hres
    go_enter Tryz.func68, Tryz.ntmps68
    go_wp2_with (first
      | (go_at_call 82; refine (code_dayOf n (m - 1) 1 _ _ _ (by rfl) (by omega) (by rfl) _ ((unhide HM).alloc _) hn (by omega) (by omega)).mono ?_; rintro e w1 ⟨rfl, ho1⟩; rw [unhide HF2]
         have HZ1 := hide ((unhide HZ0).only ho1 (by simp))
         have HM1 := hide (((unhide HM).alloc _).only ho1 (by simp))
         have HO1 := hide (((Only.refl [] w).alloc _).trans ho1)
         have uf := (unhide HZ1).frozen
         have u0 := (unhide HZ1).cell 0
         have u1 := (unhide HZ1).cell 1
         have u2 := (unhide HZ1).cell 2
         simp at u0 u1 u2
         clear HZ0 ho1)
      | (go_at_call 48; refine (code_monthLength (1960 + n) (m - 1) _ _ (by omega) (by omega) _ (unhide HM1) (by omega) (by omega)).mono ?_; rintro e w2 ⟨rfl, rfl⟩; rw [unhide HL2]))
    go_quiet (first
      | (go_at_call 31; exact Calls.quiet_of_same (code_weekdayOfR ((F : Int) - 3653 + L - 1) _ x (by omega) (unhide HX) _ (by omega) (by omega)))
      | (go_at_call 26; exact Calls.quiet_of_same (code_floorModR (x - d) 7 _ _ z (by go_num) (by omega) (unhide HZ) _ (by omega) (by omega) (by omega) (by omega))))
    go_wp2
    go_ret
    refine ⟨ret_int ?_, (unhide HO1).drewN _⟩
    exact unhide HR
  · obtain ⟨x, hx⟩ : ∃ x : Int, x = ((F : Int) - 3653 + 4) % 7 := ⟨_, rfl⟩
    obtain ⟨z, hz⟩ : ∃ z : Int, z = ((d : Int) - x) % 7 := ⟨_, rfl⟩
    have hres : ((F : Int) - 3653) + z + 7 * ((k : Int) - 1) = (Cal.ruleDay n ⟨m, k, d, t⟩ : Int) - 3653 := by
      rw [hz, hx, unhide HFI]; exact late_week F L d k hLb.1 hd1 hk1 (by omega)
    have hxz : 0 ≤ x ∧ x ≤ 6 ∧ 0 ≤ z ∧ z ≤ 6 := by omega
    have HX := hide hx
    have HZ := hide hz
    have HR := hide hres
    clear hx hz hres
    have h5i : ((k : Int) == 5) = false := by rw [beq_eq_false_iff_ne]; omega
    go_enter Tryz.func68, Tryz.ntmps68
    go_wp2_with (first
      | (go_at_call 82; refine (code_dayOf n (m - 1) 1 _ _ _ (by rfl) (by omega) (by rfl) _ ((unhide HM).alloc _) hn (by omega) (by omega)).mono ?_; rintro e w1 ⟨rfl, ho1⟩; rw [unhide HF2]
         have HZ1 := hide ((unhide HZ0).only ho1 (by simp))
         have HO1 := hide (((Only.refl [] w).alloc _).trans ho1)
         have uf := (unhide HZ1).frozen
         have u0 := (unhide HZ1).cell 0
         have u1 := (unhide HZ1).cell 1
         have u2 := (unhide HZ1).cell 2
         simp at u0 u1 u2
         clear HZ0 ho1))
    go_quiet (first
      | (go_at_call 31; exact Calls.quiet_of_same (code_weekdayOfR ((F : Int) - 3653) _ x (by omega) (unhide HX) _ (by omega) (by omega)))
      | (go_at_call 26; exact Calls.quiet_of_same (code_floorModR ((d : Int) - x) 7 _ _ z (by go_num) (by omega) (unhide HZ) _ (by omega) (by omega) (by omega) (by omega))))
    go_wp2
    go_ret
    refine ⟨ret_int ?_, (unhide HO1).drewN _⟩
    exact unhide HR

theorem ruleDay_bd (n : Nat) (r : Rul) (hn : n ≤ 1000) (hr : r.Good) : Cal.ruleDay n r ≤ 400000 := by
  obtain ⟨⟨hm1, hm2⟩, ⟨hk1, hk2⟩, hd1, ⟨ht1, ht2⟩⟩ := hr
  have h1 := Cal.yd_le n
  have h2 := Cal.md_mono (1960 + n) (show r.month - 1 ≤ 12 by omega)
  rw [Cal.md_12] at h2
  have h3 := (Cal.yl_bd (1960 + n)).2
  have h4 : Cal.late n r ≤ 34 := by unfold Cal.late; omega
  unfold Cal.ruleDay Cal.first
  split <;> omega

theorem cell_lt' {w : World} {a : Addr} {v : Value} (h : w.cell? a = some v) : a.block < w.heap.size := by
  unfold World.cell? at h
  cases hb : w.heap[a.block]? with
  | none => rw [hb] at h; cases h
  | some o => exact (Array.getElem?_eq_some_iff.1 hb).1
theorem cell_keep {w w' : World} (k : Only [] w w') {a : Addr} {v : Value} (h : w.cell? a = some v) : w'.cell? a = some v := by
  rw [← h]; exact World.cell?_of_block (w := w) (k.block _ (cell_lt' h) (by simp))

/-- What the region of 'minute' holds. -/
abbrev MS (w : World) (m k d t : Nat) (w' : World) : Prop :=
  (w'.cell? ⟨w.heap.size, 0, none⟩ = some (.int .i64 (m : Int)) ∧ w'.cell? ⟨w.heap.size, 1, none⟩ = some (.int .i64 (k : Int)) ∧ w'.cell? ⟨w.heap.size, 2, none⟩ = some (.int .i64 (d : Int)) ∧ w'.cell? ⟨w.heap.size, 3, none⟩ = some (.int .i64 (t : Int))) ∧ Hid (Only [] w w') ∧ Hid (Months w')
theorem MS.months {w : World} {m k d t : Nat} {w' : World} (h : MS w m k d t w') : Months w' := h.2.2
theorem MS.next {w : World} {m k d t : Nat} {w' w1 : World} (h : MS w m k d t w') (ho : Only [] w' w1) : MS w m k d t w1 := by
  obtain ⟨⟨u0, u1, u2, u3⟩, HO, HM⟩ := h
  exact ⟨⟨cell_keep ho u0, cell_keep ho u1, cell_keep ho u2, cell_keep ho u3⟩, (unhide HO).trans ho, (unhide HM).only ho (by simp)⟩

set_option maxRecDepth 2000 in
set_option maxHeartbeats 2000000 in
theorem code_minute (n : Nat) (r : Rul) (y' : Int) (e1 : y' = 1960 + n) (w : World) (hM : Months w) (hn : n ≤ 1000) (hr : r.Good) :
    Calls Tryz.prog 52 #[rulV r, .int .i64 y'] w fun e w' => e = .returned (.int .i64 (Cal.ruleMin n r)) ∧ Only [] w w' := by
  subst e1
  obtain ⟨D, hD⟩ : ∃ D, D = Cal.ruleDay n r := ⟨_, rfl⟩
  have hDb := ruleDay_bd n r hn hr
  rw [← hD] at hDb
  have htb := hr.time
  have hfin : Cal.ruleMin n r = ((D : Int) - 3653) * 1440 + r.time := by rw [hD]; rfl
  have HD := hide hD
  have HFI := hide hfin
  have HG := hide hr
  have HM := hide hM
  clear hD hfin hr hM
  obtain ⟨m, k, d, t⟩ := r
  simp only at htb
  unfold rulV
  have hz0 := Blk.new w #[.int .i64 (m : Int), .int .i64 (k : Int), .int .i64 (d : Int), .int .i64 (t : Int)] 38
  have hkeep0 : MS w m k d t (w.alloc (.cells #[.int .i64 (m : Int), .int .i64 (k : Int), .int .i64 (d : Int), .int .i64 (t : Int)] 38)).drew :=
    ⟨⟨hz0.cell 0, hz0.cell 1, hz0.cell 2, hz0.cell 3⟩, ((Only.refl [] w).alloc _).drew, (unhide HM).alloc _⟩
  have HK0 := hide hkeep0
  clear hkeep0 hz0
  go_enter Tryz.func52, Tryz.ntmps52
  go_wp2
  go_region_held3 (fun w' => (w'.cell? ⟨w.heap.size, 0, none⟩ = some (.int .i64 (m : Int)) ∧ w'.cell? ⟨w.heap.size, 1, none⟩ = some (.int .i64 (k : Int)) ∧ w'.cell? ⟨w.heap.size, 2, none⟩ = some (.int .i64 (d : Int)) ∧ w'.cell? ⟨w.heap.size, 3, none⟩ = some (.int .i64 (t : Int))) ∧ Hid (Only [] w w') ∧ Hid (Months w')) (first | exact unhide HK0 | exact unhide HK1)
    ((
    go_at_call 68
    refine (code_day n ⟨m, k, d, t⟩ _ rfl _ (MS.months (w := w) (m := m) (k := k) (d := d) (t := t) (by assumption)) hn (unhide HG)).mono ?_
    rintro e w1 ⟨rfl, ho1⟩
    rw [← unhide HD]
    have HK1 := hide (MS.next (w := w) (m := m) (k := k) (d := d) (t := t) (by assumption) ho1)
    clear ho1))
  all_goals
    go_wp2
    go_ret
    refine ⟨?_, unhide (unhide HK1).2.1⟩
    refine ret_int ?_
    have := unhide HFI
    simp only [IntKind.wrap_i64]
    omega
end Go.Proofs.YtdepepggfoiefaaGreatDoor
