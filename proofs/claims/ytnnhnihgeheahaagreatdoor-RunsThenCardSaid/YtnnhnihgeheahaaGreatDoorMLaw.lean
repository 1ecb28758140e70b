/- LawG, LawR, in one text. -/
import Derived.Test.YtnnhnihgeheahaaGreatDoorRefN
import Derived.Test.YtnnhnihgeheahaaGreatDoorMRef
import Derived.Test.YtnnhnihgeheahaaGreatDoorMRun
/- What the laws are given. -/
set_option linter.unusedSimpArgs false
set_option linter.unusedVariables false
namespace Go.Proofs.YtnnhnihgeheahaaGreatDoor
open Go.RowKit

set_option maxHeartbeats 400000 in
theorem law_within2 (t : Int) (w : World) : Calls Tryz.prog 15 #[.int .i64 t] w fun e w' => e = .returned (.bool (decide (0 ≤ t) && decide (t ≤ 70000000))) ∧ w' = w := by
  by_cases h1 : 0 ≤ t <;> by_cases h2 : t ≤ 70000000
  all_goals
    go_enter Tryz.func15, Tryz.ntmps15
    go_wp2
    go_ret
    exact ⟨ret_bool (by simp [h1, h2]), rfl⟩

/-- What 'given' says. -/
def GivenSaid (z f : ByteArray) (m : Int) (w : World) (e : Ending) (w' : World) : Prop :=
  Only [] w w' ∧ ∃ (zn : Zon) (F : Fld), e = .returned (.tuple #[zonV zn, .agg (fldV F), .int .i64 (runN z f m : Nat)]) ∧ (runN z f m = 0 → pZone z = .ok zn ∧ pFields f = .ok F)

def fldF : Fld := ⟨(false, fun _ => false), (false, fun _ => false), (false, fun _ => false), (false, fun _ => false), (false, fun _ => false)⟩
theorem fld0_eq : fld0 = fldV fldF := rfl

theorem results_given (tmps : Array Value) (w : World) (b6 b7 : Nat) (C D : Array Value) {u : Value} (h6 : tmps.getD 6 undef = .pointer (some ⟨b6, 0, none⟩)) (h7 : tmps.getD 7 undef = .pointer (some ⟨b7, 0, none⟩)) (h8 : tmps.getD 8 undef = u)
    (hr : Blk w b6 C 32) (hs : C.size = 10) (hr7 : Blk w b7 D 43) (hs7 : D.size = 305) : (results Tryz.f20 tmps).run Tryz.prog w = .ok (.tuple #[.agg C, .agg D, u]) w := by
  have h6' : tmps[6]?.getD undef = .pointer (some ⟨b6, 0, none⟩) := by simpa using h6
  have h7' : tmps[7]?.getD undef = .pointer (some ⟨b7, 0, none⟩) := by simpa using h7
  have h8' : tmps[8]?.getD undef = u := by simpa using h8
  have hl := run_loadVar_row (P := Tryz.prog) w b6 32 32 C (0, 0) _ hr Tryz.underlying32 rfl (by rw [hs]; kernel_rfl)
  have hl7 := run_loadVar_row (P := Tryz.prog) w b7 43 43 D (0, 0) _ hr7 Tryz.underlying43 rfl (by rw [hs7]; kernel_rfl)
  simp [results, Tryz.results20, h6', h7', h8', asAddr, hl, hl7]

set_option maxRecDepth 8000 in
set_option maxHeartbeats 4000000 in
theorem law_given_err (z f : ByteArray) (m : Int) (w : World) (hz : z.size ≤ 281474976710656) (hf : f.size ≤ 281474976710656) (n0 p0 r0 : Nat) (hc : checkN z f = (n0, p0)) (hr : runN z f m = r0) (hcase : (n0 ≠ 0 ∧ r0 = n0) ∨ (n0 = 0 ∧ r0 = 4 ∧ (decide (0 ≤ m) && decide (m ≤ 70000000)) = false)) :
    Calls Tryz.prog 20 #[.string z, .string f, .int .i64 m] w (GivenSaid z f m w) := by
  have HC := hide hc
  have HR := hide hr
  have hr0 : r0 ≠ 0 := by omega
  obtain ⟨w0, hw0⟩ : ∃ w0, w0 = (w.alloc (.cells #[.int .i64 0, .int .i64 0, .int .i64 0, .int .i64 0, .int .i64 0, .int .i64 0, .int .i64 0, .int .i64 0, .int .i64 0, .int .i64 0] 32)).alloc (.cells fld0 43) := ⟨_, rfl⟩
  have hA : Blk w0 w.heap.size zone0 32 := by rw [hw0]; exact (Blk.new _ _ _).alloc _
  have hB : Blk w0 (w.heap.size + 1) fld0 43 := by
    have h := Blk.new (w.alloc (.cells zone0 32)) fld0 43
    simp only [World.size_alloc] at h
    rw [hw0]; exact h
  have hO : Only [] w w0 := by rw [hw0]; exact ((Only.refl [] w).alloc _).alloc _
  have HA := hide hA
  have HB := hide hB
  have HO := hide hO
  clear hc hr hA hB hO
  rcases hcase with ⟨h1, rfl⟩ | ⟨rfl, rfl, h3⟩
  · have hni : ((r0 : Int) != 0) = true := by rw [bne_iff_ne]; omega
    have hne : ((r0 : Int) == 0) = false := by rw [beq_eq_false_iff_ne]; omega
    go_enter Tryz.func20, Tryz.ntmps20
    go_upto_region 1 with (refine wpList_alloc_fld rfl rfl ?_; simp only [World.size_alloc, Act.put, List.setIfInBounds_toArray, List.set_cons_succ, List.set_cons_zero])
    rw [← hw0]
    clear hw0
    go_wp2_with (first
      | (go_at_call 14
         refine (ref_Check z f _ hz hf).mono ?_
         rintro e w1 ⟨hb1, rfl⟩
         rw [unhide HC]
         have ho1 := Only.of_below [] hb1
         have HA1 := hide ((unhide HA).only ho1 (by simp))
         have HB1 := hide ((unhide HB).only ho1 (by simp))
         have HO1 := hide ((unhide HO).trans ho1)
         clear hb1 ho1 HA HB HO)
      | (refine wpList_build_fld rfl rfl ?_; simp only [Act.put, List.setIfInBounds_toArray, List.set_cons_succ, List.set_cons_zero])
      | (refine wpList_store_row rfl 32 _ _ rfl w.heap.size zone0 rfl rfl 32 zone0 (unhide HA1) (by kernel_rfl) rfl (by kernel_rfl) ?_
         simp only [Act.put, List.setIfInBounds_toArray, List.set_cons_succ, List.set_cons_zero])
      | (refine wpList_store_row rfl 43 _ _ rfl (w.heap.size + 1) fld0 rfl rfl 43 fld0 ((unhide HB1).setRowOther (by omega) zone0) (by rw [fld0_size]; kernel_rfl) rfl fld0_one ?_
         simp only [Act.put, List.setIfInBounds_toArray, List.set_cons_succ, List.set_cons_zero]))
    have hA2 := (Blk.setRow (unhide HA1) zone0).setRowOther (show w.heap.size ≠ w.heap.size + 1 by omega) fld0
    have hB2 := Blk.setRow ((unhide HB1).setRowOther (show w.heap.size + 1 ≠ w.heap.size by omega) zone0) fld0
    have hO2 := ((unhide HO1).setRowNew (Nat.le_refl w.heap.size) zone0).setRowNew (show w.heap.size ≤ w.heap.size + 1 by omega) fld0
    refine bodyPost_ret (v := .tuple #[.agg zone0, .agg fld0, .int .i64 (r0 : Int)]) (results_given _ _ w.heap.size (w.heap.size + 1) zone0 fld0 rfl rfl rfl hA2 rfl hB2 fld0_size) rfl ⟨hO2, ⟨0, 0, .zero, .zero⟩, fldF, ?_, fun h => absurd ((unhide HR).symm.trans h) hr0⟩
    rw [unhide HR]
    rfl
  · have HW := hide h3
    clear h3
    go_enter Tryz.func20, Tryz.ntmps20
    go_upto_region 1 with (refine wpList_alloc_fld rfl rfl ?_; simp only [World.size_alloc, Act.put, List.setIfInBounds_toArray, List.set_cons_succ, List.set_cons_zero])
    rw [← hw0]
    clear hw0
    go_wp2_with (first
      | (go_at_call 14
         refine (ref_Check z f _ hz hf).mono ?_
         rintro e w1 ⟨hb1, rfl⟩
         rw [unhide HC]
         have ho1 := Only.of_below [] hb1
         have HA1 := hide ((unhide HA).only ho1 (by simp))
         have HB1 := hide ((unhide HB).only ho1 (by simp))
         have HO1 := hide ((unhide HO).trans ho1)
         clear hb1 ho1 HA HB HO)
      | (go_at_call 15; refine (law_within2 m _).mono ?_; rintro e w2 ⟨rfl, rfl⟩; rw [unhide HW])
      | (refine wpList_build_fld rfl rfl ?_; simp only [Act.put, List.setIfInBounds_toArray, List.set_cons_succ, List.set_cons_zero])
      | (refine wpList_store_row rfl 32 _ _ rfl w.heap.size zone0 rfl rfl 32 zone0 (unhide HA1) (by kernel_rfl) rfl (by kernel_rfl) ?_
         simp only [Act.put, List.setIfInBounds_toArray, List.set_cons_succ, List.set_cons_zero])
      | (refine wpList_store_row rfl 43 _ _ rfl (w.heap.size + 1) fld0 rfl rfl 43 fld0 ((unhide HB1).setRowOther (by omega) zone0) (by rw [fld0_size]; kernel_rfl) rfl fld0_one ?_
         simp only [Act.put, List.setIfInBounds_toArray, List.set_cons_succ, List.set_cons_zero]))
    have hA2 := (Blk.setRow (unhide HA1) zone0).setRowOther (show w.heap.size ≠ w.heap.size + 1 by omega) fld0
    have hB2 := Blk.setRow ((unhide HB1).setRowOther (show w.heap.size + 1 ≠ w.heap.size by omega) zone0) fld0
    have hO2 := ((unhide HO1).setRowNew (Nat.le_refl w.heap.size) zone0).setRowNew (show w.heap.size ≤ w.heap.size + 1 by omega) fld0
    refine bodyPost_ret (v := .tuple #[.agg zone0, .agg fld0, .int .i64 4]) (results_given _ _ w.heap.size (w.heap.size + 1) zone0 fld0 rfl rfl rfl hA2 rfl hB2 fld0_size) rfl ⟨hO2, ⟨0, 0, .zero, .zero⟩, fldF, ?_, fun h => absurd ((unhide HR).symm.trans h) hr0⟩
    rw [unhide HR]
    rfl

set_option maxRecDepth 8000 in
set_option maxHeartbeats 4000000 in
theorem law_given_ok (z f : ByteArray) (m : Int) (w : World) (hz : z.size ≤ 281474976710656) (hf : f.size ≤ 281474976710656) (p0 : Nat) (hc : checkN z f = (0, p0)) (hr : runN z f m = 0) (hm : (decide (0 ≤ m) && decide (m ≤ 70000000)) = true) (zn : Zon) (F : Fld) (hzn : pZone z = .ok zn) (hFn : pFields f = .ok F) :
    Calls Tryz.prog 20 #[.string z, .string f, .int .i64 m] w (GivenSaid z f m w) := by
  have HC := hide hc
  have HR := hide hr
  have HW := hide hm
  have HZN := hide hzn
  have HFN := hide hFn
  obtain ⟨C, hC⟩ : ∃ C, C = fldV F := ⟨_, rfl⟩
  have HCE := hide hC
  have HCS : Hid (C.size = 305) := by rw [hC]; exact fldV_size F
  have HCO : Hid (C.all (·.oneCell') = true) := by rw [hC]; exact fldV_one F
  obtain ⟨w0, hw0⟩ : ∃ w0, w0 = (w.alloc (.cells #[.int .i64 0, .int .i64 0, .int .i64 0, .int .i64 0, .int .i64 0, .int .i64 0, .int .i64 0, .int .i64 0, .int .i64 0, .int .i64 0] 32)).alloc (.cells fld0 43) := ⟨_, rfl⟩
  have hA : Blk w0 w.heap.size zone0 32 := by rw [hw0]; exact (Blk.new _ _ _).alloc _
  have hB : Blk w0 (w.heap.size + 1) fld0 43 := by
    have h := Blk.new (w.alloc (.cells zone0 32)) fld0 43
    simp only [World.size_alloc] at h
    rw [hw0]; exact h
  have hO : Only [] w w0 := by rw [hw0]; exact ((Only.refl [] w).alloc _).alloc _
  have HA := hide hA
  have HB := hide hB
  have HO := hide hO
  clear hc hr hA hB hO hm hzn hFn hC
  go_enter Tryz.func20, Tryz.ntmps20
  go_upto_region 1 with (refine wpList_alloc_fld rfl rfl ?_; simp only [World.size_alloc, Act.put, List.setIfInBounds_toArray, List.set_cons_succ, List.set_cons_zero])
  rw [← hw0]
  clear hw0
  go_upto_region 8 with (first
    | (go_at_call 14
       refine (ref_Check z f _ hz hf).mono ?_
       rintro e w1 ⟨hb1, rfl⟩
       rw [unhide HC]
       have ho1 := Only.of_below [] hb1
       have HA1 := hide ((unhide HA).only ho1 (by simp))
       have HB1 := hide ((unhide HB).only ho1 (by simp))
       have HO1 := hide ((unhide HO).trans ho1)
       clear hb1 ho1 HA HB HO)
    | (go_at_call 15; refine (law_within2 m _).mono ?_; rintro e w2 ⟨rfl, rfl⟩; rw [unhide HW])
    | (go_at_call 17
       refine (ref_ParseZone z _ hz).mono ?_
       rintro e w3 ⟨zz, ok, p, rfl, hb3, hok, _⟩
       obtain ⟨rfl, rfl⟩ := hok zn (unhide HZN)
       have ho3 := Only.of_below [] hb3
       have HA3 := hide (((unhide HA1).only ho3 (by simp)).alloc (.cells (zonC zz) 32))
       have HB3 := hide (((unhide HB1).only ho3 (by simp)).alloc (.cells (zonC zz) 32))
       have HO3 := hide (((unhide HO1).trans ho3).alloc (.cells (zonC zz) 32))
       have HV3 := hide (Blk.new w3 (zonC zz) 32)
       have hlt3 : w.heap.size + 1 < w3.heap.size := ((unhide HB1).only ho3 (by simp)).lt
       unfold zonV
       clear hb3 hok ho3 HA1 HB1 HO1)
    | (go_at_call 38
       refine (ref_ParseFields f _ hf).mono ?_
       rintro e w4 ⟨FF, ok, p4, rfl, hb4, hok, _⟩
       obtain ⟨rfl, rfl⟩ := hok F (unhide HFN)
       have ho4 := Only.of_below [] hb4
       have hA4 := (unhide HA3).only ho4 (by simp)
       have hB4 := (unhide HB3).only ho4 (by simp)
       have hV4 := (unhide HV3).only ho4 (by simp)
       have hlt4 : w3.heap.size < w4.heap.size := hV4.lt
       have HA4 := hide ((hA4.alloc (.cells fld0 43)).setRowOther (show w.heap.size ≠ w4.heap.size by omega) C)
       have HB4 := hide ((hB4.alloc (.cells fld0 43)).setRowOther (show w.heap.size + 1 ≠ w4.heap.size by omega) C)
       have HV4 := hide ((hV4.alloc (.cells fld0 43)).setRowOther (show w3.heap.size ≠ w4.heap.size by omega) C)
       have HN4 := hide (Blk.new w4 fld0 43)
       have HO4 := hide ((((unhide HO3).trans ho4).alloc (.cells fld0 43)).setRowNew (show w.heap.size ≤ w4.heap.size by omega) C)
       rw [← unhide HCE]
       clear hb4 hok ho4 hA4 hB4 hV4 HA3 HB3 HO3 HV3)
    | (refine wpList_alloc_fld rfl rfl ?_; simp only [World.size_alloc, Act.put, List.setIfInBounds_toArray, List.set_cons_succ, List.set_cons_zero])
    | (refine wpList_store_row rfl 43 _ _ rfl w4.heap.size C rfl rfl 43 fld0 (unhide HN4) (by rw [unhide HCS]; kernel_rfl) (by rw [fld0_size, unhide HCS]) (unhide HCO) ?_
       simp only [Act.put, List.setIfInBounds_toArray, List.set_cons_succ, List.set_cons_zero]))
  have hN5 := Blk.setRow (unhide HN4) C
  have hS : (fun w' => Blk w' w3.heap.size (zonC zz) 32 ∧ Blk w' w4.heap.size C 43) ((w4.alloc (.cells fld0 43)).setRow w4.heap.size C).drew := ⟨(unhide HV4).drew, hN5.drew⟩
  refine wp_region_held (S := fun w' => Blk w' w3.heap.size (zonC zz) 32 ∧ Blk w' w4.heap.size C 43) (by kernel_rfl) ?_
  refine wpAnyH_take (i := 0) (v := .agg (zonC zz)) rfl (by kernel_rfl) (by kernel_rfl) (by kernel_rfl) (fun _ _ _ h => h) (yieldsIf_load_row (by rfl) 32 (.tmp 11) (by rfl) w3.heap.size (by rfl) 32 (zonC zz) (0, 0) _ (fun _ h => h.1) Tryz.underlying32 (by rfl) (by rw [zonC_size]; kernel_rfl)) hS ?_
  simp only [Act.put, List.getElem_toArray, List.getElem_cons_succ, List.getElem_cons_zero, List.setIfInBounds_toArray, List.set_cons_succ, List.set_cons_zero]
  refine wpAnyH_take (i := 1) (v := .agg C) rfl (by kernel_rfl) (by kernel_rfl) (by kernel_rfl) (fun _ _ _ h => h) (yieldsIf_load_row (by rfl) 43 (.tmp 14) (by rfl) w4.heap.size (by rfl) 43 C (0, 0) _ (fun _ h => h.2) Tryz.underlying43 (by rfl) (by rw [unhide HCS]; kernel_rfl)) hS ?_
  simp only [Act.put, List.getElem_toArray, List.getElem_cons_succ, List.getElem_cons_zero, List.setIfInBounds_toArray, List.set_cons_succ, List.set_cons_zero]
  refine wpAnyH_ready (rs := [2]) (by kernel_rfl) (by simp) ?_
  refine AllReadyH.cons rfl (fun K hK => ?_) AllReadyH.nil
  rw [if_pos (by rfl)]
  refine wp_store_row 32 _ _ rfl w.heap.size (zonC zz) rfl rfl 32 zone0 (unhide HA4).drew (by rw [zonC_size]; kernel_rfl) rfl (zonC_one zz) ?_
  simp only [Act.put, List.getElem_toArray, List.getElem_cons_succ, List.getElem_cons_zero, List.setIfInBounds_toArray, List.set_cons_succ, List.set_cons_zero]
  refine hK.out _ _ ⟨hS.1.setRowOther (by omega) _, hS.2.setRowOther (by omega) _⟩ (fun hS => ?_)
  clear hK
  refine wpAnyH_ready (rs := [3]) (by kernel_rfl) (by simp) ?_
  refine AllReadyH.cons rfl (fun K hK => ?_) AllReadyH.nil
  rw [if_pos (by rfl)]
  refine wp_store_row 43 _ _ rfl (w.heap.size + 1) C rfl rfl 43 fld0 ((unhide HB4).drew.setRowOther (by omega) _) (by rw [unhide HCS]; kernel_rfl) (by rw [fld0_size, unhide HCS]) (unhide HCO) ?_
  simp only [Act.put, List.getElem_toArray, List.getElem_cons_succ, List.getElem_cons_zero, List.setIfInBounds_toArray, List.set_cons_succ, List.set_cons_zero]
  refine hK.out _ _ ⟨hS.1.setRowOther (by omega) _, hS.2.setRowOther (by omega) _⟩ (fun hS => ?_)
  clear hK
  refine wpAnyH_take (i := 4) (v := .int .i64 0) rfl (by kernel_rfl) (by kernel_rfl) (by kernel_rfl) (fun _ _ _ h => h) (Or.inl ⟨by rfl, fun wx hx => ?_⟩) hS ?_
  · rfl
  simp only [Act.put, List.getElem_toArray, List.getElem_cons_succ, List.getElem_cons_zero, List.setIfInBounds_toArray, List.set_cons_succ, List.set_cons_zero]
  refine wpAnyH_done (by kernel_rfl) ?_ _
  have hA := (Blk.setRow (unhide HA4).drew (zonC zz)).setRowOther (show w.heap.size ≠ w.heap.size + 1 by omega) C
  have hB := Blk.setRow ((unhide HB4).drew.setRowOther (show w.heap.size + 1 ≠ w.heap.size by omega) (zonC zz)) C
  have hO := (((unhide HO4).drew).setRowNew (Nat.le_refl w.heap.size) (zonC zz)).setRowNew (show w.heap.size ≤ w.heap.size + 1 by omega) C
  have HA5 := hide hA
  have HB5 := hide hB
  have HO5 := hide hO
  clear hA hB hO hS hN5
  go_wp2
  refine bodyPost_ret (v := .tuple #[.agg (zonC zz), .agg C, .int .i64 0]) (results_given _ _ w.heap.size (w.heap.size + 1) (zonC zz) C rfl rfl rfl (unhide HA5) rfl (unhide HB5) (unhide HCS)) rfl ⟨unhide HO5, zz, FF, ?_, fun _ => ⟨unhide HZN, unhide HFN⟩⟩
  rw [unhide HR, unhide HCE]
  rfl

theorem checkN_ok {z f : ByteArray} {p : Nat} (h : checkN z f = (0, p)) : ∃ zn F, pZone z = .ok zn ∧ pFields f = .ok F := by
  unfold checkN at h
  split at h
  · cases h
  · cases h1 : pZone z with
    | error q => rw [h1] at h; cases h
    | ok zn =>
      cases h2 : pFields f with
      | error q => rw [h1, h2] at h; cases h
      | ok F => exact ⟨zn, F, rfl, rfl⟩

theorem law_given (z f : ByteArray) (m : Int) (w : World) (hz : z.size ≤ 281474976710656) (hf : f.size ≤ 281474976710656) : Calls Tryz.prog 20 #[.string z, .string f, .int .i64 m] w (GivenSaid z f m w) := by
  obtain ⟨n0, p0, hc⟩ : ∃ n0 p0, checkN z f = (n0, p0) := ⟨_, _, rfl⟩
  have hN : runN z f m = if n0 ≠ 0 then n0 else if m < 0 ∨ 70000000 < m then 4 else 0 := by unfold runN; rw [hc]
  by_cases h0 : n0 = 0
  · subst h0
    by_cases hr : 0 ≤ m ∧ m ≤ 70000000
    · obtain ⟨zn, F, h1, h2⟩ := checkN_ok hc
      exact law_given_ok z f m w hz hf p0 hc (by rw [hN, if_neg (by omega), if_neg (by omega)]) (by simp; omega) zn F h1 h2
    · exact law_given_err z f m w hz hf 0 p0 4 hc (by rw [hN, if_neg (by omega), if_pos (by omega)]) (.inr ⟨rfl, rfl, by simp only [Bool.and_eq_false_iff, decide_eq_false_iff_not]; omega⟩)
  · exact law_given_err z f m w hz hf n0 p0 n0 hc (by rw [hN, if_pos h0]) (.inl ⟨h0, rfl⟩)
end Go.Proofs.YtnnhnihgeheahaaGreatDoor

/- RunsThen, as a law over the contracts. -/
set_option linter.unusedSimpArgs false
set_option linter.unusedVariables false
namespace Go.Proofs.YtnnhnihgeheahaaGreatDoor
open Go.RowKit

def LawSaid (w : World) (e : Ending) (w' : World) : Prop := e = .returned (.bool true) ∧ Below w.heap.size w w'

set_option maxRecDepth 8000 in
set_option maxHeartbeats 4000000 in
theorem law_RunsThen_err (z f : ByteArray) (m : Int) (w : World) (hz : z.size ≤ 281474976710656) (hf : f.size ≤ 281474976710656) (hE : Errs w) (hT : Tab w) (hM : Months w) (hB : Bruijn w) (r0 : Nat) (hr : runN z f m = r0) (hr0 : r0 ≠ 0) :
    Calls Tryz.prog 4 #[.string z, .string f, .int .i64 m] w (LawSaid w) := by
  have HE := hide hE
  have HT := hide hT
  have HM := hide hM
  have HB := hide hB
  have HR := hide hr
  have hri : ((r0 : Int) != 0) = true := by rw [bne_iff_ne]; omega
  have hre : ((r0 : Int) == r0) = true := by simp
  clear hE hT hM hB hr
  go_enter Tryz.func4, Tryz.ntmps4
  go_wp2_with (first
    | (go_at_call 19
       refine (c_Runs z f m _ hz hf (unhide HE) (unhide HT) (unhide HM) (unhide HB)).mono ?_
       rintro e w1 ⟨ho1, b, rfl, hb, _⟩
       have hb0 : b = false := hb (by rw [unhide HR]; exact hr0)
       subst hb0
       rw [unhide HR]
       have HO1 := hide ho1
       clear ho1 hb)
    | (go_at_call 20
       refine (law_given z f m _ hz hf).mono ?_
       rintro e w2 ⟨ho2, zn, F, rfl, hok⟩
       rw [unhide HR]
       have hO2 := (unhide HO1).trans ho2
       obtain ⟨C, hC⟩ : ∃ C, C = fldV F := ⟨_, rfl⟩
       have HCS : Hid (C.size = 305) := by rw [hC]; exact fldV_size F
       have HCO : Hid (C.all (·.oneCell') = true) := by rw [hC]; exact fldV_one F
       rw [← hC]
       have hN2 : Blk ((w2.alloc (.cells (zonC zn) 32)).alloc (.cells fld0 43)) (w2.heap.size + 1) fld0 43 := by
         have h := Blk.new (w2.alloc (.cells (zonC zn) 32)) fld0 43
         simp only [World.size_alloc] at h
         exact h
       have HN2 := hide hN2
       have HZB := hide (((Blk.new w2 (zonC zn) 32).alloc (.cells fld0 43)).setRowOther (show w2.heap.size ≠ w2.heap.size + 1 by omega) C)
       have HFB := hide (Blk.setRow hN2 C)
       have HO2 := hide (((hO2.alloc (.cells (zonC zn) 32)).alloc (.cells fld0 43)).setRowNew (show w.heap.size ≤ w2.heap.size + 1 by have := hO2.size; omega) C)
       unfold zonV
       clear ho2 hO2 hC hok hN2)
    | (refine wpList_alloc_fld rfl rfl ?_; simp only [World.size_alloc, Act.put, List.setIfInBounds_toArray, List.set_cons_succ, List.set_cons_zero])
    | (refine wpList_store_row rfl 43 _ _ rfl (w2.heap.size + 1) C rfl rfl 43 fld0 (unhide HN2) (by rw [unhide HCS]; kernel_rfl) (by rw [fld0_size, unhide HCS]) (unhide HCO) ?_
       simp only [Act.put, List.setIfInBounds_toArray, List.set_cons_succ, List.set_cons_zero])
    | (go_at_call 16; refine (law_num _ _).mono ?_; rintro e w6 ⟨rfl, hw⟩; rw [hw]; clear hw))
  go_ret
  exact ⟨ret_bool (by simp), Only.below (unhide HO2) (Nat.le_refl _) (by simp)⟩

set_option maxRecDepth 8000 in
set_option maxHeartbeats 4000000 in
theorem law_RunsThen_ok (z f : ByteArray) (m : Int) (w : World) (hz : z.size ≤ 281474976710656) (hf : f.size ≤ 281474976710656) (hE : Errs w) (hT : Tab w) (hM : Months w) (hB : Bruijn w) (hr : runN z f m = 0) (hm : 0 ≤ m ∧ m ≤ 70000000) :
    Calls Tryz.prog 4 #[.string z, .string f, .int .i64 m] w (LawSaid w) := by
  have HE := hide hE
  have HT := hide hT
  have HM := hide hM
  have HB := hide hB
  have HR := hide hr
  clear hE hT hM hB hr
  go_enter Tryz.func4, Tryz.ntmps4
  go_wp2_with (first
    | (go_at_call 19
       refine (c_Runs z f m _ hz hf (unhide HE) (unhide HT) (unhide HM) (unhide HB)).mono ?_
       rintro e w1 ⟨ho1, b, rfl, _, hb⟩
       rw [unhide HR]
       obtain ⟨zn1, F1, hz1, hF1, hb1⟩ := hb (unhide HR)
       have HZ1 := hide hz1
       have HF1 := hide hF1
       have HB1 := hide hb1
       have HO1 := hide ho1
       clear ho1 hb hz1 hF1 hb1)
    | (go_at_call 20
       refine (law_given z f m _ hz hf).mono ?_
       rintro e w2 ⟨ho2, zn, F, rfl, hok⟩
       rw [unhide HR]
       have hO2 := (unhide HO1).trans ho2
       obtain ⟨C, hC⟩ : ∃ C, C = fldV F := ⟨_, rfl⟩
       have HCS : Hid (C.size = 305) := by rw [hC]; exact fldV_size F
       have HCO : Hid (C.all (·.oneCell') = true) := by rw [hC]; exact fldV_one F
       obtain ⟨hzn, hFn⟩ := hok (unhide HR)
       have hrr : ∀ (x : Int) (w' : World), 0 ≤ x → x ≤ 70000000 → Calls Tryz.prog 21 #[.agg (zonC zn), .agg C, .int .i64 x] w' (RefRunsSaid zn F x w') := by
         intro x w' h1 h2; rw [hC]; exact ref_Runs zn F x w' (pZone_good hzn) h1 h2
       have HRR := hide hrr
       have HZN := hide hzn
       have HFN := hide hFn
       clear hrr hzn hFn
       rw [← hC]
       have hN2 : Blk ((w2.alloc (.cells (zonC zn) 32)).alloc (.cells fld0 43)) (w2.heap.size + 1) fld0 43 := by
         have h := Blk.new (w2.alloc (.cells (zonC zn) 32)) fld0 43
         simp only [World.size_alloc] at h
         exact h
       have HN2 := hide hN2
       have HZB := hide (((Blk.new w2 (zonC zn) 32).alloc (.cells fld0 43)).setRowOther (show w2.heap.size ≠ w2.heap.size + 1 by omega) C)
       have HFB := hide (Blk.setRow hN2 C)
       have HO2 := hide (((hO2.alloc (.cells (zonC zn) 32)).alloc (.cells fld0 43)).setRowNew (show w.heap.size ≤ w2.heap.size + 1 by have := hO2.size; omega) C)
       unfold zonV
       clear ho2 hO2 hC hok hN2)
    | (refine wpList_alloc_fld rfl rfl ?_; simp only [World.size_alloc, Act.put, List.setIfInBounds_toArray, List.set_cons_succ, List.set_cons_zero])
    | (refine wpList_store_row rfl 43 _ _ rfl (w2.heap.size + 1) C rfl rfl 43 fld0 (unhide HN2) (by rw [unhide HCS]; kernel_rfl) (by rw [fld0_size, unhide HCS]) (unhide HCO) ?_
       simp only [Act.put, List.setIfInBounds_toArray, List.set_cons_succ, List.set_cons_zero])
    | (refine wpList_load_row rfl 32 _ rfl w2.heap.size rfl 32 (zonC zn) (0, 0) _ (unhide HZB) Tryz.underlying32 rfl (by rw [zonC_size]; kernel_rfl) ?_
       simp only [Act.put, List.setIfInBounds_toArray, List.set_cons_succ, List.set_cons_zero])
    | (refine wpList_load_row rfl 43 _ rfl (w2.heap.size + 1) rfl 43 C (0, 0) _ (unhide HFB) Tryz.underlying43 rfl (by rw [unhide HCS]; kernel_rfl) ?_
       simp only [Act.put, List.setIfInBounds_toArray, List.set_cons_succ, List.set_cons_zero])
    | (go_at_call 16; refine (law_num _ _).mono ?_; rintro e w6 ⟨rfl, hw⟩; rw [hw]; clear hw)
    | (go_at_call 21
       refine (unhide HRR m _ hm.1 hm.2).mono ?_
       rintro e w5 ⟨⟨y, rfl, hy⟩, ho5⟩
       have hyb : y = b := by
         have e1 : zn1 = zn := Except.ok.inj ((unhide HZ1).symm.trans (unhide HZN))
         have e2 : F1 = F := Except.ok.inj ((unhide HF1).symm.trans (unhide HFN))
         have h := unhide HB1
         rw [e1, e2] at h
         exact Bool.eq_iff_iff.2 (hy.trans h.symm)
       subst hyb
       have HO5 := hide ((unhide HO2).trans ho5)
       clear hy ho5))
  go_ret
  exact ⟨ret_bool (by simp), Only.below (unhide HO5) (Nat.le_refl _) (by simp)⟩

theorem runN_range {z f : ByteArray} {m : Int} (h : runN z f m = 0) : 0 ≤ m ∧ m ≤ 70000000 := by
  unfold runN at h
  split at h
  · rename_i hn; exact absurd h hn
  · split at h
    · cases h
    · omega
theorem law_RunsThen (z f : ByteArray) (m : Int) (w : World) (hz : z.size ≤ 281474976710656) (hf : f.size ≤ 281474976710656) (hE : Errs w) (hT : Tab w) (hM : Months w) (hB : Bruijn w) :
    Calls Tryz.prog 4 #[.string z, .string f, .int .i64 m] w (LawSaid w) := by
  by_cases h : runN z f m = 0
  · exact law_RunsThen_ok z f m w hz hf hE hT hM hB h (runN_range h)
  · exact law_RunsThen_err z f m w hz hf hE hT hM hB _ rfl h
end Go.Proofs.YtnnhnihgeheahaaGreatDoor
