/- The program's read: zone and fields. -/
import Derived.Test.YtnnhnihgeheahaaDoorCodeG
import Derived.Test.YtnnhnihgeheahaaDoorFldC
import Derived.Test.YtnnhnihgeheahaaDoorRefM
import Derived.Test.YtnnhnihgeheahaaDoorBaseJ
set_option linter.unusedSimpArgs false
set_option linter.unusedVariables false
namespace Go.Proofs.YtnnhnihgeheahaaDoor
open Go.RowKit

/-- What 'read' says. -/
def ReadBSaid (z f : ByteArray) (w : World) (e : Ending) (w' : World) : Prop :=
  Below w.heap.size w w' ∧ ∃ (zn : Zon) (F : Fld) (n p : Nat), e = .returned (.tuple #[zonV zn, planV F, .int .i64 (n : Int), .int .i64 (p : Int)]) ∧ checkN z f = (n, p) ∧ (n = 0 → pZone z = .ok zn ∧ pFields f = .ok F)

theorem results_read (tmps : Array Value) (w : World) (b4 b5 : Nat) (C D : Array Value) {u v : Value} (h4 : tmps.getD 4 undef = .pointer (some ⟨b4, 0, none⟩)) (h5 : tmps.getD 5 undef = .pointer (some ⟨b5, 0, none⟩)) (h6 : tmps.getD 6 undef = u) (h7 : tmps.getD 7 undef = v)
    (hr : Blk w b4 C 32) (hs : C.size = 10) (hr5 : Blk w b5 D 38) (hs5 : D.size = 10) : (results Tryd.f7 tmps).run Tryd.prog w = .ok (.tuple #[.agg C, .agg D, u, v]) w := by
  have h4' : tmps[4]?.getD undef = .pointer (some ⟨b4, 0, none⟩) := by simpa using h4
  have h5' : tmps[5]?.getD undef = .pointer (some ⟨b5, 0, none⟩) := by simpa using h5
  have h6' : tmps[6]?.getD undef = u := by simpa using h6
  have h7' : tmps[7]?.getD undef = v := by simpa using h7
  have hl := run_loadVar_row (P := Tryd.prog) w b4 32 32 C (0, 0) _ hr Tryd.underlying32 rfl (by rw [hs]; kernel_rfl)
  have hl5 := run_loadVar_row (P := Tryd.prog) w b5 38 38 D (0, 0) _ hr5 Tryd.underlying38 rfl (by rw [hs5]; kernel_rfl)
  simp [results, Tryd.results7, h4', h5', h6', h7', asAddr, hl, hl5]

theorem zonC_size (z : Zon) : (zonC z).size = 10 := rfl
theorem planC_size (F : Fld) : (planC F).size = 10 := rfl
theorem zonC_one (z : Zon) : (zonC z).all (·.oneCell') = true := by simp [zonC, Value.oneCell']
theorem planC_one (F : Fld) : (planC F).all (·.oneCell') = true := by simp [planC, Value.oneCell']

set_option maxRecDepth 4000 in
set_option maxHeartbeats 4000000 in
theorem c_read2_long (z f : ByteArray) (w : World) (hf : f.size ≤ 281474976710656) (hl : 100 < f.size) : Calls Tryd.prog 7 #[.string z, .string f] w (ReadBSaid z f w) := by
  have hd : decide ((100 : Int) < f.size) = true := by simp; omega
  have hc : checkN z f = (1, 0) := by unfold checkN; rw [if_pos (.inr hl)]
  have HC := hide hc
  have h4 : Blk ((w.alloc (.cells zone0 32)).alloc (.cells ten0 38)) w.heap.size zone0 32 := (Blk.new _ _ _).alloc _
  have h5 : Blk ((w.alloc (.cells zone0 32)).alloc (.cells ten0 38)) (w.heap.size + 1) ten0 38 := by simpa using Blk.new (w.alloc (.cells zone0 32)) ten0 38
  have H4 := hide h4
  have H5 := hide h5
  clear hc h4 h5
  go_enter Tryd.func7, Tryd.ntmps7
  go_wp2
  refine bodyPost_ret (v := .tuple #[.agg zone0, .agg ten0, .int .i64 1, .int .i64 0]) (results_read _ _ w.heap.size (w.heap.size + 1) zone0 ten0 rfl rfl rfl rfl (unhide H4) rfl (unhide H5) rfl) rfl ⟨?_, ⟨0, 0, .zero, .zero⟩, fldNone, 1, 0, ?_, unhide HC, fun h => by cases h⟩
  · exact ((Below.refl _ _).alloc (Nat.le_refl _) _).alloc (by simp) _
  · show _ = Ending.returned (.tuple #[.agg (zonC ⟨0, 0, .zero, .zero⟩), .agg (planC fldNone), _, _])
    rw [planC_none]
    rfl

set_option maxRecDepth 4000 in
set_option maxHeartbeats 4000000 in
theorem c_read2_zone (z f : ByteArray) (n0 p0 : Nat) (w : World) (hz : z.size ≤ 281474976710656) (hf : f.size ≤ 100) (hE : Errs w) (hn0 : n0 ≠ 0 ∧ n0 ≤ 10) (h : (100 < z.size ∧ n0 = 1 ∧ p0 = 0) ∨ (z.size ≤ 100 ∧ pZone z = .error p0 ∧ n0 = 2)) :
    Calls Tryd.prog 7 #[.string z, .string f] w (ReadBSaid z f w) := by
  have hd : decide ((100 : Int) < f.size) = false := by simp; omega
  have hc : checkN z f = (n0, p0) := by
    unfold checkN
    rcases h with ⟨h1, rfl, rfl⟩ | ⟨h1, h2, rfl⟩
    · rw [if_pos (.inl h1)]
    · rw [if_neg (by omega), h2]
  have HC := hide hc
  have HH := hide h
  have HE := hide hE
  obtain ⟨w0, hw0⟩ : ∃ w0, w0 = (w.alloc (.cells zone0 32)).alloc (.cells ten0 38) := ⟨_, rfl⟩
  have h4 : Blk w0 w.heap.size zone0 32 := by rw [hw0]; exact (Blk.new _ _ _).alloc _
  have h5 : Blk w0 (w.heap.size + 1) ten0 38 := by rw [hw0]; simpa using Blk.new (w.alloc (.cells zone0 32)) ten0 38
  have ho : Only [] w w0 := by rw [hw0]; exact ((Only.refl [] w).alloc _).alloc _
  have H4 := hide h4
  have H5 := hide h5
  have HO := hide ho
  have hni : ((n0 : Int) != 0) = true := by rw [bne_iff_ne]; omega
  clear hc h hE h4 h5 ho
  unfold zone0 ten0 at hw0
  go_enter Tryd.func7, Tryd.ntmps7
  go_wp2_with (first
    | (go_at_call 10
       rw [← hw0]
       refine (c_read z _ hz ((unhide HE).only (unhide HO) (by simp) (by simp))).mono ?_
       rintro e w1 ⟨hbel, zz, n, p, rfl, hl, hsm⟩
       obtain ⟨rfl, rfl⟩ : n = (n0 : Int) ∧ p = p0 := by
         rcases unhide HH with ⟨h1, h2, h3⟩ | ⟨h1, h2, h3⟩
         · rw [(hl h1).1, (hl h1).2, h2, h3]; exact ⟨rfl, rfl⟩
         · rw [((hsm h1).2 _ h2).1, ((hsm h1).2 _ h2).2, h3]; exact ⟨rfl, rfl⟩
       have ho1 := Only.of_below [] hbel
       have H41 := hide (((unhide H4).only ho1 (by simp)).alloc (.cells (zonC zz) 32))
       have H51 := hide (((unhide H5).only ho1 (by simp)).alloc (.cells (zonC zz) 32))
       have HO1 := hide (((unhide HO).trans ho1).alloc (.cells (zonC zz) 32))
       unfold zonV
       clear hl hsm hbel HH ho1 H4 H5 HO hw0)
    | (refine wpList_store_row rfl 32 _ _ rfl w.heap.size zone0 rfl rfl 32 zone0 (unhide H41) (by kernel_rfl) rfl (by kernel_rfl) ?_
       simp only [Act.put, List.setIfInBounds_toArray, List.set_cons_succ, List.set_cons_zero])
    | (refine wpList_store_row rfl 38 _ _ rfl (w.heap.size + 1) ten0 rfl rfl 38 ten0 ((unhide H51).setRowOther (by omega) zone0) (by kernel_rfl) rfl (by kernel_rfl) ?_
       simp only [Act.put, List.setIfInBounds_toArray, List.set_cons_succ, List.set_cons_zero]))
  have hA := (Blk.setRow (unhide H41) zone0).setRowOther (show w.heap.size ≠ w.heap.size + 1 by omega) ten0
  have hB := Blk.setRow ((unhide H51).setRowOther (show w.heap.size + 1 ≠ w.heap.size by omega) zone0) ten0
  have hO := ((unhide HO1).setRowNew (Nat.le_refl w.heap.size) zone0).setRowNew (show w.heap.size ≤ w.heap.size + 1 by omega) ten0
  refine bodyPost_ret (v := .tuple #[.agg zone0, .agg ten0, .int .i64 (n0 : Int), .int .i64 (p : Int)]) (results_read _ _ w.heap.size (w.heap.size + 1) zone0 ten0 rfl rfl rfl rfl hA rfl hB rfl) rfl ⟨Only.below hO (Nat.le_refl _) (by simp), ⟨0, 0, .zero, .zero⟩, fldNone, n0, p, ?_, unhide HC, fun h => absurd h hn0.1⟩
  show _ = Ending.returned (.tuple #[.agg (zonC ⟨0, 0, .zero, .zero⟩), .agg (planC fldNone), _, _])
  rw [planC_none]
  rfl

set_option maxRecDepth 4000 in
set_option maxHeartbeats 4000000 in
theorem c_read2_ok (z f : ByteArray) (zn : Zon) (w : World) (hz : z.size ≤ 100) (hf : f.size ≤ 100) (hE : Errs w) (hT : Tab w) (hzn : pZone z = .ok zn) :
    Calls Tryd.prog 7 #[.string z, .string f] w (ReadBSaid z f w) := by
  have hd : decide ((100 : Int) < f.size) = false := by simp; omega
  have hc : checkN z f = match pFields f with
      | .error q => (3, q)
      | .ok _ => (0, 0) := by
    unfold checkN
    rw [if_neg (by omega), hzn]
    cases pFields f <;> rfl
  have HC := hide hc
  have HZN := hide hzn
  have HE := hide hE
  have HT := hide hT
  obtain ⟨w0, hw0⟩ : ∃ w0, w0 = (w.alloc (.cells zone0 32)).alloc (.cells ten0 38) := ⟨_, rfl⟩
  have h4 : Blk w0 w.heap.size zone0 32 := by rw [hw0]; exact (Blk.new _ _ _).alloc _
  have h5 : Blk w0 (w.heap.size + 1) ten0 38 := by rw [hw0]; simpa using Blk.new (w.alloc (.cells zone0 32)) ten0 38
  have ho : Only [] w w0 := by rw [hw0]; exact ((Only.refl [] w).alloc _).alloc _
  have H4 := hide h4
  have H5 := hide h5
  have HO := hide ho
  clear hc hzn hE hT h4 h5 ho
  unfold zone0 ten0 at hw0
  go_enter Tryd.func7, Tryd.ntmps7
  go_upto_region 7 with (first
    | (go_at_call 10
       rw [← hw0]
       refine (c_read z _ (by omega) ((unhide HE).only (unhide HO) (by simp) (by simp))).mono ?_
       rintro e w1 ⟨hbel, zz, n, p, rfl, hl, hsm⟩
       obtain ⟨rfl, rfl, rfl⟩ := (hsm hz).1 zn (unhide HZN)
       have ho1 := Only.of_below [] hbel
       have H41 := hide (((unhide H4).only ho1 (by simp)).alloc (.cells (zonC zz) 32))
       have H51 := hide (((unhide H5).only ho1 (by simp)).alloc (.cells (zonC zz) 32))
       have HO1 := hide (((unhide HO).trans ho1).alloc (.cells (zonC zz) 32))
       have HV1 := hide (Blk.new w1 (zonC zz) 32)
       have hlt1 : w.heap.size + 1 < w1.heap.size := by have := (unhide H51).lt; have := (unhide HV1).lt; simp only [World.size_alloc] at *; have h9 := ((unhide H5).only ho1 (by simp)).lt; omega
       unfold zonV
       clear hl hsm hbel ho1 H4 H5 HO hw0)
    | (go_at_call 11
       refine (c_readFields f _ (by omega) ((unhide HE).only (unhide HO1) (by simp) (by simp)) ((unhide HT).only (unhide HO1) (by simp))).mono ?_
       rintro e w2 ⟨hbel2, F, n2, p2, rfl, hs1, hs2⟩
       have ho2 := Only.of_below [] hbel2
       have H42 := hide (((unhide H41).only ho2 (by simp)).alloc (.cells (planC F) 38))
       have H52 := hide (((unhide H51).only ho2 (by simp)).alloc (.cells (planC F) 38))
       have HO2 := hide (((unhide HO1).trans ho2).alloc (.cells (planC F) 38))
       have HV2 := hide (((unhide HV1).only ho2 (by simp)).alloc (.cells (planC F) 38))
       have HP2 := hide (Blk.new w2 (planC F) 38)
       have hlt2 : w1.heap.size < w2.heap.size := by have := ((unhide HV1).only ho2 (by simp)).lt; omega
       have hend : ∃ n : Nat, n2 = (n : Int) ∧ checkN z f = (n, p2) ∧ (n = 0 → pFields f = .ok F) := by
         rw [unhide HC]
         cases hq : pFields f with
         | error q => obtain ⟨rfl, rfl⟩ := hs2 q hq; exact ⟨3, rfl, rfl, fun h => by cases h⟩
         | ok G => obtain ⟨rfl, rfl, rfl⟩ := hs1 G hq; exact ⟨0, rfl, rfl, fun _ => rfl⟩
       obtain ⟨nn, rfl, hend⟩ := hend
       have HEND := hide hend
       unfold planV planC
       clear hs1 hs2 hbel2 ho2 H41 H51 HO1 HV1 hend))
  have hS : (fun w' => Blk w' w1.heap.size (zonC zz) 32 ∧ Blk w' w2.heap.size (planC F) 38) (w2.alloc (.cells (planC F) 38)).drew := ⟨(unhide HV2).drew, (unhide HP2).drew⟩
  refine wp_region_held (S := fun w' => Blk w' w1.heap.size (zonC zz) 32 ∧ Blk w' w2.heap.size (planC F) 38) (by kernel_rfl) ?_
  refine wpAnyH_take (i := 0) (v := .agg (zonC zz)) rfl (by kernel_rfl) (by kernel_rfl) (by kernel_rfl) (fun _ _ _ h => h) (yieldsIf_load_row (by rfl) 32 (.tmp 8) (by rfl) w1.heap.size (by rfl) 32 (zonC zz) (0, 0) _ (fun _ h => h.1) Tryd.underlying32 (by rfl) (by rw [zonC_size]; kernel_rfl)) hS ?_
  simp only [Act.put, List.getElem_toArray, List.getElem_cons_succ, List.getElem_cons_zero, List.setIfInBounds_toArray, List.set_cons_succ, List.set_cons_zero]
  refine wpAnyH_take (i := 1) (v := .agg (planC F)) rfl (by kernel_rfl) (by kernel_rfl) (by kernel_rfl) (fun _ _ _ h => h) (yieldsIf_load_row (by rfl) 38 (.tmp 11) (by rfl) w2.heap.size (by rfl) 38 (planC F) (0, 0) _ (fun _ h => h.2) Tryd.underlying38 (by rfl) (by rw [planC_size]; kernel_rfl)) hS ?_
  simp only [Act.put, List.getElem_toArray, List.getElem_cons_succ, List.getElem_cons_zero, List.setIfInBounds_toArray, List.set_cons_succ, List.set_cons_zero]
  refine wpAnyH_take (i := 2) (v := .int .i64 (nn : Int)) rfl (by kernel_rfl) (by kernel_rfl) (by kernel_rfl) (fun _ _ _ h => h) (Or.inl ⟨by rfl, fun wx hx => ?_⟩) hS ?_
  · rfl
  simp only [Act.put, List.getElem_toArray, List.getElem_cons_succ, List.getElem_cons_zero, List.setIfInBounds_toArray, List.set_cons_succ, List.set_cons_zero]
  refine wpAnyH_take (i := 3) (v := .int .i64 (p2 : Int)) rfl (by kernel_rfl) (by kernel_rfl) (by kernel_rfl) (fun _ _ _ h => h) (Or.inl ⟨by rfl, fun wx hx => ?_⟩) hS ?_
  · rfl
  simp only [Act.put, List.getElem_toArray, List.getElem_cons_succ, List.getElem_cons_zero, List.setIfInBounds_toArray, List.set_cons_succ, List.set_cons_zero]
  refine wpAnyH_ready (rs := [4]) (by kernel_rfl) (by simp) ?_
  refine AllReadyH.cons rfl (fun K hK => ?_) AllReadyH.nil
  rw [if_pos (by rfl)]
  refine wp_store_row 32 _ _ rfl w.heap.size (zonC zz) rfl rfl 32 zone0 (unhide H42).drew (by rw [zonC_size]; kernel_rfl) rfl (zonC_one zz) ?_
  simp only [Act.put, List.getElem_toArray, List.getElem_cons_succ, List.getElem_cons_zero, List.setIfInBounds_toArray, List.set_cons_succ, List.set_cons_zero]
  refine hK.out _ _ ⟨hS.1.setRowOther (by omega) _, hS.2.setRowOther (by omega) _⟩ (fun hS => ?_)
  clear hK
  refine wpAnyH_ready (rs := [5]) (by kernel_rfl) (by simp) ?_
  refine AllReadyH.cons rfl (fun K hK => ?_) AllReadyH.nil
  rw [if_pos (by rfl)]
  refine wp_store_row 38 _ _ rfl (w.heap.size + 1) (planC F) rfl rfl 38 ten0 ((unhide H52).drew.setRowOther (by omega) _) (by rw [planC_size]; kernel_rfl) rfl (planC_one F) ?_
  simp only [Act.put, List.getElem_toArray, List.getElem_cons_succ, List.getElem_cons_zero, List.setIfInBounds_toArray, List.set_cons_succ, List.set_cons_zero]
  refine hK.out _ _ ⟨hS.1.setRowOther (by omega) _, hS.2.setRowOther (by omega) _⟩ (fun hS => ?_)
  clear hK
  refine wpAnyH_take (i := 6) (v := .int .i64 (nn : Int)) rfl (by kernel_rfl) (by kernel_rfl) (by kernel_rfl) (fun _ _ _ h => h) (Or.inl ⟨by rfl, fun wx hx => ?_⟩) hS ?_
  · rfl
  simp only [Act.put, List.getElem_toArray, List.getElem_cons_succ, List.getElem_cons_zero, List.setIfInBounds_toArray, List.set_cons_succ, List.set_cons_zero]
  refine wpAnyH_take (i := 7) (v := .int .i64 (p2 : Int)) rfl (by kernel_rfl) (by kernel_rfl) (by kernel_rfl) (fun _ _ _ h => h) (Or.inl ⟨by rfl, fun wx hx => ?_⟩) hS ?_
  · rfl
  simp only [Act.put, List.getElem_toArray, List.getElem_cons_succ, List.getElem_cons_zero, List.setIfInBounds_toArray, List.set_cons_succ, List.set_cons_zero]
  refine wpAnyH_done (by kernel_rfl) ?_ _
  have hA := (Blk.setRow (unhide H42).drew (zonC zz)).setRowOther (show w.heap.size ≠ w.heap.size + 1 by omega) (planC F)
  have hB := Blk.setRow ((unhide H52).drew.setRowOther (show w.heap.size + 1 ≠ w.heap.size by omega) (zonC zz)) (planC F)
  have hO := (((unhide HO2).drew).setRowNew (Nat.le_refl w.heap.size) (zonC zz)).setRowNew (show w.heap.size ≤ w.heap.size + 1 by omega) (planC F)
  have HA := hide hA
  have HB := hide hB
  have HOO := hide hO
  clear hA hB hO hS
  go_wp2
  exact bodyPost_ret (v := .tuple #[.agg (zonC zz), .agg (planC F), .int .i64 (nn : Int), .int .i64 (p2 : Int)]) (results_read _ _ w.heap.size (w.heap.size + 1) (zonC zz) (planC F) rfl rfl rfl rfl (unhide HA) rfl (unhide HB) rfl) rfl ⟨Only.below (unhide HOO) (Nat.le_refl _) (by simp), zz, F, nn, p2, rfl, (unhide HEND).1, fun h => ⟨unhide HZN, (unhide HEND).2 h⟩⟩

theorem c_read2 (z f : ByteArray) (w : World) (hz : z.size ≤ 281474976710656) (hf : f.size ≤ 281474976710656) (hE : Errs w) (hT : Tab w) : Calls Tryd.prog 7 #[.string z, .string f] w (ReadBSaid z f w) := by
  by_cases h1 : 100 < f.size
  · exact c_read2_long z f w hf h1
  · by_cases h2 : 100 < z.size
    · exact c_read2_zone z f 1 0 w hz (by omega) hE (by omega) (.inl ⟨h2, rfl, rfl⟩)
    · cases hq : pZone z with
      | error q => exact c_read2_zone z f 2 q w hz (by omega) hE (by omega) (.inr ⟨by omega, hq, rfl⟩)
      | ok zn => exact c_read2_ok z f zn w (by omega) (by omega) hE hT hq
end Go.Proofs.YtnnhnihgeheahaaDoor
