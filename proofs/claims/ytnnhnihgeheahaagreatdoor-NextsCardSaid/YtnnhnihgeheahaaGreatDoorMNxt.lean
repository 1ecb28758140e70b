/- LawN, NxtProof, in one text. -/
import Derived.Test.YtnnhnihgeheahaaGreatDoorMLaw
import Derived.Test.YtnnhnihgeheahaaGreatDoorRows
import Derived.Test.YtnnhnihgeheahaaGreatDoorTie
import Derived.Test.YtnnhnihgeheahaaGreatDoorCards
import Derived.Test.YtnnhnihgeheahaaGreatDoorRunLaid
import Derived.ProofKit
import Derived.Carry
import Derived.LaidMore
import Derived.OpenShut
import Derived.Stop.Joined
import Derived.Stop.LaidErr
import Derived.MakeChecks
import Derived.SevenTiedAt
/- Nexts, as a law over the contracts. -/
set_option linter.unusedSimpArgs false
set_option linter.unusedVariables false
namespace Go.Proofs.YtnnhnihgeheahaaGreatDoor
open Go.RowKit

set_option maxRecDepth 8000 in
set_option maxHeartbeats 4000000 in
theorem law_Nexts_err (z f : ByteArray) (m o : Int) (w : World) (hz : z.size ≤ 281474976710656) (hf : f.size ≤ 281474976710656) (hE : Errs w) (hT : Tab w) (hM : Months w) (hB : Bruijn w) (r0 : Nat) (hr : runN z f m = r0) (hr0 : r0 ≠ 0) :
    Calls Tryz.prog 7 #[.string z, .string f, .int .i64 m, .int .i64 o] w (LawSaid w) := by
  have HE := hide hE
  have HT := hide hT
  have HM := hide hM
  have HB := hide hB
  have HR := hide hr
  have hri : ((r0 : Int) != 0) = true := by rw [bne_iff_ne]; omega
  have hre : ((r0 : Int) == r0) = true := by simp
  clear hE hT hM hB hr
  go_enter Tryz.func7, Tryz.ntmps7
  go_wp2_with (first
    | (go_at_call 28
       refine (c_Next z f m _ hz hf (unhide HE) (unhide HT) (unhide HM) (unhide HB)).mono ?_
       rintro e w1 ⟨ho1, x, n, rfl, hb, _⟩
       obtain ⟨rfl, hn⟩ := hb (by rw [unhide HR]; exact hr0)
       rw [unhide HR] at hn
       subst hn
       have HO1 := hide ho1
       clear ho1 hb)
    | (go_at_call 20
       refine (law_given z f m _ hz hf).mono ?_
       rintro e w2 ⟨ho2, zn, F, rfl, hok⟩
       rw [unhide HR]
       have hO2 := (unhide HO1).trans ho2
       obtain ⟨C, hC⟩ : ∃ C, C = fldV F := ⟨_, rfl⟩
       have HCS : Hid (C.size = 305) := by rw [hC]; exact fldV_size F
       have HCO : Hid (C.all (·.oneCell') = true) := by rw [hC]; exact fldV_one F
       rw [← hC]
       have hN2 : Blk ((w2.alloc (.cells (zonC zn) 32)).alloc (.cells fld0 43)) (w2.heap.size + 1) fld0 43 := by
         have h := Blk.new (w2.alloc (.cells (zonC zn) 32)) fld0 43
         simp only [World.size_alloc] at h
         exact h
       have HN2 := hide hN2
       have HZB := hide (((Blk.new w2 (zonC zn) 32).alloc (.cells fld0 43)).setRowOther (show w2.heap.size ≠ w2.heap.size + 1 by omega) C)
       have HFB := hide (Blk.setRow hN2 C)
       have HO2 := hide (((hO2.alloc (.cells (zonC zn) 32)).alloc (.cells fld0 43)).setRowNew (show w.heap.size ≤ w2.heap.size + 1 by have := hO2.size; omega) C)
       unfold zonV
       clear ho2 hO2 hC hok hN2)
    | (refine wpList_alloc_fld rfl rfl ?_; simp only [World.size_alloc, Act.put, List.setIfInBounds_toArray, List.set_cons_succ, List.set_cons_zero])
    | (refine wpList_store_row rfl 43 _ _ rfl (w2.heap.size + 1) C rfl rfl 43 fld0 (unhide HN2) (by rw [unhide HCS]; kernel_rfl) (by rw [fld0_size, unhide HCS]) (unhide HCO) ?_
       simp only [Act.put, List.setIfInBounds_toArray, List.set_cons_succ, List.set_cons_zero])
    | (go_at_call 16; refine (law_num _ _).mono ?_; rintro e w6 ⟨rfl, hw⟩; rw [hw]; clear hw))
  go_ret
  exact ⟨ret_bool (by simp), Only.below (unhide HO2) (Nat.le_refl _) (by simp)⟩

set_option maxRecDepth 8000 in
set_option maxHeartbeats 4000000 in
theorem law_Nexts_ok (z f : ByteArray) (m o : Int) (w : World) (hz : z.size ≤ 281474976710656) (hf : f.size ≤ 281474976710656) (hE : Errs w) (hT : Tab w) (hM : Months w) (hB : Bruijn w) (hr : runN z f m = 0) (hm : 0 ≤ m ∧ m ≤ 70000000) :
    Calls Tryz.prog 7 #[.string z, .string f, .int .i64 m, .int .i64 o] w (LawSaid w) := by
  have HE := hide hE
  have HT := hide hT
  have HM := hide hM
  have HB := hide hB
  have HR := hide hr
  clear hE hT hM hB hr
  go_enter Tryz.func7, Tryz.ntmps7
  go_upto_region 3 with (first
    | (go_at_call 28
       refine (c_Next z f m _ hz hf (unhide HE) (unhide HT) (unhide HM) (unhide HB)).mono ?_
       rintro e w1 ⟨ho1, x, n, rfl, _, hb⟩
       obtain ⟨zn1, F1, hz1, hF1, hb1⟩ := hb (unhide HR)
       have HZ1 := hide hz1
       have HF1 := hide hF1
       have HB1 := hide hb1
       have HO1 := hide ho1
       clear ho1 hb hz1 hF1 hb1)
    | (go_at_call 20
       refine (law_given z f m _ hz hf).mono ?_
       rintro e w2 ⟨ho2, zn, F, rfl, hok⟩
       rw [unhide HR]
       have hO2 := (unhide HO1).trans ho2
       obtain ⟨C, hC⟩ : ∃ C, C = fldV F := ⟨_, rfl⟩
       have HCS : Hid (C.size = 305) := by rw [hC]; exact fldV_size F
       have HCO : Hid (C.all (·.oneCell') = true) := by rw [hC]; exact fldV_one F
       obtain ⟨hzn, hFn⟩ := hok (unhide HR)
       have hrr : ∀ (x x' : Int) (w' : World), x' = x → 0 ≤ x → x ≤ 70000000 → Calls Tryz.prog 21 #[.agg (zonC zn), .agg C, .int .i64 x'] w' (RefRunsSaid zn F x w') := by
         intro x x' w' h0 h1 h2; subst h0; rw [hC]; exact ref_Runs zn F x' w' (pZone_good hzn) h1 h2
       have HRR := hide hrr
       have HZN := hide hzn
       have HFN := hide hFn
       clear hrr hzn hFn
       rw [← hC]
       have hN2 : Blk ((w2.alloc (.cells (zonC zn) 32)).alloc (.cells fld0 43)) (w2.heap.size + 1) fld0 43 := by
         have h := Blk.new (w2.alloc (.cells (zonC zn) 32)) fld0 43
         simp only [World.size_alloc] at h
         exact h
       have HN2 := hide hN2
       have HZB := hide (((Blk.new w2 (zonC zn) 32).alloc (.cells fld0 43)).setRowOther (show w2.heap.size ≠ w2.heap.size + 1 by omega) C)
       have HFB := hide (Blk.setRow hN2 C)
       have HO2 := hide (((hO2.alloc (.cells (zonC zn) 32)).alloc (.cells fld0 43)).setRowNew (show w.heap.size ≤ w2.heap.size + 1 by have := hO2.size; omega) C)
       unfold zonV
       clear ho2 hO2 hC hok hN2)
    | (refine wpList_alloc_fld rfl rfl ?_; simp only [World.size_alloc, Act.put, List.setIfInBounds_toArray, List.set_cons_succ, List.set_cons_zero])
    | (refine wpList_store_row rfl 43 _ _ rfl (w2.heap.size + 1) C rfl rfl 43 fld0 (unhide HN2) (by rw [unhide HCS]; kernel_rfl) (by rw [fld0_size, unhide HCS]) (unhide HCO) ?_
       simp only [Act.put, List.setIfInBounds_toArray, List.set_cons_succ, List.set_cons_zero])
    | (refine wpList_load_row rfl 32 _ rfl w2.heap.size rfl 32 (zonC zn) (0, 0) _ (unhide HZB) Tryz.underlying32 rfl (by rw [zonC_size]; kernel_rfl) ?_
       simp only [Act.put, List.setIfInBounds_toArray, List.set_cons_succ, List.set_cons_zero])
    | (refine wpList_load_row rfl 43 _ rfl (w2.heap.size + 1) rfl 43 C (0, 0) _ (unhide HFB) Tryz.underlying43 rfl (by rw [unhide HCS]; kernel_rfl) ?_
       simp only [Act.put, List.setIfInBounds_toArray, List.set_cons_succ, List.set_cons_zero])
    | (go_at_call 16; refine (law_num _ _).mono ?_; rintro e w6 ⟨rfl, hw⟩; rw [hw]; clear hw))
  have hb1 := unhide HB1
  have e1 : zn1 = zn := Except.ok.inj ((unhide HZ1).symm.trans (unhide HZN))
  have e2 : F1 = F := Except.ok.inj ((unhide HF1).symm.trans (unhide HFN))
  rw [e1, e2] at hb1
  clear HB1 HZ1 HF1 e1 e2
  rcases hb1 with ⟨rfl, hx⟩ | ⟨rfl, rfl, hx⟩
  · obtain ⟨x1, x2, x3, x4⟩ := hx.1 rfl
    have HXR := hide x3
    have HNO := hide x4
    clear hx x3 x4
    go_wp2_with (first
      | (go_at_call 21
         refine (unhide HRR x _ _ (by omega) (by omega) (by omega)).mono ?_
         rintro e w5 ⟨⟨y, rfl, hy⟩, ho5⟩
         have hyt : y = true := hy.2 (unhide HXR)
         subst hyt
         have hZ5 := (unhide HZB).only ho5 (by simp)
         have hF5 := (unhide HFB).only ho5 (by simp)
         have hO5 := (unhide HO2).trans ho5
         clear HZB HFB HO2 hy ho5 HXR
         have HZB := hide hZ5
         have HFB := hide hF5
         have HO2 := hide hO5
         clear hZ5 hF5 hO5)
      | (go_at_call 21
         refine (unhide HRR o _ _ (by omega) (by omega) (by omega)).mono ?_
         rintro e w5 ⟨⟨y, rfl, hy⟩, ho5⟩
         have hyf : y = false := by
           cases y with
           | false => rfl
           | true => exact absurd (hy.1 rfl) (unhide HNO o (by omega) (by omega))
         subst hyf
         have hO5 := (unhide HO2).trans ho5
         clear HO2 hy ho5
         have HO2 := hide hO5
         clear hO5)
      | (refine wpList_load_row rfl 32 _ rfl w2.heap.size rfl 32 (zonC zn) (0, 0) _ (unhide HZB) Tryz.underlying32 rfl (by rw [zonC_size]; kernel_rfl) ?_
         simp only [Act.put, List.setIfInBounds_toArray, List.set_cons_succ, List.set_cons_zero])
      | (refine wpList_load_row rfl 43 _ rfl (w2.heap.size + 1) rfl 43 C (0, 0) _ (unhide HFB) Tryz.underlying43 rfl (by rw [unhide HCS]; kernel_rfl) ?_
         simp only [Act.put, List.setIfInBounds_toArray, List.set_cons_succ, List.set_cons_zero])
      | (go_at_call 16; refine (law_num _ _).mono ?_; rintro e w6 ⟨rfl, hw⟩; rw [hw]; clear hw))
    all_goals
      go_ret
      exact ⟨ret_bool (by simp), Only.below (unhide HO2) (Nat.le_refl _) (by simp)⟩
  · have HNO := hide hx.none
    clear hx
    go_wp2_with (first
      | (go_at_call 21
         refine (unhide HRR o _ _ (by omega) (by omega) (by omega)).mono ?_
         rintro e w5 ⟨⟨y, rfl, hy⟩, ho5⟩
         have hyf : y = false := by
           cases y with
           | false => rfl
           | true => exact absurd (hy.1 rfl) (unhide HNO o (by omega) (by omega))
         subst hyf
         have hO5 := (unhide HO2).trans ho5
         clear HO2 hy ho5
         have HO2 := hide hO5
         clear hO5)
      | (refine wpList_load_row rfl 32 _ rfl w2.heap.size rfl 32 (zonC zn) (0, 0) _ (unhide HZB) Tryz.underlying32 rfl (by rw [zonC_size]; kernel_rfl) ?_
         simp only [Act.put, List.setIfInBounds_toArray, List.set_cons_succ, List.set_cons_zero])
      | (refine wpList_load_row rfl 43 _ rfl (w2.heap.size + 1) rfl 43 C (0, 0) _ (unhide HFB) Tryz.underlying43 rfl (by rw [unhide HCS]; kernel_rfl) ?_
         simp only [Act.put, List.setIfInBounds_toArray, List.set_cons_succ, List.set_cons_zero])
      | (go_at_call 16; refine (law_num _ _).mono ?_; rintro e w6 ⟨rfl, hw⟩; rw [hw]; clear hw))
    all_goals
      go_ret
      exact ⟨ret_bool (by simp), Only.below (unhide HO2) (Nat.le_refl _) (by simp)⟩

theorem law_Nexts (z f : ByteArray) (m o : Int) (w : World) (hz : z.size ≤ 281474976710656) (hf : f.size ≤ 281474976710656) (hE : Errs w) (hT : Tab w) (hM : Months w) (hB : Bruijn w) :
    Calls Tryz.prog 7 #[.string z, .string f, .int .i64 m, .int .i64 o] w (LawSaid w) := by
  by_cases h : runN z f m = 0
  · exact law_Nexts_ok z f m o w hz hf hE hT hM hB h (runN_range h)
  · exact law_Nexts_err z f m o w hz hf hE hT hM hB _ rfl h
end Go.Proofs.YtnnhnihgeheahaaGreatDoor

/- Nexts: the law out of the contracts, the row, the card. -/
set_option linter.unusedSimpArgs false
set_option linter.unusedVariables false
namespace Go.Proofs.YtnnhnihgeheahaaGreatDoor
open Go.ChangeShapes Go.WideShapes Go.ChangeAt Go.WideMaps Go.WideElems Go.RowKit
open Go.ChangeMaps (open_string shut_string)

set_option maxRecDepth 100000 in
theorem lifted (os : Os) (started : os.Started) (H : Type) (enc : TypeId × Value → H) :
    ReturnsInHanded {} Tryz.checked os 7 .any (fun w args => (Rows.nextsSpec.pre enc Tryz.prog Tryz.f7 [] false w args ∧ laidMetH Tryz.prog laidAll w) ∧ sizedMet enc Tryz.prog Tryz.f7 (OpenSpec.ofChange Rows.nextsSpec) false w args)
      (Rows.nextsSpec.post enc Tryz.prog Tryz.f7 false true false false) := by
  refine returnsInHanded_of_change_and (C := Tryz.checked) (X := fun w _ => laidMetH Tryz.prog laidAll w) (fun _ _ _ hh h => h.of_heap hh) own started (by kernel_rfl) Tryz.func7
    (ChangeSpec.witness_shaped (enc := enc) (C := Tryz.checked) (os := os) (X := fun w _ => laidMetH Tryz.prog laidAll w) false (World.doorLaid Tryz.prog 400 os) #[.string ⟨#[]⟩, .string ⟨#[]⟩, .int .i64 0, .int .i64 0] 8 rfl (World.shaped_of_RefB (by kernel_rfl) (by kernel_rfl)) (by kernel_rfl) (by kernel_rfl) (by kernel_rfl) (door_met os _)) ?_
  intro W base args ds gs before hval0 hW _ hsz0 hL _
  have hsz : (DataW.weightsEach Tryz.prog (Tryz.f7.params.toList ++ Rows.nextsSpec.plain.varTypes Tryz.prog) (ds ++ gs)).all (· ≤ reachBytes) = true := hsz0
  clear hsz0
  have hval : ∀ (j : Nat) t v, Tryz.f7.params[j]? = some t → args[j]? = some v → Value.okWide Tryz.prog W .any base t v := hval0
  have hW' := hW
  obtain ⟨p, q, hA0, hV, rfl, _, _⟩ := hW
  have hA : DataW.TrodAll enc Tryz.prog W 0 (fun _ => true) true Tryz.f7.params.toList args.toList ds p := hA0
  rw [Tryz.params7] at hA hval hsz
  obtain ⟨v0, v1, v2, v3, d0, d1, d2, d3, p0, p1, p2, p3, rfl, rfl, rfl, h0, h1, h2, h3⟩ := trodAll_four hA
  obtain ⟨rfl, rfl⟩ := trodVars_none hV
  obtain ⟨z, rfl, rfl, rfl, hz⟩ := open_string Tryz.underlying9 (hval 0 9 v0 rfl rfl) h0
  obtain ⟨f, rfl, rfl, rfl, hf⟩ := open_string Tryz.underlying9 (hval 1 9 v1 rfl rfl) h1
  obtain ⟨m, rfl, rfl, rfl, hm⟩ := open_int Tryz.underlying3 (hval 2 3 v2 rfl rfl) h2
  obtain ⟨o, rfl, rfl, rfl, ho⟩ := open_int Tryz.underlying3 (hval 3 3 v3 rfl rfl) h3
  clear hA0 hval0
  simp only [List.append_nil] at hW'
  have e3 : (2 : Nat) ^ 47 = 140737488355328 := by decide
  have h2 := reachBytes_lt
  have hlz : z.size ≤ 281474976710656 := by
    have h1 := sized_string hsz (j := 0) (t := 9) rfl rfl
    have e2 : z.data.toList.length = z.size := by simp
    omega
  have hlf : f.size ≤ 281474976710656 := by
    have h1 := sized_string hsz (j := 1) (t := 9) rfl rfl
    have e2 : f.data.toList.length = f.size := by simp
    omega
  obtain ⟨hE, hT, hM, hB⟩ := of_laid hL
  refine (law_Nexts z f m o W hlz hlf hE hT hM hB).mono fun e W' ⟨he, hnx⟩ => ?_
  subst he
  refine ⟨_, rfl, _, _, _, [], [], [], hW', ?_, ?_, rfl, hnx.frame _, fun h => by cases h⟩
  · exact trodAll_mk1 (shut_bool Tryz.underlying4 _)
  · exact trodAll_mk4 (shut_string Tryz.underlying9 hz) (shut_string Tryz.underlying9 hf) (shut_int Tryz.underlying3 hm) (shut_int Tryz.underlying3 ho)

theorem nexts_row : Rows.NextsSaid :=
  OpenClaim.holds_of_wide 7 Tryz.f7 rfl rfl rfl rfl rfl rfl rfl ⟨rfl, rfl, rfl, rfl, rfl⟩ rfl rfl rfl rfl rfl (by kernel_rfl) Tryz.func7 (by kernel_rfl)
    (of_decide_eq_true (by kernel_rfl)) (by unfold Func.isWrapper; rw [if_neg (of_decide_eq_false (by kernel_rfl))]; exact ⟨rfl, rfl⟩)
    (fun os started H enc _ => lifted os started H enc)

theorem nexts_card : Rows.NextsCardSaid :=
  Claim7.holds_tied_plain_at .later [] [.data, .data, .data, .sentinel, .sentinel, .data, .data] true Rows.nextsCard.stood.harness true
    nexts_row (fun _ h => by cases h) (by kernel_rfl) (fun _ h => by cases h) nexts_row_tie rfl ⟨rfl, rfl⟩ (by kernel_rfl) rfl
    (fun f fn hf hfn => by
      obtain rfl : f = 7 := Option.some.inj ((show Tryz.prog.funcNamed "tock/tocklaw.Nexts" = some 7 by kernel_rfl).symm.trans hf) |>.symm
      obtain rfl : fn = Tryz.f7 := (Option.some.inj (Tryz.func7.symm.trans hfn)).symm
      exact ⟨by kernel_rfl, fun j t ht => by
        rw [Tryz.params7] at ht
        have hm : t ∈ [9, 9, 3, 3] := by simpa using Array.mem_of_getElem? ht
        have hall : ([9, 9, 3, 3].all fun u => !Tryz.prog.wantsStandIn u) = true := by kernel_rfl
        exact (show Tryz.prog.wantsStandIn t = false by simpa using List.all_eq_true.1 hall t hm)⟩)
    (by kernel_rfl)
end Go.Proofs.YtnnhnihgeheahaaGreatDoor
