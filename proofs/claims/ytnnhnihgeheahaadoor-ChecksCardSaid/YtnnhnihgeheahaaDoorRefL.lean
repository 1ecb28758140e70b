/- The reference reader's field: items. -/
import Derived.Test.YtnnhnihgeheahaaDoorRefK
import Derived.Test.YtnnhnihgeheahaaDoorBaseG
import Derived.Deep.Cut
import Derived.Laws.Rows
import Derived.Laws.Tables
import Derived.Great.Walk
set_option linter.unusedSimpArgs false
set_option linter.unusedVariables false
namespace Go.Proofs.YtnnhnihgeheahaaDoor
open Go.RowKit

set_option maxHeartbeats 2000000 in
theorem ref_field_items (b : Nat) (s : ByteArray) (i : Nat) (lo hi : Nat) (lo' hi' : Int) (e1 : lo' = lo) (e2 : hi' = hi) (T : TypeId) (w : World) (hb : Holds w b T s (.ok i)) (h42 : byteAt s i ≠ 42) (hs : s.size ≤ 281474976710656) (hlh : lo ≤ hi) (hhi : hi ≤ 59) :
    Calls Tryd.prog 18 #[.pointer (some ⟨b, 0, none⟩), .int .i64 lo', .int .i64 hi'] w (FieldSaid b T s (.ok i) lo hi w) := by
  subst e1 e2
  have hlt := hb.lt
  have hu00 : Blk ((w.alloc (.cells set0 49)).alloc (.cells set0 49)) (w.heap.size + 1) set0 49 := by have := Blk.new (w.alloc (.cells set0 49)) set0 49; rw [World.size_alloc] at this; exact this
  have hu0 : Blk (((w.alloc (.cells set0 49)).alloc (.cells set0 49)).setRow (w.heap.size + 1) set0) (w.heap.size + 1) (setA (fun _ => false) false) 49 := hu00.setRow _
  have hr0 : Blk (((w.alloc (.cells set0 49)).alloc (.cells set0 49)).setRow (w.heap.size + 1) set0) w.heap.size set0 49 := ((Blk.new w set0 49).alloc _).setRowOther (by omega) _
  have ho0 : Only [b] w (((w.alloc (.cells set0 49)).alloc (.cells set0 49)).setRow (w.heap.size + 1) set0) := Only.setRowNew (((Only.refl _ _).alloc _).alloc _) (by omega) _
  have hb0 := ((hb.alloc (.cells set0 49)).alloc (.cells set0 49)).setRowOther (g := w.heap.size + 1) (by omega) set0
  have HU00 := hide hu00
  have HU0 := hide hu0
  have HR0 := hide hr0
  have HO0 := hide ho0
  have HB0 := hide hb0
  clear hb hu0 hr0 ho0 hb0 hu00
  go_enter Tryd.func18, Tryd.ntmps18
  go_upto_region 2 with (first | (refine wpList_alloc_set rfl rfl ?_; simp only [World.size_alloc, Act.put, List.setIfInBounds_toArray, List.set_cons_succ, List.set_cons_zero]) | (refine wpList_build_set rfl rfl ?_; simp only [Act.put, List.setIfInBounds_toArray, List.set_cons_succ, List.set_cons_zero]) | (refine wpList_store_row rfl 49 _ _ rfl (w.heap.size + 1) set0 rfl rfl 49 set0 (unhide HU00) (by rw [set0_size]; kernel_rfl) rfl set0_one ?_; simp only [Act.put, List.setIfInBounds_toArray, List.set_cons_succ, List.set_cons_zero]))
  revert HU0 HR0 HO0 HB0
  generalize (((w.alloc (.cells set0 49)).alloc (.cells set0 49)).setRow (w.heap.size + 1) set0) = w0
  intro HU0 HR0 HO0 HB0
  obtain ⟨bf, hbf⟩ : ∃ bf, bf = w.heap.size + 1 := ⟨_, rfl⟩
  obtain ⟨br, hbr⟩ : ∃ br, br = w.heap.size := ⟨_, rfl⟩
  rw [← hbf] at HU0
  rw [← hbr] at HR0
  rw [← hbf, ← hbr]
  have hf1 : w.heap.size ≤ bf := by omega
  have hf2 : w.heap.size ≤ br := by omega
  have hf3 : bf ≠ b := by omega
  have hf4 : br ≠ b := by omega
  have hf5 : bf ≠ br := by omega
  clear hbf hbr hlt
  obtain ⟨hi', a, hblk⟩ : i ≤ s.size + 1 ∧ ∃ a : Nat, Blk w0 b (rdr s i false a) T := unhide HB0
  have HK := hide hblk
  have hq : ((byteAt s i : Int) == 42) = false := by rw [beq_eq_false_iff_ne]; omega
  have H42 := hide h42
  clear hblk h42
  go_wp2_with (go_at_call 12; refine (ref_peek b s i false a T _ ?_ hs hi').mono ?_; · exact unhide HK)
  rintro e w1 ⟨rfl, n, rfl⟩
  rw [show ((peekV s i false : Nat) : Int) = (byteAt s i : Nat) from rfl]
  go_wp2_with fail
  obtain ⟨R, hR⟩ : ∃ R, R = pItems s lo hi (s.size + 2 - i) i (fun _ => false) := ⟨_, rfl⟩
  have HRR0 := hide hR
  clear hR
  go_loopw [9] (fun m wr => ∃ (mb : Bool) (τ : Except Nat Nat) (h : Nat → Bool), m = .bool mb ∧ Hid (Holds wr b T s τ ∧ Blk wr bf (setA h false) 49 ∧ Blk wr br set0 49 ∧ Only [b] w wr ∧ FInv s lo hi R mb τ h)) (fun m wr => fmeas s b m wr)
  case atStart =>
    exact ⟨true, .ok i, fun _ => false, rfl, (unhide HB0).drewN n, (unhide HU0).drewN n, (unhide HR0).drewN n, (unhide HO0).drewN n, fun p hp => (by cases hp), fun j hj _ => (by cases hj; exact ⟨_, Nat.le_refl _, (unhide HRR0).symm⟩), fun j hj hm => (by cases hm)⟩
  case round =>
    obtain ⟨mb, τ, h, rfl, HX⟩ := hrel
    obtain ⟨hB, hU, hRR, hO, hI⟩ := unhide HX
    have HB1 := hide hB
    have HU1 := hide hU
    have HR1 := hide hRR
    have HO1 := hide hO
    clear HK hq HU0 HR0 HO0 HB0 HU00
    have hfinal : (mb = false ∨ ∃ p, τ = .error p) → posOf ((Except.ok i : Except Nat Nat).bind (pField s lo hi)) = τ ∧ ∀ x, (Except.ok i : Except Nat Nat).bind (pField s lo hi) = .ok x → (false, h) = x.2 := by
      intro hc
      have hp : (Except.ok i : Except Nat Nat).bind (pField s lo hi) = R.bind fun x => .ok (x.1, (false, x.2)) := by
        show pField s lo hi i = _
        unfold pField
        rw [if_neg (unhide H42), ← unhide HRR0]
      rw [hp]
      cases τ with
      | error p => rw [hI.1 p rfl]; exact ⟨rfl, fun x hx => by cases hx⟩
      | ok j =>
        have hm : mb = false := by
          rcases hc with hc | ⟨p, hp⟩
          · exact hc
          · cases hp
        rw [hI.2.2 j rfl hm]
        exact ⟨rfl, fun x hx => by cases hx; rfl⟩
    have HFIN := hide hfinal
    clear hfinal
    cases mb with
    | false =>
      have HFF := hide (unhide HFIN (.inl rfl))
      clear HFIN hB hU hRR hO hI HX
      obtain ⟨S, hS⟩ : ∃ S, S = setA h false := ⟨_, rfl⟩
      obtain ⟨S0, hS0⟩ : ∃ S0, S0 = set0 := ⟨_, rfl⟩
      have hz : S.size = 61 := by rw [hS, setA_size]
      have hz0 : S0.size = 61 := by rw [hS0, set0_size]
      have hone : S.all (·.oneCell') = true := by rw [hS]; exact setA_one _ _
      have hu9 := unhide HU1
      have hr9 := unhide HR1
      rw [← hS] at hu9
      rw [← hS0] at hr9
      have hrr : Blk ((wr).setRow br S) br S 49 := hr9.setRow _
      have hob : Only [b] w ((wr).setRow br S) := (unhide HO1).setRowNew hf2 _
      have hbb := (unhide HB1).setRowOther (fun e => hf4 e.symm) S
      have HU9 := hide hu9
      have HR9 := hide hr9
      have HZ := hide hz
      have HZ0 := hide hz0
      have HONE := hide hone
      have HS := hide hS
      have HRR := hide hrr
      have HOB := hide hob
      have HBB := hide hbb
      clear hu9 hr9 hz hz0 hone hS hS0 hrr hob hbb HU1 HR1 HO1 HB1
      go_upto_region 26 with fail
      refine wp_region_lit ?_
      refine wpList_load_row rfl 49 _ rfl bf rfl 49 S (0, 0) _ (unhide HU9) Tryd.underlying49 rfl (by rw [unhide HZ]; kernel_rfl) ?_
      simp only [Act.put, List.setIfInBounds_toArray, List.set_cons_succ, List.set_cons_zero]
      refine wpList_store_row rfl 49 _ _ rfl br S rfl rfl 49 S0 (unhide HR9) (by rw [unhide HZ]; kernel_rfl) (by rw [unhide HZ, unhide HZ0]) (unhide HONE) ?_
      simp only [Act.put, List.setIfInBounds_toArray, List.set_cons_succ, List.set_cons_zero]
      revert HRR HOB HBB
      generalize ((wr).setRow br S) = w9
      intro HRR HOB HBB
      refine wpList_nil ?_
      simp only [Exit.then]
      first | (rename_i hK; refine hK _ _ ?_) | skip
      refine wp_ret ?_
      refine bodyPost_ret (v := .agg S) (results_cell_row rfl _ _ br 49 S (0, 0) _ rfl (unhide HRR) Tryd.underlying49 rfl (by rw [unhide HZ]; kernel_rfl)) rfl ?_
      refine ⟨h, false, by rw [unhide HS], ?_, unhide HOB, ?_⟩
      · rw [(unhide HFF).1]
        exact unhide HBB
      · exact (unhide HFF).2
    | true =>
      cases τ with
      | error p =>
        obtain ⟨j, hj, hblk⟩ : ∃ j : Nat, j ≤ s.size + 1 ∧ Blk wr b (rdr s j true p) T := hB
        have c2 := hblk.cell 2
        simp [rdr] at c2
        clear hblk
        have HFF := hide (unhide HFIN (.inr ⟨p, rfl⟩))
        clear HFIN hU hRR hO hI HX
        obtain ⟨S, hS⟩ : ∃ S, S = setA h false := ⟨_, rfl⟩
        obtain ⟨S0, hS0⟩ : ∃ S0, S0 = set0 := ⟨_, rfl⟩
        have hz : S.size = 61 := by rw [hS, setA_size]
        have hz0 : S0.size = 61 := by rw [hS0, set0_size]
        have hone : S.all (·.oneCell') = true := by rw [hS]; exact setA_one _ _
        have hu9 := unhide HU1
        have hr9 := unhide HR1
        rw [← hS] at hu9
        rw [← hS0] at hr9
        have hrr : Blk ((wr).setRow br S) br S 49 := hr9.setRow _
        have hob : Only [b] w ((wr).setRow br S) := (unhide HO1).setRowNew hf2 _
        have hbb := (unhide HB1).setRowOther (fun e => hf4 e.symm) S
        have HU9 := hide hu9
        have HR9 := hide hr9
        have HZ := hide hz
        have HZ0 := hide hz0
        have HONE := hide hone
        have HS := hide hS
        have HRR := hide hrr
        have HOB := hide hob
        have HBB := hide hbb
        clear hu9 hr9 hz hz0 hone hS hS0 hrr hob hbb HU1 HR1 HO1 HB1
        go_upto_region 26 with fail
        refine wp_region_lit ?_
        refine wpList_load_row rfl 49 _ rfl bf rfl 49 S (0, 0) _ (unhide HU9) Tryd.underlying49 rfl (by rw [unhide HZ]; kernel_rfl) ?_
        simp only [Act.put, List.setIfInBounds_toArray, List.set_cons_succ, List.set_cons_zero]
        refine wpList_store_row rfl 49 _ _ rfl br S rfl rfl 49 S0 (unhide HR9) (by rw [unhide HZ]; kernel_rfl) (by rw [unhide HZ, unhide HZ0]) (unhide HONE) ?_
        simp only [Act.put, List.setIfInBounds_toArray, List.set_cons_succ, List.set_cons_zero]
        revert HRR HOB HBB
        generalize ((wr).setRow br S) = w9
        intro HRR HOB HBB
        refine wpList_nil ?_
        simp only [Exit.then]
        first | (rename_i hK; refine hK _ _ ?_) | skip
        refine wp_ret ?_
        refine bodyPost_ret (v := .agg S) (results_cell_row rfl _ _ br 49 S (0, 0) _ rfl (unhide HRR) Tryd.underlying49 rfl (by rw [unhide HZ]; kernel_rfl)) rfl ?_
        refine ⟨h, false, by rw [unhide HS], ?_, unhide HOB, ?_⟩
        · rw [(unhide HFF).1]
          exact unhide HBB
        · exact (unhide HFF).2
      | ok j =>
        obtain ⟨hj, a, hblk⟩ : j ≤ s.size + 1 ∧ ∃ a : Nat, Blk wr b (rdr s j false a) T := hB
        obtain ⟨f, hf, hR⟩ := hI.2.1 j rfl rfl
        obtain ⟨f, rfl⟩ : ∃ g, f = g + 1 := ⟨f - 1, by omega⟩
        have HPR := hide hR
        have c2 := hblk.cell 2
        simp [rdr] at c2
        have hm0 : fmeas s b (.bool true) wr = s.size + 3 - j := by simp [fmeas, boolOf, badIn_of hblk, posIn_of hblk]
        have HM0 := hide hm0
        clear hblk hR hm0 hU hRR hO hI HX HFIN HRR0 H42
        go_wp2_with (go_at_call 16; refine (ref_number' b s (.ok j) lo hi 2 lo hi 2 rfl rfl rfl T _ (unhide HB1) hs (.inl ⟨rfl, by omega⟩) (by omega)).mono ?_)
        rintro e w2 ⟨va, rfl, hb2, ho2, hv2, hl2⟩
        have hb2 : Holds w2 b T s (posOf (pNum s lo hi j)) := hb2
        have hv2 : ∀ x, pNum s lo hi j = .ok x → va = x.2 := hv2
        have HU2 := hide ((unhide HU1).only ho2 (by simpa using hf3))
        have HR2 := hide ((unhide HR1).only ho2 (by simpa using hf4))
        have HO2 := hide ((unhide HO1).trans ho2)
        have HV2 := hide hv2
        have HB2 := hide hb2
        obtain ⟨i1, bad1, a1, hi1, hblk1, hok1, herr1⟩ := hb2.place
        have HOK1 := hide hok1
        have HER1 := hide herr1
        have HK1 := hide hblk1
        have c11 := hblk1.cell 1
        have c1f := hblk1.frozen
        simp [rdr] at c11
        clear hb2 ho2 hv2 hblk1 hok1 herr1 HB1 HU1 HR1 HO1 c2
        by_cases t1 : peekV s i1 bad1 = 45
        · have hq1 : ((peekV s i1 bad1 : Int) == 45) = true := by rw [beq_iff_eq]; omega
          have hb1 : bad1 = false ∧ byteAt s i1 = 45 := by
            unfold peekV at t1
            cases bad1
            · exact ⟨rfl, by simpa using t1⟩
            · simp at t1
          obtain ⟨hb1, hby1⟩ := hb1
          have hin1 : i1 < s.size := by
            rcases Nat.lt_or_ge i1 s.size with hh | hh
            · exact hh
            · rw [byteAt_out hh] at hby1; omega
          have hp1 : pNum s lo hi j = .ok (i1, va) := by
            cases hc : pNum s lo hi j with
            | error q => have := (unhide HER1 q (by rw [hc]; rfl)).1; rw [hb1] at this; cases this
            | ok x => rw [(unhide HOK1 x.1 (by rw [hc]; rfl)).1, unhide HV2 x hc]
          have hlo1 : lo ≤ va ∧ va ≤ hi := ⟨(pNum_ok hp1).2.1, (pNum_ok hp1).2.2.1⟩
          obtain ⟨hlo1, hhi1⟩ := hlo1
          subst hb1
          have HP1 := hide hp1
          have HBY1 := hide hby1
          clear t1 hp1 hby1 HB2 HOK1 HER1 HV2
          go_wp2_with (go_at_call 12; refine (ref_peek b s i1 false a1 T _ ?_ hs hi1).mono ?_; · exact unhide HK1)
          rintro e wp1 ⟨rfl, n1, rfl⟩
          have hb3 : Holds ((w2.drewN n1).setCell ⟨b, 1, none⟩ (.int .i64 ((i1 : Int) + 1))) b T s (.ok (i1 + 1)) := by
            refine ⟨by omega, a1, ?_⟩
            simpa [rdr] using ((unhide HK1).drewN n1).set 1 (.int .i64 ((i1 : Int) + 1))
          have HB3 := hide hb3
          have HU3 := hide (((unhide HU2).drewN n1).setOther (p := ⟨b, 1, none⟩) (fun e => hf3 e.symm) (.int .i64 ((i1 : Int) + 1)))
          have HR3 := hide (((unhide HR2).drewN n1).setOther (p := ⟨b, 1, none⟩) (fun e => hf4 e.symm) (.int .i64 ((i1 : Int) + 1)))
          have HO3 := hide (((unhide HO2).drewN n1).setCell (p := ⟨b, 1, none⟩) (by simp) (.int .i64 ((i1 : Int) + 1)))
          clear hb3 HK1 HU2 HR2 HO2
          go_wp2_with (go_at_call 16; refine (ref_number' b s (.ok (i1 + 1)) va hi 2 (max (va : Int) lo) hi 2 (by omega) rfl rfl T _ (unhide HB3) hs (.inl ⟨rfl, by omega⟩) (by omega)).mono ?_)
          rintro e w4 ⟨vb, rfl, hb4, ho4, hv4, hl4⟩
          have hb4 : Holds w4 b T s (posOf (pNum s va hi (i1 + 1))) := hb4
          have hv4 : ∀ x, pNum s va hi (i1 + 1) = .ok x → vb = x.2 := hv4
          have HU4 := hide ((unhide HU3).only ho4 (by simpa using hf3))
          have HR4 := hide ((unhide HR3).only ho4 (by simpa using hf4))
          have HO4 := hide ((unhide HO3).trans ho4)
          have HV4 := hide hv4
          have HB4 := hide hb4
          obtain ⟨i2, bad2, a2, hi2, hblk2, hok2, herr2⟩ := hb4.place
          have HOK2 := hide hok2
          have HER2 := hide herr2
          have HK2 := hide hblk2
          have c21 := hblk2.cell 1
          have c2f := hblk2.frozen
          simp [rdr] at c21
          clear hb4 ho4 hv4 hblk2 hok2 herr2 HB3 HU3 HR3 HO3 c11 c1f
          by_cases t2 : peekV s i2 bad2 = 47
          · have hq2 : ((peekV s i2 bad2 : Int) == 47) = true := by rw [beq_iff_eq]; omega
            have hb2 : bad2 = false ∧ byteAt s i2 = 47 := by
              unfold peekV at t2
              cases bad2
              · exact ⟨rfl, by simpa using t2⟩
              · simp at t2
            obtain ⟨hb2, hby2⟩ := hb2
            have hin2 : i2 < s.size := by
              rcases Nat.lt_or_ge i2 s.size with hh | hh
              · exact hh
              · rw [byteAt_out hh] at hby2; omega
            have hp2 : pNum s va hi (i1 + 1) = .ok (i2, vb) := by
              cases hc : pNum s va hi (i1 + 1) with
              | error q => have := (unhide HER2 q (by rw [hc]; rfl)).1; rw [hb2] at this; cases this
              | ok x => rw [(unhide HOK2 x.1 (by rw [hc]; rfl)).1, unhide HV4 x hc]
            subst hb2
            have HP2 := hide hp2
            have HBY2 := hide hby2
            clear t2 hp2 hby2 HB4 HOK2 HER2 HV4
            go_wp2_with (go_at_call 12; refine (ref_peek b s i2 false a2 T _ ?_ hs hi2).mono ?_; · exact unhide HK2)
            rintro e wp2 ⟨rfl, n2, rfl⟩
            have hb5 : Holds ((w4.drewN n2).setCell ⟨b, 1, none⟩ (.int .i64 ((i2 : Int) + 1))) b T s (.ok (i2 + 1)) := by
              refine ⟨by omega, a2, ?_⟩
              simpa [rdr] using ((unhide HK2).drewN n2).set 1 (.int .i64 ((i2 : Int) + 1))
            have HB5 := hide hb5
            have HU5 := hide (((unhide HU4).drewN n2).setOther (p := ⟨b, 1, none⟩) (fun e => hf3 e.symm) (.int .i64 ((i2 : Int) + 1)))
            have HR5 := hide (((unhide HR4).drewN n2).setOther (p := ⟨b, 1, none⟩) (fun e => hf4 e.symm) (.int .i64 ((i2 : Int) + 1)))
            have HO5 := hide (((unhide HO4).drewN n2).setCell (p := ⟨b, 1, none⟩) (by simp) (.int .i64 ((i2 : Int) + 1)))
            clear hb5 HK2 HU4 HR4 HO4
            go_wp2_with (go_at_call 16; refine (ref_number' b s (.ok (i2 + 1)) 1 99 2 1 99 2 rfl rfl rfl T _ (unhide HB5) hs (by decide) (by decide)).mono ?_)
            rintro e w6 ⟨vn, rfl, hb6, ho6, hv6, hl6⟩
            have hb6 : Holds w6 b T s (posOf (pNum s 1 99 (i2 + 1))) := hb6
            have hv6 : ∀ x, pNum s 1 99 (i2 + 1) = .ok x → vn = x.2 := hv6
            have HU6 := hide ((unhide HU5).only ho6 (by simpa using hf3))
            have HR6 := hide ((unhide HR5).only ho6 (by simpa using hf4))
            have HO6 := hide ((unhide HO5).trans ho6)
            obtain ⟨τ3, hτ3⟩ : ∃ τ3, τ3 = posOf (pNum s 1 99 (i2 + 1)) := ⟨_, rfl⟩
            have hit : posOf (pNum s 1 99 (i2 + 1)) = posOf (pItem s lo hi j) ∧ ∀ x, pItem s lo hi j = .ok x → (va, vb, vn) = x.2 := by
              unfold pItem
              rw [unhide HP1]
              simp only [Except.bind]
              rw [if_pos (unhide HBY1), unhide HP2]
              simp only []
              rw [show pStep s i2 = pNum s 1 99 (i2 + 1) by unfold pStep; rw [if_pos (unhide HBY2)]]
              cases hc : pNum s 1 99 (i2 + 1) with
              | error q => exact ⟨rfl, fun x hx => by cases hx⟩
              | ok y => exact ⟨rfl, fun x hx => by cases hx; rw [hv6 y hc]⟩
            have hI3 := items_round (unhide HPR) (hτ3.trans hit.1) hit.2
            have HI := hide hI3
            rw [← hτ3] at hb6
            have HB6 := hide hb6
            clear hit hI3 hτ3 hb6 hv6 ho6 HPR HP1 HP2 HBY1 HBY2 HB5 HU5 HR5 HO5 c21 c2f
            go_wp2_with (go_at_call 26; refine (ref_fill bf h false va vb vn va vb vn rfl rfl rfl _ (unhide HU6) (by omega) (by omega) (by omega)).mono ?_)
            rintro e wf ⟨rfl, huf, hof⟩
            have HUf := hide huf
            have HRf := hide ((unhide HR6).only hof (by simpa using hf5.symm))
            have HBf := hide ((unhide HB6).only hof (by simpa using hf3.symm))
            have HOf := hide ((unhide HO6).step hof (by simpa using .inr hf1))
            clear huf hof HU6 HR6 HB6 HO6
            obtain ⟨i9, bad9, a9, hi9, hblk9, hok9, herr9⟩ := (unhide HBf).place
            have c91 := hblk9.cell 1
            have c9f := hblk9.frozen
            simp [rdr] at c91
            have HK9 := hide hblk9
            have HOK9 := hide hok9
            have HER9 := hide herr9
            clear hblk9 hok9 herr9
            by_cases t9 : peekV s i9 bad9 = 44
            · have hq9 : ((peekV s i9 bad9 : Int) == 44) = true := by rw [beq_iff_eq]; omega
              have hb9 : bad9 = false ∧ byteAt s i9 = 44 := by
                unfold peekV at t9
                cases bad9
                · exact ⟨rfl, by simpa using t9⟩
                · simp at t9
              have hin9 : i9 < s.size := by
                rcases Nat.lt_or_ge i9 s.size with hh | hh
                · exact hh
                · rw [byteAt_out hh] at hb9; omega
              have HB9 := hide hb9
              clear t9 hb9
              go_wp2_with (go_at_call 12; refine (ref_peek b s i9 bad9 a9 T _ ?_ hs hi9).mono ?_; · exact unhide HK9)
              rintro e wp ⟨rfl, np, rfl⟩
              go_wp2
              have hbl : Blk ((wf.drewN np).setCell ⟨b, 1, none⟩ (.int .i64 ((i9 : Int) + 1))) b (rdr s (i9 + 1) bad9 a9) T := by
                simpa [rdr] using ((unhide HK9).drewN np).set 1 (.int .i64 ((i9 : Int) + 1))
              have hτ : τ3 = .ok i9 := by
                cases hc : τ3 with
                | error q => have := (unhide HER9 q hc).1; rw [(unhide HB9).1] at this; cases this
                | ok k => rw [(unhide HOK9 k hc).1]
              have hI9 := (unhide HI).2 i9 hτ
              go_roundw
              case rel =>
                refine ⟨true, .ok (i9 + 1), fillB h va vb vn, rfl, ?_, ?_, ?_, ?_, ?_⟩
                · refine ⟨by omega, a9, ?_⟩
                  rw [(unhide HB9).1] at hbl
                  exact hbl
                · exact ((unhide HUf).drewN np).setOther (fun e => hf3 e.symm) _
                · exact ((unhide HRf).drewN np).setOther (fun e => hf4 e.symm) _
                · exact ((unhide HOf).drewN np).setCell (by simp) _
                · refine ⟨fun p hp => (by cases hp), fun k hk _ => ?_, fun k hk hm => (by cases hm)⟩
                  cases hk
                  exact ⟨f, by omega, hI9.2.1 (unhide HB9).2⟩
              case measure =>
                rw [unhide HM0]
                simp only [fmeas, boolOf, badIn_of hbl, posIn_of hbl, (unhide HB9).1]
                simp
                omega
            · have hq9 : ((peekV s i9 bad9 : Int) == 44) = false := by rw [beq_eq_false_iff_ne]; omega
              have T9 := hide t9
              clear t9
              go_wp2_with (go_at_call 12; refine (ref_peek b s i9 bad9 a9 T _ ?_ hs hi9).mono ?_; · exact unhide HK9)
              rintro e wp ⟨rfl, np, rfl⟩
              go_wp2
              go_roundw
              case rel =>
                refine ⟨false, τ3, fillB h va vb vn, rfl, (unhide HBf).drewN np, (unhide HUf).drewN np, (unhide HRf).drewN np, (unhide HOf).drewN np, (unhide HI).1, fun k hk hm => (by cases hm), fun k hk _ => ?_⟩
                obtain ⟨e1, e2⟩ := unhide HOK9 k hk
                subst e1
                refine ((unhide HI).2 i9 hk).2.2 ?_
                have t9 := unhide T9
                rw [e2] at t9
                exact t9
              case measure =>
                rw [unhide HM0]
                simp only [fmeas, boolOf]
                simp
                omega
          · have hq2 : ((peekV s i2 bad2 : Int) == 47) = false := by rw [beq_eq_false_iff_ne]; omega
            obtain ⟨τ3, hτ3⟩ : ∃ τ3, τ3 = posOf (pNum s va hi (i1 + 1)) := ⟨_, rfl⟩
            have hit : posOf (pNum s va hi (i1 + 1)) = posOf (pItem s lo hi j) ∧ ∀ x, pItem s lo hi j = .ok x → (va, vb, 1) = x.2 := by
              unfold pItem
              rw [unhide HP1]
              simp only [Except.bind]
              rw [if_pos (unhide HBY1)]
              cases hc : pNum s va hi (i1 + 1) with
              | error q => exact ⟨rfl, fun x hx => by cases hx⟩
              | ok y =>
                obtain ⟨e1, e2⟩ := unhide HOK2 y.1 (by rw [hc]; rfl)
                have hne : byteAt s y.1 ≠ 47 := by
                  rw [← e1]
                  rw [e2] at t2
                  exact t2
                simp only []
                rw [show pStep s y.1 = .ok (y.1, 1) by unfold pStep; rw [if_neg hne]]
                exact ⟨rfl, fun x hx => by cases hx; rw [unhide HV4 y hc]⟩
            have hI3 := items_round (unhide HPR) (hτ3.trans hit.1) hit.2
            have HI := hide hI3
            have hb5 := unhide HB4
            rw [← hτ3] at hb5
            clear t2 hit hI3 hτ3 HB4 HOK2 HER2 HV4 HPR HP1 HBY1
            go_wp2_with (go_at_call 12; refine (ref_peek b s i2 bad2 a2 T _ ?_ hs hi2).mono ?_; · exact unhide HK2)
            rintro e wp2 ⟨rfl, n2, rfl⟩
            have HB5 := hide (hb5.drewN n2)
            have HU5 := hide ((unhide HU4).drewN n2)
            have HR5 := hide ((unhide HR4).drewN n2)
            have HO5 := hide ((unhide HO4).drewN n2)
            clear hb5 HK2 HU4 HR4 HO4 c21 c2f
            go_wp2_with (go_at_call 26; refine (ref_fill bf h false va vb 1 va vb 1 rfl rfl rfl _ (unhide HU5) (by omega) (by omega) (by omega)).mono ?_)
            rintro e wf ⟨rfl, huf, hof⟩
            have HUf := hide huf
            have HRf := hide ((unhide HR5).only hof (by simpa using hf5.symm))
            have HBf := hide ((unhide HB5).only hof (by simpa using hf3.symm))
            have HOf := hide ((unhide HO5).step hof (by simpa using .inr hf1))
            clear huf hof HU5 HR5 HB5 HO5
            obtain ⟨i9, bad9, a9, hi9, hblk9, hok9, herr9⟩ := (unhide HBf).place
            have c91 := hblk9.cell 1
            have c9f := hblk9.frozen
            simp [rdr] at c91
            have HK9 := hide hblk9
            have HOK9 := hide hok9
            have HER9 := hide herr9
            clear hblk9 hok9 herr9
            by_cases t9 : peekV s i9 bad9 = 44
            · have hq9 : ((peekV s i9 bad9 : Int) == 44) = true := by rw [beq_iff_eq]; omega
              have hb9 : bad9 = false ∧ byteAt s i9 = 44 := by
                unfold peekV at t9
                cases bad9
                · exact ⟨rfl, by simpa using t9⟩
                · simp at t9
              have hin9 : i9 < s.size := by
                rcases Nat.lt_or_ge i9 s.size with hh | hh
                · exact hh
                · rw [byteAt_out hh] at hb9; omega
              have HB9 := hide hb9
              clear t9 hb9
              go_wp2_with (go_at_call 12; refine (ref_peek b s i9 bad9 a9 T _ ?_ hs hi9).mono ?_; · exact unhide HK9)
              rintro e wp ⟨rfl, np, rfl⟩
              go_wp2
              have hbl : Blk ((wf.drewN np).setCell ⟨b, 1, none⟩ (.int .i64 ((i9 : Int) + 1))) b (rdr s (i9 + 1) bad9 a9) T := by
                simpa [rdr] using ((unhide HK9).drewN np).set 1 (.int .i64 ((i9 : Int) + 1))
              have hτ : τ3 = .ok i9 := by
                cases hc : τ3 with
                | error q => have := (unhide HER9 q hc).1; rw [(unhide HB9).1] at this; cases this
                | ok k => rw [(unhide HOK9 k hc).1]
              have hI9 := (unhide HI).2 i9 hτ
              go_roundw
              case rel =>
                refine ⟨true, .ok (i9 + 1), fillB h va vb 1, rfl, ?_, ?_, ?_, ?_, ?_⟩
                · refine ⟨by omega, a9, ?_⟩
                  rw [(unhide HB9).1] at hbl
                  exact hbl
                · exact ((unhide HUf).drewN np).setOther (fun e => hf3 e.symm) _
                · exact ((unhide HRf).drewN np).setOther (fun e => hf4 e.symm) _
                · exact ((unhide HOf).drewN np).setCell (by simp) _
                · refine ⟨fun p hp => (by cases hp), fun k hk _ => ?_, fun k hk hm => (by cases hm)⟩
                  cases hk
                  exact ⟨f, by omega, hI9.2.1 (unhide HB9).2⟩
              case measure =>
                rw [unhide HM0]
                simp only [fmeas, boolOf, badIn_of hbl, posIn_of hbl, (unhide HB9).1]
                simp
                omega
            · have hq9 : ((peekV s i9 bad9 : Int) == 44) = false := by rw [beq_eq_false_iff_ne]; omega
              have T9 := hide t9
              clear t9
              go_wp2_with (go_at_call 12; refine (ref_peek b s i9 bad9 a9 T _ ?_ hs hi9).mono ?_; · exact unhide HK9)
              rintro e wp ⟨rfl, np, rfl⟩
              go_wp2
              go_roundw
              case rel =>
                refine ⟨false, τ3, fillB h va vb 1, rfl, (unhide HBf).drewN np, (unhide HUf).drewN np, (unhide HRf).drewN np, (unhide HOf).drewN np, (unhide HI).1, fun k hk hm => (by cases hm), fun k hk _ => ?_⟩
                obtain ⟨e1, e2⟩ := unhide HOK9 k hk
                subst e1
                refine ((unhide HI).2 i9 hk).2.2 ?_
                have t9 := unhide T9
                rw [e2] at t9
                exact t9
              case measure =>
                rw [unhide HM0]
                simp only [fmeas, boolOf]
                simp
                omega
        · have hq1 : ((peekV s i1 bad1 : Int) == 45) = false := by rw [beq_eq_false_iff_ne]; omega
          obtain ⟨τ3, hτ3⟩ : ∃ τ3, τ3 = posOf (pNum s lo hi j) := ⟨_, rfl⟩
          have hit : posOf (pNum s lo hi j) = posOf (pItem s lo hi j) ∧ ∀ x, pItem s lo hi j = .ok x → (va, va, 1) = x.2 := by
            unfold pItem
            cases hc : pNum s lo hi j with
            | error q => exact ⟨rfl, fun x hx => by cases hx⟩
            | ok y =>
              obtain ⟨e1, e2⟩ := unhide HOK1 y.1 (by rw [hc]; rfl)
              have hne : byteAt s y.1 ≠ 45 := by
                rw [← e1]
                rw [e2] at t1
                exact t1
              simp only [Except.bind]
              rw [if_neg hne]
              exact ⟨rfl, fun x hx => by cases hx; rw [unhide HV2 y hc]⟩
          have hI3 := items_round (unhide HPR) (hτ3.trans hit.1) hit.2
          have HI := hide hI3
          have hb3 := unhide HB2
          rw [← hτ3] at hb3
          clear t1 hit hI3 hτ3 HB2 HOK1 HER1 HV2 HPR
          go_wp2_with (go_at_call 12; refine (ref_peek b s i1 bad1 a1 T _ ?_ hs hi1).mono ?_; · exact unhide HK1)
          rintro e wp1 ⟨rfl, n1, rfl⟩
          have HB3 := hide (hb3.drewN n1)
          have HU3 := hide ((unhide HU2).drewN n1)
          have HR3 := hide ((unhide HR2).drewN n1)
          have HO3 := hide ((unhide HO2).drewN n1)
          clear hb3 HK1 HU2 HR2 HO2 c11 c1f
          go_wp2_with (go_at_call 26; refine (ref_fill bf h false va va 1 va va 1 rfl rfl rfl _ (unhide HU3) (by omega) (by omega) (by omega)).mono ?_)
          rintro e wf ⟨rfl, huf, hof⟩
          have HUf := hide huf
          have HRf := hide ((unhide HR3).only hof (by simpa using hf5.symm))
          have HBf := hide ((unhide HB3).only hof (by simpa using hf3.symm))
          have HOf := hide ((unhide HO3).step hof (by simpa using .inr hf1))
          clear huf hof HU3 HR3 HB3 HO3
          obtain ⟨i9, bad9, a9, hi9, hblk9, hok9, herr9⟩ := (unhide HBf).place
          have c91 := hblk9.cell 1
          have c9f := hblk9.frozen
          simp [rdr] at c91
          have HK9 := hide hblk9
          have HOK9 := hide hok9
          have HER9 := hide herr9
          clear hblk9 hok9 herr9
          by_cases t9 : peekV s i9 bad9 = 44
          · have hq9 : ((peekV s i9 bad9 : Int) == 44) = true := by rw [beq_iff_eq]; omega
            have hb9 : bad9 = false ∧ byteAt s i9 = 44 := by
              unfold peekV at t9
              cases bad9
              · exact ⟨rfl, by simpa using t9⟩
              · simp at t9
            have hin9 : i9 < s.size := by
              rcases Nat.lt_or_ge i9 s.size with hh | hh
              · exact hh
              · rw [byteAt_out hh] at hb9; omega
            have HB9 := hide hb9
            clear t9 hb9
            go_wp2_with (go_at_call 12; refine (ref_peek b s i9 bad9 a9 T _ ?_ hs hi9).mono ?_; · exact unhide HK9)
            rintro e wp ⟨rfl, np, rfl⟩
            go_wp2
            have hbl : Blk ((wf.drewN np).setCell ⟨b, 1, none⟩ (.int .i64 ((i9 : Int) + 1))) b (rdr s (i9 + 1) bad9 a9) T := by
              simpa [rdr] using ((unhide HK9).drewN np).set 1 (.int .i64 ((i9 : Int) + 1))
            have hτ : τ3 = .ok i9 := by
              cases hc : τ3 with
              | error q => have := (unhide HER9 q hc).1; rw [(unhide HB9).1] at this; cases this
              | ok k => rw [(unhide HOK9 k hc).1]
            have hI9 := (unhide HI).2 i9 hτ
            go_roundw
            case rel =>
              refine ⟨true, .ok (i9 + 1), fillB h va va 1, rfl, ?_, ?_, ?_, ?_, ?_⟩
              · refine ⟨by omega, a9, ?_⟩
                rw [(unhide HB9).1] at hbl
                exact hbl
              · exact ((unhide HUf).drewN np).setOther (fun e => hf3 e.symm) _
              · exact ((unhide HRf).drewN np).setOther (fun e => hf4 e.symm) _
              · exact ((unhide HOf).drewN np).setCell (by simp) _
              · refine ⟨fun p hp => (by cases hp), fun k hk _ => ?_, fun k hk hm => (by cases hm)⟩
                cases hk
                exact ⟨f, by omega, hI9.2.1 (unhide HB9).2⟩
            case measure =>
              rw [unhide HM0]
              simp only [fmeas, boolOf, badIn_of hbl, posIn_of hbl, (unhide HB9).1]
              simp
              omega
          · have hq9 : ((peekV s i9 bad9 : Int) == 44) = false := by rw [beq_eq_false_iff_ne]; omega
            have T9 := hide t9
            clear t9
            go_wp2_with (go_at_call 12; refine (ref_peek b s i9 bad9 a9 T _ ?_ hs hi9).mono ?_; · exact unhide HK9)
            rintro e wp ⟨rfl, np, rfl⟩
            go_wp2
            go_roundw
            case rel =>
              refine ⟨false, τ3, fillB h va va 1, rfl, (unhide HBf).drewN np, (unhide HUf).drewN np, (unhide HRf).drewN np, (unhide HOf).drewN np, (unhide HI).1, fun k hk hm => (by cases hm), fun k hk _ => ?_⟩
              obtain ⟨e1, e2⟩ := unhide HOK9 k hk
              subst e1
              refine ((unhide HI).2 i9 hk).2.2 ?_
              have t9 := unhide T9
              rw [e2] at t9
              exact t9
            case measure =>
              rw [unhide HM0]
              simp only [fmeas, boolOf]
              simp
              omega

theorem ref_field (b : Nat) (s : ByteArray) (σ : Except Nat Nat) (lo hi : Nat) (lo' hi' : Int) (e1 : lo' = lo) (e2 : hi' = hi) (T : TypeId) (w : World) (hb : Holds w b T s σ) (hs : s.size ≤ 281474976710656) (hlh : lo ≤ hi) (hhi : hi ≤ 59) :
    Calls Tryd.prog 18 #[.pointer (some ⟨b, 0, none⟩), .int .i64 lo', .int .i64 hi'] w (FieldSaid b T s σ lo hi w) := by
  cases σ with
  | error p => exact ref_field_bad b s p lo hi lo' hi' e1 e2 T w hb hs hlh hhi
  | ok i =>
    by_cases h : byteAt s i = 42
    · exact ref_field_star b s i lo hi lo' hi' e1 e2 T w hb h hs hlh hhi
    · exact ref_field_items b s i lo hi lo' hi' e1 e2 T w hb h hs hlh hhi
end Go.Proofs.YtnnhnihgeheahaaDoor
