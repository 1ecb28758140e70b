/- The reference reader's field: a star. -/
import Derived.Test.YtnnhnihgeheahaaDoorRefJ
import Derived.Deep.Cut
import Derived.Laws.Rows
import Derived.Laws.Tables
import Derived.Great.Walk
set_option linter.unusedSimpArgs false
set_option linter.unusedVariables false
namespace Go.Proofs.YtnnhnihgeheahaaDoor
open Go.RowKit

set_option maxHeartbeats 2000000 in
theorem ref_field_star (b : Nat) (s : ByteArray) (i : Nat) (lo hi : Nat) (lo' hi' : Int) (e1 : lo' = lo) (e2 : hi' = hi) (T : TypeId) (w : World) (hb : Holds w b T s (.ok i)) (h42 : byteAt s i = 42) (hs : s.size ≤ 281474976710656) (hlh : lo ≤ hi) (hhi : hi ≤ 59) :
    Calls Tryd.prog 18 #[.pointer (some ⟨b, 0, none⟩), .int .i64 lo', .int .i64 hi'] w (FieldSaid b T s (.ok i) lo hi w) := by
  subst e1 e2
  have hlt := hb.lt
  have hu00 : Blk ((w.alloc (.cells set0 49)).alloc (.cells set0 49)) (w.heap.size + 1) set0 49 := by have := Blk.new (w.alloc (.cells set0 49)) set0 49; rw [World.size_alloc] at this; exact this
  have hu0 : Blk (((w.alloc (.cells set0 49)).alloc (.cells set0 49)).setRow (w.heap.size + 1) set0) (w.heap.size + 1) (setA (fun _ => false) false) 49 := hu00.setRow _
  have hr0 : Blk (((w.alloc (.cells set0 49)).alloc (.cells set0 49)).setRow (w.heap.size + 1) set0) w.heap.size set0 49 := ((Blk.new w set0 49).alloc _).setRowOther (by omega) _
  have ho0 : Only [b] w (((w.alloc (.cells set0 49)).alloc (.cells set0 49)).setRow (w.heap.size + 1) set0) := Only.setRowNew (((Only.refl _ _).alloc _).alloc _) (by omega) _
  have hb0 := ((hb.alloc (.cells set0 49)).alloc (.cells set0 49)).setRowOther (g := w.heap.size + 1) (by omega) set0
  have HU00 := hide hu00
  have HU0 := hide hu0
  have HR0 := hide hr0
  have HO0 := hide ho0
  have HB0 := hide hb0
  clear hb hu0 hr0 ho0 hb0 hu00
  go_enter Tryd.func18, Tryd.ntmps18
  go_upto_region 2 with (first | (refine wpList_alloc_set rfl rfl ?_; simp only [World.size_alloc, Act.put, List.setIfInBounds_toArray, List.set_cons_succ, List.set_cons_zero]) | (refine wpList_build_set rfl rfl ?_; simp only [Act.put, List.setIfInBounds_toArray, List.set_cons_succ, List.set_cons_zero]) | (refine wpList_store_row rfl 49 _ _ rfl (w.heap.size + 1) set0 rfl rfl 49 set0 (unhide HU00) (by rw [set0_size]; kernel_rfl) rfl set0_one ?_; simp only [Act.put, List.setIfInBounds_toArray, List.set_cons_succ, List.set_cons_zero]))
  revert HU0 HR0 HO0 HB0
  generalize (((w.alloc (.cells set0 49)).alloc (.cells set0 49)).setRow (w.heap.size + 1) set0) = w0
  intro HU0 HR0 HO0 HB0
  obtain ⟨bf, hbf⟩ : ∃ bf, bf = w.heap.size + 1 := ⟨_, rfl⟩
  obtain ⟨br, hbr⟩ : ∃ br, br = w.heap.size := ⟨_, rfl⟩
  rw [← hbf] at HU0
  rw [← hbr] at HR0
  rw [← hbf, ← hbr]
  have hf1 : w.heap.size ≤ bf := by omega
  have hf2 : w.heap.size ≤ br := by omega
  have hf3 : bf ≠ b := by omega
  have hf4 : br ≠ b := by omega
  have hf5 : bf ≠ br := by omega
  clear hbf hbr hlt
  obtain ⟨hi', a, hblk⟩ : i ≤ s.size + 1 ∧ ∃ a : Nat, Blk w0 b (rdr s i false a) T := unhide HB0
  have hin : i < s.size := by
    rcases Nat.lt_or_ge i s.size with h | h
    · exact h
    · rw [byteAt_out h] at h42; omega
  have HK := hide hblk
  have c1 := hblk.cell 1
  have cf := hblk.frozen
  simp [rdr] at c1
  have u60 := (unhide HU0).cell 60
  rw [setA_star] at u60
  have uf := (unhide HU0).frozen
  have H42 := hide h42
  clear hblk h42
  go_wp2_with (go_at_call 12; refine (ref_peek b s i false a T _ ?_ hs hi').mono ?_; · exact unhide HK)
  rintro e w1 ⟨rfl, n, rfl⟩
  rw [show ((peekV s i false : Nat) : Int) = (byteAt s i : Nat) from rfl, unhide H42]
  -- behind the star
  have hk2 : Blk (((w0.drewN n).setCell ⟨b, 1, none⟩ (.int .i64 ((i : Int) + 1))).setCell ⟨bf, 60, none⟩ (.bool true)) b (rdr s (i + 1) false a) T := by
    refine Blk.setOther ?_ hf3 _
    simpa [rdr] using ((unhide HK).drewN n).set 1 (.int .i64 ((i : Int) + 1))
  have hu2 : Blk (((w0.drewN n).setCell ⟨b, 1, none⟩ (.int .i64 ((i : Int) + 1))).setCell ⟨bf, 60, none⟩ (.bool true)) bf (setA (fun _ => false) true) 49 := by
    rw [← setA_setStar _ false true]
    exact (((unhide HU0).drewN n).setOther (fun e => hf3 e.symm) _).set 60 _
  have hr2 : Blk (((w0.drewN n).setCell ⟨b, 1, none⟩ (.int .i64 ((i : Int) + 1))).setCell ⟨bf, 60, none⟩ (.bool true)) br set0 49 :=
    (((unhide HR0).drewN n).setOther (fun e => hf4 e.symm) _).setOther hf5 _
  have ho2 : Only [b] w (((w0.drewN n).setCell ⟨b, 1, none⟩ (.int .i64 ((i : Int) + 1))).setCell ⟨bf, 60, none⟩ (.bool true)) :=
    Only.setNew (((unhide HO0).drewN n).setCell (by simp) _) hf1 _
  have HK2 := hide hk2
  have HU2 := hide hu2
  have HR2 := hide hr2
  have HO2 := hide ho2
  clear hk2 hu2 hr2 ho2 HK HU0 HR0 HO0 HB0
  go_upto_region 6 with fail
  revert HK2 HU2 HR2 HO2
  generalize (((w0.drewN n).setCell ⟨b, 1, none⟩ (.int .i64 ((i : Int) + 1))).setCell ⟨bf, 60, none⟩ (.bool true)) = w2
  intro HK2 HU2 HR2 HO2
  clear c1 cf u60 uf
  obtain ⟨j, hj⟩ : ∃ j, j = i + 1 := ⟨_, rfl⟩
  rw [← hj] at HK2
  have hj' : j ≤ s.size + 1 := by omega
  have hpf : ∀ m, pStep s j = m → (Except.ok i : Except Nat Nat).bind (pField s lo hi) = m.bind fun z => .ok (z.1, (true, fillB (fun _ => false) lo hi z.2)) := by
    intro m hm
    show pField s lo hi i = _
    unfold pField
    rw [if_pos (unhide H42), ← hj, hm]
  have HPF := hide hpf
  clear hpf hj H42
  by_cases t2 : byteAt s j = 47
  · have T2 := hide t2
    have hjn : j < s.size := by
      rcases Nat.lt_or_ge j s.size with h | h
      · exact h
      · rw [byteAt_out h] at t2; omega
    clear t2
    have c1 := (unhide HK2).cell 1
    have cf := (unhide HK2).frozen
    simp [rdr] at c1
    go_wp2_with (go_at_call 12; refine (ref_peek b s j false a T _ ?_ hs hj').mono ?_; · exact unhide HK2)
    rintro e w3 ⟨rfl, n3, rfl⟩
    rw [show ((peekV s j false : Nat) : Int) = (byteAt s j : Nat) from rfl, unhide T2]
    have hb3 : Holds ((w2.drewN n3).setCell ⟨b, 1, none⟩ (.int .i64 ((j : Int) + 1))) b T s (.ok (j + 1)) := by
      refine ⟨by omega, a, ?_⟩
      simpa [rdr] using ((unhide HK2).drewN n3).set 1 (.int .i64 ((j : Int) + 1))
    have HB3 := hide hb3
    have HU3 := hide (((unhide HU2).drewN n3).setOther (p := ⟨b, 1, none⟩) (fun e => hf3 e.symm) (.int .i64 ((j : Int) + 1)))
    have HR3 := hide (((unhide HR2).drewN n3).setOther (p := ⟨b, 1, none⟩) (fun e => hf4 e.symm) (.int .i64 ((j : Int) + 1)))
    have HO3 := hide (((unhide HO2).drewN n3).setCell (p := ⟨b, 1, none⟩) (by simp) (.int .i64 ((j : Int) + 1)))
    clear hb3 HK2 HU2 HR2 HO2
    go_wp2_with (go_at_call 16; refine (ref_number' b s (.ok (j + 1)) 1 99 2 1 99 2 rfl rfl rfl T _ ?_ hs (by decide) (by decide)).mono ?_; · exact unhide HB3)
    rintro e w4 ⟨v, rfl, hb4, ho4, hv4, hl4⟩
    have HB4 := hide hb4
    have HU4 := hide ((unhide HU3).only ho4 (by simpa using hf3))
    have HR4 := hide ((unhide HR3).only ho4 (by simpa using hf4))
    have HO4 := hide ((unhide HO3).trans ho4)
    have HV4 := hide hv4
    clear hb4 ho4 hv4 HB3 HU3 HR3 HO3 c1 cf
    go_wp2_with (go_at_call 26; refine (ref_fill bf (fun _ => false) true lo hi v lo hi v rfl rfl rfl _ (unhide HU4) (by omega) (by omega) (by omega)).mono ?_)
    rintro e w5 ⟨rfl, hu5, ho5⟩
    have HU5 := hide hu5
    have HR5 := hide ((unhide HR4).only ho5 (by simpa using hf5.symm))
    have HB5 := hide ((unhide HB4).only ho5 (by simpa using hf3.symm))
    have HO5 := hide ((unhide HO4).step ho5 (by simpa using .inr hf1))
    clear hu5 ho5 HU4 HR4 HB4 HO4
    obtain ⟨S, hS⟩ : ∃ S, S = setA (fillB (fun _ => false) lo hi v) true := ⟨_, rfl⟩
    obtain ⟨S0, hS0⟩ : ∃ S0, S0 = set0 := ⟨_, rfl⟩
    have hz : S.size = 61 := by rw [hS, setA_size]
    have hz0 : S0.size = 61 := by rw [hS0, set0_size]
    have hone : S.all (·.oneCell') = true := by rw [hS]; exact setA_one _ _
    have hu9 := unhide HU5
    have hr9 := unhide HR5
    rw [← hS] at hu9
    rw [← hS0] at hr9
    have hrr : Blk ((w5).setRow br S) br S 49 := hr9.setRow _
    have hob : Only [b] w ((w5).setRow br S) := (unhide HO5).setRowNew hf2 _
    have hbb := (unhide HB5).setRowOther (fun e => hf4 e.symm) S
    have HU9 := hide hu9
    have HR9 := hide hr9
    have HZ := hide hz
    have HZ0 := hide hz0
    have HONE := hide hone
    have HS := hide hS
    have HRR := hide hrr
    have HOB := hide hob
    have HBB := hide hbb
    clear hu9 hr9 hz hz0 hone hS hS0 hrr hob hbb HU5 HR5 HO5 HB5
    go_upto_region 10 with fail
    refine wp_region_lit ?_
    refine wpList_load_row rfl 49 _ rfl bf rfl 49 S (0, 0) _ (unhide HU9) Tryd.underlying49 rfl (by rw [unhide HZ]; kernel_rfl) ?_
    simp only [Act.put, List.setIfInBounds_toArray, List.set_cons_succ, List.set_cons_zero]
    refine wpList_store_row rfl 49 _ _ rfl br S rfl rfl 49 S0 (unhide HR9) (by rw [unhide HZ]; kernel_rfl) (by rw [unhide HZ, unhide HZ0]) (unhide HONE) ?_
    simp only [Act.put, List.setIfInBounds_toArray, List.set_cons_succ, List.set_cons_zero]
    revert HRR HOB HBB
    generalize ((w5).setRow br S) = w9
    intro HRR HOB HBB
    refine wpList_nil ?_
    simp only [Exit.then]
    first | (rename_i hK; refine hK _ _ ?_) | skip
    refine wp_ret ?_
    refine bodyPost_ret (v := .agg S) (results_cell_row rfl _ _ br 49 S (0, 0) _ rfl (unhide HRR) Tryd.underlying49 rfl (by rw [unhide HZ]; kernel_rfl)) rfl ?_
    refine ⟨(fillB (fun _ => false) lo hi v), true, by rw [unhide HS], ?_, unhide HOB, ?_⟩
    · have := unhide HPF _ (show pStep s j = pNum s 1 99 (j + 1) by unfold pStep; rw [if_pos (unhide T2)])
      rw [this]
      have hbb := unhide HBB
      rw [show (Except.ok (j + 1) : Except Nat Nat).bind (pNum s 1 99) = pNum s 1 99 (j + 1) from rfl] at hbb
      cases hc : pNum s 1 99 (j + 1) with
      | error q => rw [hc] at hbb; exact hbb
      | ok y => rw [hc] at hbb; exact hbb
    · intro x hx
      rw [unhide HPF _ (show pStep s j = pNum s 1 99 (j + 1) by unfold pStep; rw [if_pos (unhide T2)])] at hx
      cases hc : pNum s 1 99 (j + 1) with
      | error q => rw [hc] at hx; cases hx
      | ok y => rw [hc] at hx; cases hx; rw [unhide HV4 y hc]
  · have T2 := hide t2
    have hq : ((byteAt s j : Int) == 47) = false := by rw [beq_eq_false_iff_ne]; omega
    clear t2
    go_wp2_with (go_at_call 12; refine (ref_peek b s j false a T _ ?_ hs hj').mono ?_; · exact unhide HK2)
    rintro e w3 ⟨rfl, n3, rfl⟩
    rw [show ((peekV s j false : Nat) : Int) = (byteAt s j : Nat) from rfl]
    have hb4 : Holds (w2.drewN n3) b T s (.ok j) := ⟨hj', a, (unhide HK2).drewN n3⟩
    have HB4 := hide hb4
    have HU4 := hide ((unhide HU2).drewN n3)
    have HR4 := hide ((unhide HR2).drewN n3)
    have HO4 := hide ((unhide HO2).drewN n3)
    clear hb4 HK2 HU2 HR2 HO2
    go_wp2_with (go_at_call 26; refine (ref_fill bf (fun _ => false) true lo hi 1 lo hi 1 rfl rfl rfl _ (unhide HU4) (by omega) (by omega) (by omega)).mono ?_)
    rintro e w5 ⟨rfl, hu5, ho5⟩
    have HU5 := hide hu5
    have HR5 := hide ((unhide HR4).only ho5 (by simpa using hf5.symm))
    have HB5 := hide ((unhide HB4).only ho5 (by simpa using hf3.symm))
    have HO5 := hide ((unhide HO4).step ho5 (by simpa using .inr hf1))
    clear hu5 ho5 HU4 HR4 HB4 HO4
    obtain ⟨S, hS⟩ : ∃ S, S = setA (fillB (fun _ => false) lo hi 1) true := ⟨_, rfl⟩
    obtain ⟨S0, hS0⟩ : ∃ S0, S0 = set0 := ⟨_, rfl⟩
    have hz : S.size = 61 := by rw [hS, setA_size]
    have hz0 : S0.size = 61 := by rw [hS0, set0_size]
    have hone : S.all (·.oneCell') = true := by rw [hS]; exact setA_one _ _
    have hu9 := unhide HU5
    have hr9 := unhide HR5
    rw [← hS] at hu9
    rw [← hS0] at hr9
    have hrr : Blk ((w5).setRow br S) br S 49 := hr9.setRow _
    have hob : Only [b] w ((w5).setRow br S) := (unhide HO5).setRowNew hf2 _
    have hbb := (unhide HB5).setRowOther (fun e => hf4 e.symm) S
    have HU9 := hide hu9
    have HR9 := hide hr9
    have HZ := hide hz
    have HZ0 := hide hz0
    have HONE := hide hone
    have HS := hide hS
    have HRR := hide hrr
    have HOB := hide hob
    have HBB := hide hbb
    clear hu9 hr9 hz hz0 hone hS hS0 hrr hob hbb HU5 HR5 HO5 HB5
    go_upto_region 10 with fail
    refine wp_region_lit ?_
    refine wpList_load_row rfl 49 _ rfl bf rfl 49 S (0, 0) _ (unhide HU9) Tryd.underlying49 rfl (by rw [unhide HZ]; kernel_rfl) ?_
    simp only [Act.put, List.setIfInBounds_toArray, List.set_cons_succ, List.set_cons_zero]
    refine wpList_store_row rfl 49 _ _ rfl br S rfl rfl 49 S0 (unhide HR9) (by rw [unhide HZ]; kernel_rfl) (by rw [unhide HZ, unhide HZ0]) (unhide HONE) ?_
    simp only [Act.put, List.setIfInBounds_toArray, List.set_cons_succ, List.set_cons_zero]
    revert HRR HOB HBB
    generalize ((w5).setRow br S) = w9
    intro HRR HOB HBB
    refine wpList_nil ?_
    simp only [Exit.then]
    first | (rename_i hK; refine hK _ _ ?_) | skip
    refine wp_ret ?_
    refine bodyPost_ret (v := .agg S) (results_cell_row rfl _ _ br 49 S (0, 0) _ rfl (unhide HRR) Tryd.underlying49 rfl (by rw [unhide HZ]; kernel_rfl)) rfl ?_
    refine ⟨(fillB (fun _ => false) lo hi 1), true, by rw [unhide HS], ?_, unhide HOB, ?_⟩
    · have := unhide HPF _ (show pStep s j = .ok (j, 1) by unfold pStep; rw [if_neg (unhide T2)])
      rw [this]
      exact unhide HBB
    · intro x hx
      rw [unhide HPF _ (show pStep s j = .ok (j, 1) by unfold pStep; rw [if_neg (unhide T2)])] at hx
      cases hx
      rfl
end Go.Proofs.YtnnhnihgeheahaaDoor
