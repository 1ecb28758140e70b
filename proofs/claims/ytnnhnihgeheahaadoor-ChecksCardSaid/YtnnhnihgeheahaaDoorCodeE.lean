/- The program's scanner: rule. -/
import Derived.Test.YtnnhnihgeheahaaDoorCodeD
import Derived.Test.YtnnhnihgeheahaaDoorRefD
set_option linter.unusedSimpArgs false
set_option linter.unusedVariables false
namespace Go.Proofs.YtnnhnihgeheahaaDoor
open Go.RowKit

/-- What 'rule' says. -/
def RulSaid (b : Nat) (T : TypeId) (s : ByteArray) (σ : Except Nat Nat) (w : World) (e : Ending) (w' : World) : Prop :=
  ∃ r : Rul, e = .returned (rulV r) ∧ HoldsC w' b T s (posOf (σ.bind (pRule s))) ∧ Only [b] w w' ∧ (∀ x, σ.bind (pRule s) = .ok x → r = x.2) ∧ r.month ≤ 1000000

set_option maxHeartbeats 1000000 in
theorem c_rule (b : Nat) (s : ByteArray) (σ : Except Nat Nat) (T : TypeId) (w : World) (hb : HoldsC w b T s σ) (hs : s.size ≤ 281474976710656) (hE : Errs w) (hg1 : 1 ≠ b) (hg2 : 2 ≠ b) :
    Calls Tryd.prog 30 #[.pointer (some ⟨b, 0, none⟩)] w (RulSaid b T s σ w) := by
  have hlt := hb.lt
  have HB := hide hb
  have HE := hide hE
  clear hb hE
  go_enter Tryd.func30, Tryd.ntmps30
  have hu0 : Blk ((w.alloc (.cells #[.int .i64 0, .int .i64 0, .int .i64 0, .int .i64 0] 30)).alloc (.cells #[.int .i64 0, .int .i64 0, .int .i64 0, .int .i64 0] 30)) (w.heap.size + 1) #[.int .i64 0, .int .i64 0, .int .i64 0, .int .i64 0] 30 := by simpa using Blk.new (w.alloc (.cells #[.int .i64 0, .int .i64 0, .int .i64 0, .int .i64 0] 30)) #[.int .i64 0, .int .i64 0, .int .i64 0, .int .i64 0] 30
  have hr0 : Blk ((w.alloc (.cells #[.int .i64 0, .int .i64 0, .int .i64 0, .int .i64 0] 30)).alloc (.cells #[.int .i64 0, .int .i64 0, .int .i64 0, .int .i64 0] 30)) w.heap.size #[.int .i64 0, .int .i64 0, .int .i64 0, .int .i64 0] 30 := (Blk.new w #[.int .i64 0, .int .i64 0, .int .i64 0, .int .i64 0] 30).alloc _
  have HU0 := hide hu0
  have HR0 := hide hr0
  clear hu0 hr0
  have HO0 := hide (((Only.refl [b] w).alloc (.cells #[.int .i64 0, .int .i64 0, .int .i64 0, .int .i64 0] 30)).alloc (.cells #[.int .i64 0, .int .i64 0, .int .i64 0, .int .i64 0] 30))
  have hW0 := ((unhide HB).alloc (.cells #[.int .i64 0, .int .i64 0, .int .i64 0, .int .i64 0] 30)).alloc (.cells #[.int .i64 0, .int .i64 0, .int .i64 0, .int .i64 0] 30)
  have HB0 := hide hW0
  clear hW0
  go_wp2_with (go_at_call 29; refine (c_number b s _ 1 12 1 12 rfl rfl T _ (unhide HB0) hs ((unhide HE).only (unhide HO0) (by simpa using hg1) (by simpa using hg2)) hg1 hg2 (by decide) (by decide)).mono ?_)
  rintro e w1 ⟨m, rfl, hb1, ho1, hv1, hl1⟩
  have HU1 := hide (Blk.only (unhide HU0) ho1 (by simp; omega))
  have HR1 := hide (Blk.only (unhide HR0) ho1 (by simp; omega))
  have HO1 := hide ((unhide HO0).trans ho1)
  have HB1 := hide hb1
  have HV1 := hide hv1
  clear hb1 ho1 hv1 HU0 HR0 HO0 HB0
  have hc1 := (unhide HU1).cell 0
  have hf1 := (unhide HU1).frozen
  simp at hc1
  have hU1 : Blk (w1.setCell ⟨w.heap.size + 1, 0, none⟩ (.int .i64 m)) (w.heap.size + 1) #[.int .i64 m, .int .i64 0, .int .i64 0, .int .i64 0] 30 := by simpa using (unhide HU1).set 0 (.int .i64 m)
  have hR1 : Blk (w1.setCell ⟨w.heap.size + 1, 0, none⟩ (.int .i64 m)) w.heap.size #[.int .i64 0, .int .i64 0, .int .i64 0, .int .i64 0] 30 := (unhide HR1).setOther (by simp) _
  have hO1 : Only [b] w (w1.setCell ⟨w.heap.size + 1, 0, none⟩ (.int .i64 m)) := (unhide HO1).setNew (by simp) _
  have hB1 := (unhide HB1).setOther (p := ⟨w.heap.size + 1, 0, none⟩) (by simp; omega) (.int .i64 m)
  clear HU1 HR1 HO1 HB1
  have HU1 := hide hU1
  have HR1 := hide hR1
  have HO1 := hide hO1
  have HB1 := hide hB1
  clear hU1 hR1 hO1 hB1
  go_wp2_with (go_at_call 21; refine (c_need b s _ 46 46 rfl T _ (unhide HB1) hs (by decide)).mono ?_)
  rintro e w2 ⟨rfl, hb2, ho2⟩
  have HU2 := hide (Blk.only (unhide HU1) ho2 (by simp; omega))
  have HR2 := hide (Blk.only (unhide HR1) ho2 (by simp; omega))
  have HO2 := hide ((unhide HO1).trans ho2)
  have HB2 := hide hb2
  clear hb2 ho2 HU1 HR1 HO1 HB1
  clear hc1 hf1
  go_wp2_with (go_at_call 29; refine (c_number b s _ 1 5 1 5 rfl rfl T _ (unhide HB2) hs ((unhide HE).only (unhide HO2) (by simpa using hg1) (by simpa using hg2)) hg1 hg2 (by decide) (by decide)).mono ?_)
  rintro e w3 ⟨k, rfl, hb3, ho3, hv3, hl3⟩
  have HU3 := hide (Blk.only (unhide HU2) ho3 (by simp; omega))
  have HR3 := hide (Blk.only (unhide HR2) ho3 (by simp; omega))
  have HO3 := hide ((unhide HO2).trans ho3)
  have HB3 := hide hb3
  have HV3 := hide hv3
  clear hb3 ho3 hv3 HU2 HR2 HO2 HB2
  have hc3 := (unhide HU3).cell 1
  have hf3 := (unhide HU3).frozen
  simp at hc3
  have hU3 : Blk (w3.setCell ⟨w.heap.size + 1, 1, none⟩ (.int .i64 k)) (w.heap.size + 1) #[.int .i64 m, .int .i64 k, .int .i64 0, .int .i64 0] 30 := by simpa using (unhide HU3).set 1 (.int .i64 k)
  have hR3 : Blk (w3.setCell ⟨w.heap.size + 1, 1, none⟩ (.int .i64 k)) w.heap.size #[.int .i64 0, .int .i64 0, .int .i64 0, .int .i64 0] 30 := (unhide HR3).setOther (by simp) _
  have hO3 : Only [b] w (w3.setCell ⟨w.heap.size + 1, 1, none⟩ (.int .i64 k)) := (unhide HO3).setNew (by simp) _
  have hB3 := (unhide HB3).setOther (p := ⟨w.heap.size + 1, 1, none⟩) (by simp; omega) (.int .i64 k)
  clear HU3 HR3 HO3 HB3
  have HU3 := hide hU3
  have HR3 := hide hR3
  have HO3 := hide hO3
  have HB3 := hide hB3
  clear hU3 hR3 hO3 hB3
  go_wp2_with (go_at_call 21; refine (c_need b s _ 46 46 rfl T _ (unhide HB3) hs (by decide)).mono ?_)
  rintro e w4 ⟨rfl, hb4, ho4⟩
  have HU4 := hide (Blk.only (unhide HU3) ho4 (by simp; omega))
  have HR4 := hide (Blk.only (unhide HR3) ho4 (by simp; omega))
  have HO4 := hide ((unhide HO3).trans ho4)
  have HB4 := hide hb4
  clear hb4 ho4 HU3 HR3 HO3 HB3
  clear hc3 hf3
  go_wp2_with (go_at_call 29; refine (c_number b s _ 0 6 0 6 rfl rfl T _ (unhide HB4) hs ((unhide HE).only (unhide HO4) (by simpa using hg1) (by simpa using hg2)) hg1 hg2 (by decide) (by decide)).mono ?_)
  rintro e w5 ⟨d, rfl, hb5, ho5, hv5, hl5⟩
  have HU5 := hide (Blk.only (unhide HU4) ho5 (by simp; omega))
  have HR5 := hide (Blk.only (unhide HR4) ho5 (by simp; omega))
  have HO5 := hide ((unhide HO4).trans ho5)
  have HB5 := hide hb5
  have HV5 := hide hv5
  clear hb5 ho5 hv5 HU4 HR4 HO4 HB4
  have hc5 := (unhide HU5).cell 2
  have hf5 := (unhide HU5).frozen
  simp at hc5
  have hU5 : Blk (w5.setCell ⟨w.heap.size + 1, 2, none⟩ (.int .i64 d)) (w.heap.size + 1) #[.int .i64 m, .int .i64 k, .int .i64 d, .int .i64 0] 30 := by simpa using (unhide HU5).set 2 (.int .i64 d)
  have hR5 : Blk (w5.setCell ⟨w.heap.size + 1, 2, none⟩ (.int .i64 d)) w.heap.size #[.int .i64 0, .int .i64 0, .int .i64 0, .int .i64 0] 30 := (unhide HR5).setOther (by simp) _
  have hO5 : Only [b] w (w5.setCell ⟨w.heap.size + 1, 2, none⟩ (.int .i64 d)) := (unhide HO5).setNew (by simp) _
  have hB5 := (unhide HB5).setOther (p := ⟨w.heap.size + 1, 2, none⟩) (by simp; omega) (.int .i64 d)
  clear HU5 HR5 HO5 HB5
  have HU5 := hide hU5
  have HR5 := hide hR5
  have HO5 := hide hO5
  have HB5 := hide hB5
  clear hU5 hR5 hO5 hB5
  go_wp2_with (go_at_call 21; refine (c_need b s _ 64 64 rfl T _ (unhide HB5) hs (by decide)).mono ?_)
  rintro e w6 ⟨rfl, hb6, ho6⟩
  have HU6 := hide (Blk.only (unhide HU5) ho6 (by simp; omega))
  have HR6 := hide (Blk.only (unhide HR5) ho6 (by simp; omega))
  have HO6 := hide ((unhide HO5).trans ho6)
  have HB6 := hide hb6
  clear hb6 ho6 HU5 HR5 HO5 HB5
  clear hc5 hf5
  obtain ⟨i, bad, a, hi', hblk, hok, _⟩ := (unhide HB6).place
  have hi1 := hblk.cell 1
  simp [rdr] at hi1
  have HOK := hide hok
  clear hblk hok
  go_wp2_with (go_at_call 28; refine (c_hm b s _ 120 1319 i 120 1319 i rfl rfl rfl T _ (unhide HB6) hs (by decide) (by decide)).mono ?_)
  rintro e w7 ⟨t, rfl, hb7, ho7, hv7, hl7⟩
  have HU7 := hide (Blk.only (unhide HU6) ho7 (by simp; omega))
  have HR7 := hide (Blk.only (unhide HR6) ho7 (by simp; omega))
  have HO7 := hide ((unhide HO6).trans ho7)
  have HB7 := hide hb7
  have HV7 := hide hv7
  clear hb7 ho7 hv7 HU6 HR6 HO6 HB6
  clear hi1
  have hc7 := (unhide HU7).cell 3
  have hf7 := (unhide HU7).frozen
  simp at hc7
  have hr7 := (unhide HR7).frozen
  have hrc0 := (unhide HR7).cell 0
  have hrc1 := (unhide HR7).cell 1
  have hrc2 := (unhide HR7).cell 2
  have hrc3 := (unhide HR7).cell 3
  have hd0 := (unhide HU7).cell 0
  have hd1 := (unhide HU7).cell 1
  have hd2 := (unhide HU7).cell 2
  simp at hd0 hd1 hd2 hrc0 hrc1 hrc2 hrc3
  go_wp2
  have hrc := rule_cases s σ _ _ _ _ _ _ m k d t i rfl (unhide HV1) rfl rfl (unhide HV3) rfl rfl (unhide HV5) rfl (fun j hj => (unhide HOK j hj).1) (unhide HV7)
  refine bodyPost_ret (v := rulV ⟨m, k, d, t⟩) (by simp [results, Tryd.results30, go_sem, rulV, hrc0, hrc1, hrc2, hrc3]) rfl ⟨⟨m, k, d, t⟩, rfl, ?_, ?_, hrc.2, hl1⟩
  · rw [← hrc.1]
    exact (((((unhide HB7).setOther (by simp; omega) _).setOther (by simp; omega) _).setOther (by simp; omega) _).setOther (by simp; omega) _).setOther (by simp; omega) _
  · exact (((((unhide HO7).setNew (by simp) _).setNew (by simp) _).setNew (by simp) _).setNew (by simp) _).setNew (by simp) _
end Go.Proofs.YtnnhnihgeheahaaDoor
