/- The reference's Check. -/
import Derived.Test.YtnnhnihgeheahaaDoorRefM
import Derived.Test.YtnnhnihgeheahaaDoorRefH
import Derived.Test.YtnnhnihgeheahaaDoorBaseJ
import Derived.Test.YtnnhnihgeheahaaDoorCodeG
set_option linter.unusedSimpArgs false
set_option linter.unusedVariables false
namespace Go.Proofs.YtnnhnihgeheahaaDoor
open Go.RowKit

set_option maxRecDepth 8000 in
set_option maxHeartbeats 1000000 in
theorem ref_Check (z f : ByteArray) (w : World) (hz : z.size ≤ 281474976710656) (hf : f.size ≤ 281474976710656) :
    Calls Tryd.prog 5 #[.string z, .string f] w (CheckSaid z f w) := by
  by_cases h1 : 100 < z.size
  · have hd1 : decide ((100 : Int) < z.size) = true := by simp; omega
    have hc : checkN z f = (1, 0) := by unfold checkN; rw [if_pos (.inl h1)]
    have HC := hide hc
    clear hc
    go_enter Tryd.func5, Tryd.ntmps5
    go_wp2
    go_ret2
    exact ⟨Below.refl _ _, by rw [unhide HC]; rfl⟩
  · have hd1 : decide ((100 : Int) < z.size) = false := by simp; omega
    by_cases h2 : 100 < f.size
    · have hd2 : decide ((100 : Int) < f.size) = true := by simp; omega
      have hc : checkN z f = (1, 0) := by unfold checkN; rw [if_pos (.inr h2)]
      have HC := hide hc
      clear hc
      go_enter Tryd.func5, Tryd.ntmps5
      go_wp2
      go_ret2
      exact ⟨Below.refl _ _, by rw [unhide HC]; rfl⟩
    · have hd2 : decide ((100 : Int) < f.size) = false := by simp; omega
      have hc : checkN z f = match pZone z with
          | .error q => (2, q)
          | .ok _ => match pFields f with
            | .error q => (3, q)
            | .ok _ => (0, 0) := by
        unfold checkN
        rw [if_neg (by omega)]
        cases pZone z with
        | error q => rfl
        | ok a => cases pFields f <;> rfl
      cases hP : pZone z with
      | error q =>
        rw [hP] at hc
        have HC := hide hc
        have HP := hide hP
        clear hc hP
        go_enter Tryd.func5, Tryd.ntmps5
        go_wp2_with (go_at_call 8; refine (ref_ParseZone z _ hz).mono ?_)
        rintro e w1 ⟨zz, ok, p, rfl, hbel, _, hs⟩
        obtain ⟨rfl, rfl⟩ := hs q (unhide HP)
        have HBEL := hide hbel
        unfold zonV
        clear hs hbel
        go_wp2
        go_ret2
        refine ⟨?_, by rw [unhide HC]; rfl⟩
        exact (unhide HBEL).alloc (unhide HBEL).size _
      | ok zz' =>
        rw [hP] at hc
        simp only [] at hc
        have HC := hide hc
        have HP := hide hP
        clear hc hP
        go_enter Tryd.func5, Tryd.ntmps5
        go_wp2_with (go_at_call 8; refine (ref_ParseZone z _ hz).mono ?_)
        rintro e w1 ⟨zz, ok, p, rfl, hbel, hs, _⟩
        obtain ⟨rfl, rfl⟩ := hs zz' (unhide HP)
        have HBEL := hide (hbel.alloc hbel.size (.cells (zonC zz) 44))
        unfold zonV
        clear hs hbel
        go_wp2_with (go_at_call 9; refine (ref_ParseFields f _ hf).mono ?_)
        rintro e w2 ⟨F, ok, p', rfl, hb2, hs1, hs2⟩
        have hb2' := Below.trans (unhide HBEL) (hb2.mono (unhide HBEL).size)
        obtain ⟨C, hC⟩ : ∃ C, C = fldV F := ⟨_, rfl⟩
        have hCs : C.size = 305 := by rw [hC]; exact fldV_size _
        have hCo : C.all (·.oneCell') = true := by rw [hC]; exact fldV_one _
        rw [← hC]
        have hz0 : Blk (w2.alloc (.cells fld0 51)) w2.heap.size fld0 51 := Blk.new _ _ _
        have hb3 : Below w.heap.size w ((w2.alloc (.cells fld0 51)).setRow w2.heap.size C) := by
          have ho : Only [] w w2 := ⟨hb2'.os, hb2'.tape, hb2'.output, hb2'.size, fun k hk _ => hb2'.block k hk⟩
          exact Only.below ((ho.alloc _).setRowNew hb2'.size _) (Nat.le_refl _) (by simp)
        have HZ0 := hide hz0
        have HB3 := hide hb3
        have HCS := hide hCs
        have HCO := hide hCo
        have hend : (ok = true ∧ checkN z f = (0, 0)) ∨ (ok = false ∧ checkN z f = (3, p')) := by
          rw [unhide HC]
          cases hQ : pFields f with
          | error q => obtain ⟨rfl, rfl⟩ := hs2 q hQ; exact .inr ⟨rfl, rfl⟩
          | ok F' => obtain ⟨rfl, _⟩ := hs1 F' hQ; exact .inl ⟨rfl, rfl⟩
        clear hb2 hs1 hs2 hb2' hz0 hb3 hCs hCo hC HBEL HC HP
        go_upto_region 7 with (first | (refine wpList_alloc_fld rfl rfl ?_; simp only [Act.put, List.setIfInBounds_toArray, List.set_cons_succ, List.set_cons_zero]) | (refine wpList_store_row rfl 51 _ _ rfl w2.heap.size C rfl rfl 51 fld0 (unhide HZ0) (by rw [unhide HCS]; kernel_rfl) (by rw [fld0_size, unhide HCS]) (unhide HCO) ?_; simp only [Act.put, List.setIfInBounds_toArray, List.set_cons_succ, List.set_cons_zero]))
        revert HB3
        generalize ((w2.alloc (.cells fld0 51)).setRow w2.heap.size C) = w3
        intro HB3
        clear HZ0
        rcases hend with ⟨rfl, hc⟩ | ⟨rfl, hc⟩
        · have HC := hide hc
          clear hc
          go_wp2
          go_ret2
          exact ⟨unhide HB3, by rw [unhide HC]; rfl⟩
        · have HC := hide hc
          clear hc
          go_wp2
          go_ret2
          exact ⟨unhide HB3, by rw [unhide HC]; rfl⟩

set_option maxHeartbeats 1000000 in
theorem law_num (n : Int) (w : World) : Calls Tryd.prog 6 #[.int .i64 n] w fun e w' => e = .returned (.int .i64 n) ∧ w' = w := by
  go_enter Tryd.func6, Tryd.ntmps6
  go_wp2
  go_ret
  exact ⟨rfl, rfl⟩
end Go.Proofs.YtnnhnihgeheahaaDoor
