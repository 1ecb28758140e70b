/- The program's Check. -/
import Derived.Test.YtdepepggfoiefaaDoorCodeG
import Derived.Test.YtdepepggfoiefaaDoorCodeJ
set_option linter.unusedSimpArgs false
set_option linter.unusedVariables false
namespace Go.Proofs.YtdepepggfoiefaaDoor
open Go.RowKit

/-- What Check answers: the error and the place. -/
def checkN (z f : ByteArray) : Nat × Nat :=
  if 100 < z.size ∨ 100 < f.size then (1, 0) else match pZone z with
  | .error q => (2, q)
  | .ok _ => match pFields f with
    | .error q => (3, q)
    | .ok _ => (0, 0)
def CheckSaid (z f : ByteArray) (w : World) (e : Ending) (w' : World) : Prop :=
  Below w.heap.size w w' ∧ e = .returned (.tuple #[.int .i64 (checkN z f).1, .int .i64 (checkN z f).2])

theorem ret_two {a b c d : Int} (h1 : a = b) (h2 : c = d) : Ending.returned (.tuple #[.int .i64 a, .int .i64 c]) = .returned (.tuple #[.int .i64 b, .int .i64 d]) := by rw [h1, h2]

set_option maxHeartbeats 1000000 in
theorem c_Check (z f : ByteArray) (w : World) (hz : z.size ≤ 281474976710656) (hf : f.size ≤ 281474976710656) (hE : Errs w) (hT : Tab w) :
    Calls Tryd.prog 4 #[.string z, .string f] w (CheckSaid z f w) := by
  by_cases h1 : 100 < z.size
  · have hd1 : decide ((100 : Int) < z.size) = true := by simp; omega
    have hc : checkN z f = (1, 0) := by unfold checkN; rw [if_pos (.inl h1)]
    have HC := hide hc
    clear hc
    go_enter Tryd.func4, Tryd.ntmps4
    go_wp2
    go_ret2
    exact ⟨Below.refl _ _, by rw [unhide HC]; rfl⟩
  · have hd1 : decide ((100 : Int) < z.size) = false := by simp; omega
    by_cases h2 : 100 < f.size
    · have hd2 : decide ((100 : Int) < f.size) = true := by simp; omega
      have hc : checkN z f = (1, 0) := by unfold checkN; rw [if_pos (.inr h2)]
      have HC := hide hc
      clear hc
      go_enter Tryd.func4, Tryd.ntmps4
      go_wp2
      go_ret2
      exact ⟨Below.refl _ _, by rw [unhide HC]; rfl⟩
    · have hd2 : decide ((100 : Int) < f.size) = false := by simp; omega
      have hc : checkN z f = match pZone z with
          | .error q => (2, q)
          | .ok _ => match pFields f with
            | .error q => (3, q)
            | .ok _ => (0, 0) := by unfold checkN; rw [if_neg (by omega)]
      have HE := hide hE
      have HT := hide hT
      cases hP : pZone z with
      | error q =>
        rw [hP] at hc
        have HC := hide hc
        have HP := hide hP
        clear hc hP hE hT
        go_enter Tryd.func4, Tryd.ntmps4
        go_wp2_with (go_at_call 7; refine (c_read z _ hz (unhide HE)).mono ?_)
        rintro e w1 ⟨hbel, zz, n, p, rfl, _, hs⟩
        obtain ⟨rfl, rfl⟩ := (hs (by omega)).2 q (unhide HP)
        have HBEL := hide hbel
        unfold zonV
        clear hs hbel
        go_wp2
        go_ret2
        refine ⟨?_, by rw [unhide HC]; rfl⟩
        exact (unhide HBEL).alloc (unhide HBEL).size _
      | ok zz' =>
        rw [hP] at hc
        simp only [] at hc
        have HC := hide hc
        have HP := hide hP
        clear hc hP hE hT
        go_enter Tryd.func4, Tryd.ntmps4
        go_wp2_with (go_at_call 7; refine (c_read z _ hz (unhide HE)).mono ?_)
        rintro e w1 ⟨hbel, zz, n, p, rfl, _, hs⟩
        obtain ⟨rfl, rfl, rfl⟩ := (hs (by omega)).1 zz' (unhide HP)
        have HBEL := hide (hbel.alloc hbel.size (.cells (zonC zz) 32))
        have HO := hide (Only.alloc (Only.of_below [] hbel) (.cells (zonC zz) 32))
        unfold zonV
        clear hs hbel
        go_wp2_with (go_at_call 8; refine (c_checkFields f _ hf ?_ ?_).mono ?_)
        · exact (unhide HE).only (unhide HO) (by simp) (by simp)
        · exact (unhide HT).only (unhide HO) (by simp)
        rintro e w2 ⟨hb2, n, p, rfl, hs1, hs2⟩
        have hb2' := Below.trans (unhide HBEL) (hb2.mono (unhide HBEL).size)
        have HB2 := hide hb2'
        have hend : checkN z f = (n.toNat, p) ∧ 0 ≤ n := by
          rw [unhide HC]
          cases hQ : pFields f with
          | error q => obtain ⟨rfl, rfl⟩ := hs2 q hQ; exact ⟨rfl, by decide⟩
          | ok F => obtain ⟨rfl, rfl⟩ := hs1 F hQ; exact ⟨rfl, by decide⟩
        have HEND := hide hend
        clear hb2 hs1 hs2 hb2' hend
        go_wp2
        go_ret2
        refine ⟨unhide HB2, ?_⟩
        rw [(unhide HEND).1]
        exact ret_two (by have := (unhide HEND).2; simp only []; omega) rfl
end Go.Proofs.YtdepepggfoiefaaDoor
