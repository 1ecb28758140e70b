/- The reference's Rule.minute. -/
import Derived.Test.YtnnhnihgeheahaaGreatDoorRefR
import Derived.Test.YtnnhnihgeheahaaGreatDoorRefE
set_option linter.unusedSimpArgs false
set_option linter.unusedVariables false
namespace Go.Proofs.YtnnhnihgeheahaaGreatDoor
open Go.RowKit

/-- A rule's bounds. -/
structure Rul.Good (r : Rul) : Prop where
  month : 1 ≤ r.month ∧ r.month ≤ 12
  week : 1 ≤ r.week ∧ r.week ≤ 5
  day : r.day ≤ 6
  time : 120 ≤ r.time ∧ r.time ≤ 1319

/-- Days from the beginning of 1960 to that of a rule's month in the n-th year behind it. -/
def Cal.first (n : Nat) (r : Rul) : Nat := Cal.yd n + Cal.md (1960 + n) (r.month - 1)
def Cal.late (n : Nat) (r : Rul) : Nat := (r.day + 7 - (Cal.first n r + 5) % 7) % 7 + 7 * (r.week - 1)
def Cal.ruleDay (n : Nat) (r : Rul) : Nat := Cal.first n r + (if Cal.ml (1960 + n) r.month ≤ Cal.late n r then Cal.late n r - 7 else Cal.late n r)
def Cal.ruleMin (n : Nat) (r : Rul) : Int := ((Cal.ruleDay n r : Int) - 3653) * 1440 + r.time

set_option maxHeartbeats 2000000 in
theorem ref_minute (n : Nat) (r : Rul) (y' : Int) (e1 : y' = 1960 + n) (w : World) (hn : n ≤ 1000) (hr : r.Good) :
    Calls Tryz.prog 75 #[rulV r, .int .i64 y'] w fun e w' => e = .returned (.int .i64 (Cal.ruleMin n r)) ∧ Only [] w w' := by
  subst e1
  obtain ⟨⟨hm1, hm2⟩, ⟨hk1, hk2⟩, hd1, ⟨ht1, ht2⟩⟩ := hr
  obtain ⟨F, hF⟩ : ∃ F, F = Cal.first n r := ⟨_, rfl⟩
  have hF' : Cal.yd n + Cal.md (1960 + n) (r.month - 1) = F := by rw [hF]; rfl
  have hFb : F ≤ 400000 := by
    have h1 := Cal.yd_le n
    have h2 := Cal.md_mono (1960 + n) (show r.month - 1 ≤ 12 by omega)
    rw [Cal.md_12] at h2
    have h3 := (Cal.yl_bd (1960 + n)).2
    omega
  obtain ⟨m, k, d, t⟩ := r
  simp only at hm1 hm2 hk1 hk2 hd1 ht1 ht2 hF'
  have HF := hide hF
  have HF' := hide hF'
  clear hF hF'
  unfold rulV
  go_enter Tryz.func75, Tryz.ntmps75
  go_wp2_with (go_at_call 103; refine (ref_Days n (m - 1) _ _ (by rfl) (by omega) _ hn (by omega)).mono ?_; rintro e w1 ⟨rfl, rfl⟩; rw [unhide HF'])
  obtain ⟨e, he⟩ : ∃ e, e = (d + 7 - (F + 5) % 7) % 7 + 7 * (k - 1) := ⟨_, rfl⟩
  have hei : ((d : Int) - ((F : Int) + 5)) % 7 + 7 * ((k : Int) - 1) = (e : Int) := by omega
  have heb : e ≤ 34 := by omega
  have HE := hide he
  rw [hei]
  clear he hei
  obtain ⟨L, hL⟩ : ∃ L, L = Cal.ml (1960 + n) m := ⟨_, rfl⟩
  have hLb := Cal.ml_bd (1960 + n) m
  rw [← hL] at hLb
  have HL := hide hL
  clear hL
  go_wp2_with (go_at_call 72; refine (ref_Length' (1960 + n) m _ _ (by omega) (by omega) _ (by omega) (by omega)).mono ?_; rintro e w1 ⟨rfl, rfl⟩; rw [← unhide HL])
  go_loop [7] (fun x => ∃ v : Nat, (v = e ∨ (L ≤ e ∧ v + 7 = e)) ∧ x = .int .i64 (v : Int)) (fun x => (intOf x).toNat)
  case atStart => exact ⟨e, .inl rfl, rfl⟩
  case round =>
    obtain ⟨v, hv, rfl⟩ := hrel
    by_cases hlt : L ≤ v
    · go_wp2
      go_round
      case rel => exact ⟨v - 7, .inr ⟨by omega, by omega⟩, by go_num⟩
      case measure => simp [intOf]; omega
    · go_wp2
      go_ret
      refine ⟨ret_int ?_, (Only.refl _ _).alloc _⟩
      have h1 := unhide HF
      have h2 := unhide HE
      have h3 := unhide HL
      simp only [Cal.ruleMin, Cal.ruleDay, Cal.late, ← h1, ← h3]
      rw [← h2]
      by_cases g : L ≤ e
      · rw [if_pos g]; omega
      · rw [if_neg g]; omega
end Go.Proofs.YtnnhnihgeheahaaGreatDoor
