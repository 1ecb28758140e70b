/- The program's Local. -/
import Derived.Test.YtlelhahklepdiaaGreatDoorCalG
import Derived.Test.YtlelhahklepdiaaGreatDoorCodeG
import Derived.Test.YtlelhahklepdiaaGreatDoorMStr
set_option linter.unusedSimpArgs false
set_option linter.unusedVariables false
namespace Go.Proofs.YtlelhahklepdiaaGreatDoor
open Go.RowKit

set_option maxHeartbeats 400000 in
theorem code_inRangeL (m : Int) (b : Bool) (hb : b = (decide (0 ≤ m) && decide (m ≤ 70000000))) (w : World) : Calls Tryz.prog 26 #[.int .i64 m] w fun e w' => e = .returned (.bool b) ∧ w' = w := by
  by_cases h1 : 0 ≤ m <;> by_cases h2 : m ≤ 70000000
  all_goals
    have HB := hide hb
    clear hb
    go_enter Tryz.func26, Tryz.ntmps26
    go_wp2
    go_ret
    exact ⟨ret_bool (by rw [unhide HB]; simp [h1, h2]), rfl⟩

set_option maxRecDepth 2000 in
set_option maxHeartbeats 1000000 in
theorem c_Local_zone (s : ByteArray) (t : Int) (n0 : Nat) (w : World) (hs : s.size ≤ 281474976710656) (hE : Errs w) (h : (100 < s.size ∧ n0 = 1) ∨ (s.size ≤ 100 ∧ (∃ q, pZone s = .error q) ∧ n0 = 2)) :
    Calls Tryz.prog 9 #[.string s, .int .i64 t] w fun e w' => e = .returned (.tuple #[.string ⟨#[]⟩, .int .i64 (n0 : Int)]) ∧ Only [] w w' := by
  have HH := hide h
  have HE := hide hE
  have hn0 : ((n0 : Int) != 0) = true := by rw [bne_iff_ne]; omega
  clear h hE
  go_enter Tryz.func9, Tryz.ntmps9
  go_wp2_with (
    go_at_call 25
    refine (c_read s _ hs (unhide HE)).mono ?_
    rintro e w1 ⟨hbel, zz, n, p, rfl, hl, hsm⟩
    obtain rfl : n = (n0 : Int) := by
      rcases unhide HH with ⟨h1, h2⟩ | ⟨h1, ⟨q, hq⟩, h2⟩
      · rw [(hl h1).1, h2]; rfl
      · rw [((hsm h1).2 q hq).1, h2]; rfl
    have HO := hide (Only.of_below [] hbel)
    unfold zonV
    clear hl hsm hbel HH)
  go_ret2
  exact ⟨rfl, (unhide HO).alloc _⟩

set_option maxRecDepth 2000 in
set_option maxHeartbeats 1000000 in
theorem c_Local_range (s : ByteArray) (t : Int) (z : Zon) (w : World) (hs : s.size ≤ 100) (hE : Errs w) (hz : pZone s = .ok z) (ht : t < 0 ∨ 70000000 < t) :
    Calls Tryz.prog 9 #[.string s, .int .i64 t] w fun e w' => e = .returned (.tuple #[.string ⟨#[]⟩, .int .i64 4]) ∧ Only [] w w' := by
  have HE := hide hE
  have HZ := hide hz
  have hri : false = (decide (0 ≤ t) && decide (t ≤ 70000000)) := by
    rcases ht with h | h
    · simp; omega
    · simp; omega
  have HRI := hide hri
  clear hz hE hri
  rcases ht with ht | ht
  all_goals
    go_enter Tryz.func9, Tryz.ntmps9
    go_wp2_with (first
      | (go_at_call 25
         refine (c_read s _ (by omega) (unhide HE)).mono ?_
         rintro e w1 ⟨hbel, zz, n, p, rfl, hl, hsm⟩
         obtain ⟨rfl, rfl, rfl⟩ := (hsm hs).1 z (unhide HZ)
         have HO := hide (Only.of_below [] hbel)
         unfold zonV
         clear hl hsm hbel)
      | (go_at_call 26; refine (code_inRangeL t false (unhide HRI) _).mono ?_; rintro e w2 ⟨rfl, rfl⟩))
    go_ret2
    exact ⟨rfl, (unhide HO).alloc _⟩

set_option maxRecDepth 2000 in
set_option maxHeartbeats 2000000 in
theorem c_Local_ok (s : ByteArray) (t : Int) (z : Zon) (N n m k : Nat) (w : World) (hs : s.size ≤ 100) (hE : Errs w) (hM : Months w) (hP : Pow w) (hz : pZone s = .ok z) (ht1 : 0 ≤ t) (ht2 : t ≤ 70000000)
    (hN : Cal.shown z t = (N : Int) - 5260320) (hIs : Cal.Is (N / 1440) n m k) :
    Calls Tryz.prog 9 #[.string s, .int .i64 t] w fun e w' => e = .returned (.tuple #[.string (told N n m k), .int .i64 0]) ∧ Only [] w w' := by
  have hg := pZone_good hz
  have hNb : 1000000 ≤ N ∧ N ≤ 100000000 := by
    have h1 := hg.offset
    have h2 := hg.shift
    have h3 : t + z.offset ≤ Cal.shown z t ∧ Cal.shown z t ≤ t + z.offset + 120 := by
      unfold Cal.shown
      split <;> omega
    omega
  have HE := hide hE
  have HZ := hide hz
  have HM := hide hM
  have HP := hide hP
  have HN := hide hN
  have HI := hide hIs
  have HG := hide (pZone_fine hz)
  have hri : true = (decide (0 ≤ t) && decide (t ≤ 70000000)) := by simp; omega
  have HRI := hide hri
  clear hz hE hM hP hN hIs hg hri
  go_enter Tryz.func9, Tryz.ntmps9
  go_wp2_with (
    go_at_call 25
    refine (c_read s _ (by omega) (unhide HE)).mono ?_
    rintro e w1 ⟨hbel, zz, n1, p, rfl, hl, hsm⟩
    obtain ⟨rfl, rfl, rfl⟩ := (hsm hs).1 z (unhide HZ)
    have HO1 := hide (Only.of_below [] hbel)
    obtain ⟨off, sh, ⟨m1, k1, d1, t1⟩, ⟨m2, k2, d2, t2⟩⟩ := zz
    unfold zonV
    have HM1 := hide (((unhide HM).only (unhide HO1) (by simp)).alloc (.cells (zonA off sh m1 k1 d1 t1 m2 k2 d2 t2) 60))
    have HO2 := hide ((unhide HO1).alloc (.cells (zonA off sh m1 k1 d1 t1 m2 k2 d2 t2) 60))
    clear hl hsm hbel)
  go_wp2_with (first
    | (go_at_call 26; refine (code_inRangeL t true (unhide HRI) _).mono ?_; rintro e w2 ⟨rfl, hw⟩; rw [hw]; clear hw)
    | (go_at_call 28
       refine (code_shown ⟨off, sh, ⟨m1, k1, d1, t1⟩, ⟨m2, k2, d2, t2⟩⟩ t _ (unhide HM1) (unhide HG) ht1 ht2).mono ?_
       rintro e w2 ⟨rfl, ho2⟩
       have HO3 := hide ((unhide HO2).trans ho2)
       have HM3 := hide ((unhide HM1).only ho2 (by simp))
       clear ho2))
  go_wp2_with (
    go_at_call 27
    refine (code_tellTime N n m k _ (unhide HN) _ (unhide HI) (unhide HM3) ((unhide HP).only (unhide HO3)) hNb.1 hNb.2).mono ?_
    rintro e w3 ⟨rfl, ho3⟩
    have HO4 := hide ((unhide HO3).trans ho3)
    clear ho3)
  go_ret2
  exact ⟨rfl, unhide HO4⟩
end Go.Proofs.YtlelhahklepdiaaGreatDoor
