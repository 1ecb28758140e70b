/- Locals: the law out of the contracts, the row, the card. -/
import Derived.Test.YtnnhnihgeheahaaGreatDoorRows
import Derived.Test.YtnnhnihgeheahaaGreatDoorTie
import Derived.Test.YtnnhnihgeheahaaGreatDoorCards
import Derived.Test.YtnnhnihgeheahaaGreatDoorRefN
import Derived.Test.YtnnhnihgeheahaaGreatDoorLocLaid
import Derived.ProofKit
import Derived.LaidMore
import Derived.OpenShut
import Derived.Stop.Joined
import Derived.Stop.LaidErr
import Derived.MakeChecks
import Derived.SevenTiedAt
set_option linter.unusedSimpArgs false
set_option linter.unusedVariables false
namespace Go.Proofs.YtnnhnihgeheahaaGreatDoor
open Go.ChangeShapes Go.WideShapes Go.ChangeAt Go.WideMaps Go.WideElems Go.RowKit
open Go.ChangeMaps (open_string shut_string)

set_option maxHeartbeats 400000 in
theorem law_within (t : Int) (b : Bool) (hb : b = (decide (0 ≤ t) && decide (t ≤ 70000000))) (w : World) : Calls Tryz.prog 15 #[.int .i64 t] w fun e w' => e = .returned (.bool b) ∧ w' = w := by
  by_cases h1 : 0 ≤ t <;> by_cases h2 : t ≤ 70000000
  all_goals
    have HB := hide hb
    clear hb
    go_enter Tryz.func15, Tryz.ntmps15
    go_wp2
    go_ret
    exact ⟨ret_bool (by rw [unhide HB]; first | (simp; omega) | simp), rfl⟩

def LawSaid (w : World) (e : Ending) (w' : World) : Prop := e = .returned (.bool true) ∧ Below w.heap.size w w'

set_option maxRecDepth 2000 in
set_option maxHeartbeats 1000000 in
theorem law_zone (s : ByteArray) (t : Int) (w : World) (hs : s.size ≤ 281474976710656) (hE : Errs w) (n0 q0 : Nat) (h : (100 < s.size ∧ n0 = 1) ∨ (s.size ≤ 100 ∧ (∃ q, pZone s = .error q) ∧ n0 = 2)) (hc : checkN s stars = (n0, q0)) :
    Calls Tryz.prog 3 #[.string s, .int .i64 t] w (LawSaid w) := by
  have hn0 : ((n0 : Int) == 0) = false := by rw [beq_eq_false_iff_ne]; omega
  have hn1 : ((n0 : Int) != 0) = true := by rw [bne_iff_ne]; omega
  have hn2 : ((n0 : Int) == n0) = true := by simp
  have HE := hide hE
  have HH := hide h
  have HC := hide hc
  clear hE h hc
  go_enter Tryz.func3, Tryz.ntmps3
  go_wp2_with (
    go_at_call 13
    refine (c_Local_zone s t n0 _ hs (unhide HE) (unhide HH)).mono ?_
    rintro e w1 ⟨rfl, ho1⟩
    have HO1 := hide ho1
    clear ho1)
  go_wp2_with (
    go_at_call 14
    refine (ref_Check s stars _ hs (by decide)).mono ?_
    rintro e w2 ⟨hb2, rfl⟩
    rw [unhide HC]
    have HO2 := hide ((unhide HO1).trans (Only.of_below [] hb2))
    clear hb2)
  go_wp2_with (go_at_call 16; refine (law_num _ _).mono ?_; rintro e w3 ⟨rfl, hw⟩; rw [hw]; clear hw)
  go_ret
  exact ⟨rfl, Only.below (unhide HO2) (Nat.le_refl _) (by simp)⟩

set_option maxRecDepth 2000 in
set_option maxHeartbeats 1000000 in
theorem law_range (s : ByteArray) (t : Int) (z : Zon) (w : World) (hs : s.size ≤ 100) (hE : Errs w) (hz : pZone s = .ok z) (ht : t < 0 ∨ 70000000 < t) :
    Calls Tryz.prog 3 #[.string s, .int .i64 t] w (LawSaid w) := by
  have hc : checkN s stars = (0, 0) := by rw [check_stars, if_neg (by omega), hz]
  have hw : false = (decide (0 ≤ t) && decide (t ≤ 70000000)) := by
    rcases ht with h | h
    · simp; omega
    · simp; omega
  have HE := hide hE
  have HZ := hide hz
  have HT := hide ht
  have HC := hide hc
  have HW := hide hw
  clear hE hz ht hc hw
  go_enter Tryz.func3, Tryz.ntmps3
  go_wp2_with (
    go_at_call 13
    refine (c_Local_range s t z _ hs (unhide HE) (unhide HZ) (unhide HT)).mono ?_
    rintro e w1 ⟨rfl, ho1⟩
    have HO1 := hide ho1
    clear ho1)
  go_wp2_with (
    go_at_call 14
    refine (ref_Check s stars _ (by omega) (by decide)).mono ?_
    rintro e w2 ⟨hb2, rfl⟩
    rw [unhide HC]
    have HO2 := hide ((unhide HO1).trans (Only.of_below [] hb2))
    clear hb2)
  go_wp2_with (first
    | (go_at_call 15; refine (law_within t false (unhide HW) _).mono ?_; rintro e w3 ⟨rfl, hw⟩; rw [hw]; clear hw)
    | (go_at_call 16; refine (law_num _ _).mono ?_; rintro e w3 ⟨rfl, hw⟩; rw [hw]; clear hw))
  go_ret
  exact ⟨rfl, Only.below (unhide HO2) (Nat.le_refl _) (by simp)⟩

theorem Cal.year_exists (D : Nat) : ∃ n, Cal.yd n ≤ D ∧ D < Cal.yd (n + 1) := by
  induction D with
  | zero => exact ⟨0, Nat.le_refl _, by have := Cal.yd_ge 1; show 0 < Cal.yd 1; omega⟩
  | succ D ih =>
    obtain ⟨n, h1, h2⟩ := ih
    by_cases h : D + 1 < Cal.yd (n + 1)
    · exact ⟨n, by omega, h⟩
    · refine ⟨n + 1, by omega, ?_⟩
      have e : Cal.yd (n + 1 + 1) = Cal.yd (n + 1) + Cal.yl (1960 + (n + 1)) := rfl
      have := (Cal.yl_bd (1960 + (n + 1))).1
      omega
theorem Cal.month_exists (y v : Nat) (hv : v < Cal.yl y) : ∃ m, m < 12 ∧ Cal.md y m ≤ v ∧ v < Cal.md y (m + 1) := by
  induction v with
  | zero =>
    refine ⟨0, by omega, Nat.le_refl _, ?_⟩
    have e : Cal.md y 1 = Cal.md y 0 + Cal.ml y 1 := rfl
    have := (Cal.ml_bd y 1).1
    show 0 < Cal.md y 1
    omega
  | succ v ih =>
    obtain ⟨m, hm, h1, h2⟩ := ih (by omega)
    by_cases h : v + 1 < Cal.md y (m + 1)
    · exact ⟨m, hm, by omega, h⟩
    · have hm1 : m + 1 < 12 := by
        rcases Nat.lt_or_ge (m + 1) 12 with g | g
        · exact g
        · have e12 : m + 1 = 12 := by omega
          rw [e12, Cal.md_12] at h
          omega
      refine ⟨m + 1, hm1, by omega, ?_⟩
      have e : Cal.md y (m + 1 + 1) = Cal.md y (m + 1) + Cal.ml y (m + 1 + 1) := rfl
      have := (Cal.ml_bd y (m + 1 + 1)).1
      omega
theorem Cal.Is.there (D : Nat) : ∃ n m k, Cal.Is D n m k := by
  obtain ⟨n, h1, h2⟩ := Cal.year_exists D
  have e : Cal.yd (n + 1) = Cal.yd n + Cal.yl (1960 + n) := rfl
  obtain ⟨m, hm, h3, h4⟩ := Cal.month_exists (1960 + n) (D - Cal.yd n) (by omega)
  have e2 : Cal.md (1960 + n) (m + 1) = Cal.md (1960 + n) m + Cal.ml (1960 + n) (m + 1) := rfl
  exact ⟨n, m, D - Cal.yd n - Cal.md (1960 + n) m, by omega, by omega, hm⟩

set_option maxRecDepth 2000 in
set_option maxHeartbeats 2000000 in
theorem law_ok (s : ByteArray) (t : Int) (z : Zon) (w : World) (hs : s.size ≤ 100) (hE : Errs w) (hM : Months w) (hP : Pow w) (hz : pZone s = .ok z) (ht1 : 0 ≤ t) (ht2 : t ≤ 70000000)
    (N n m k : Nat) (hN : Cal.shown z t = (N : Int) - 5260320) (hIs : Cal.Is (N / 1440) n m k) :
    Calls Tryz.prog 3 #[.string s, .int .i64 t] w (LawSaid w) := by
  have hc : checkN s stars = (0, 0) := by rw [check_stars, if_neg (by omega), hz]
  have hw : true = (decide (0 ≤ t) && decide (t ≤ 70000000)) := by simp; omega
  have hg := pZone_good hz
  have HE := hide hE
  have HZ := hide hz
  have HC := hide hc
  have HW := hide hw
  have HM := hide hM
  have HP := hide hP
  have HN := hide hN
  have HI := hide hIs
  have HG := hide hg
  clear hE hz hc hw hM hP hN hIs hg
  go_enter Tryz.func3, Tryz.ntmps3
  go_wp2_with (
    go_at_call 13
    refine (c_Local_ok s t z N n m k _ hs (unhide HE) (unhide HM) (unhide HP) (unhide HZ) ht1 ht2 (unhide HN) (unhide HI)).mono ?_
    rintro e w1 ⟨rfl, ho1⟩
    have HO1 := hide ho1
    clear ho1)
  go_wp2_with (
    go_at_call 14
    refine (ref_Check s stars _ (by omega) (by decide)).mono ?_
    rintro e w2 ⟨hb2, rfl⟩
    rw [unhide HC]
    have HO2 := hide ((unhide HO1).trans (Only.of_below [] hb2))
    clear hb2)
  go_wp2_with (first
    | (go_at_call 15; refine (law_within t true (unhide HW) _).mono ?_; rintro e w3 ⟨rfl, hw⟩; rw [hw]; clear hw)
    | (go_at_call 17
       refine (ref_ParseZone s _ (by omega)).mono ?_
       rintro e w4 ⟨zz, ok, p, rfl, hb4, hok, _⟩
       obtain ⟨rfl, rfl⟩ := hok z (unhide HZ)
       have HO4 := hide ((unhide HO2).trans (Only.of_below [] hb4))
       obtain ⟨off, sh, ⟨m1, k1, d1, t1⟩, ⟨m2, k2, d2, t2⟩⟩ := zz
       unfold zonV
       clear hb4 hok))
  go_wp2_with (first
    | (go_at_call 18
       refine (ref_Local ⟨off, sh, ⟨m1, k1, d1, t1⟩, ⟨m2, k2, d2, t2⟩⟩ t _ (unhide HG) ht1 ht2).mono ?_
       rintro e w5 ⟨N', n', m', k', hN', hNb', hI', rfl, ho5⟩
       have hNN : N' = N := by have := unhide HN; omega
       subst hNN
       obtain ⟨rfl, rfl, rfl⟩ := hI'.unique (unhide HI)
       have HO5 := hide (((unhide HO4).alloc _).trans ho5)
       clear hN' hNb' hI' ho5)
    | (go_at_call 16; refine (law_num _ _).mono ?_; rintro e w6 ⟨rfl, hw⟩; rw [hw]; clear hw))
  go_ret
  exact ⟨rfl, Only.below (unhide HO5) (Nat.le_refl _) (by simp)⟩

theorem law_Locals (s : ByteArray) (t : Int) (w : World) (hs : s.size ≤ 281474976710656) (hE : Errs w) (hM : Months w) (hP : Pow w) :
    Calls Tryz.prog 3 #[.string s, .int .i64 t] w (LawSaid w) := by
  by_cases h1 : 100 < s.size
  · exact law_zone s t w hs hE 1 0 (.inl ⟨h1, rfl⟩) (by rw [check_stars, if_pos h1])
  · cases hz : pZone s with
    | error q => exact law_zone s t w hs hE 2 q (.inr ⟨by omega, ⟨q, hz⟩, rfl⟩) (by rw [check_stars, if_neg h1, hz])
    | ok z =>
      by_cases ht : t < 0 ∨ 70000000 < t
      · exact law_range s t z w (by omega) hE hz ht
      · have hg := pZone_good hz
        have h3 : t + z.offset ≤ Cal.shown z t ∧ Cal.shown z t ≤ t + z.offset + 120 := by
          have h2 := hg.shift
          unfold Cal.shown
          split <;> omega
        have h4 := hg.offset
        obtain ⟨n, m, k, hI⟩ := Cal.Is.there ((Cal.shown z t + 5260320).toNat / 1440)
        exact law_ok s t z w (by omega) hE hM hP hz (by omega) (by omega) (Cal.shown z t + 5260320).toNat n m k (by omega) hI

set_option maxRecDepth 100000 in
theorem lifted (os : Os) (started : os.Started) (H : Type) (enc : TypeId × Value → H) :
    ReturnsInHanded {} Tryz.checked os 3 .any (fun w args => (Rows.localsSpec.pre enc Tryz.prog Tryz.f3 [] false w args ∧ laidMetH Tryz.prog laidAll w) ∧ sizedMet enc Tryz.prog Tryz.f3 (OpenSpec.ofChange Rows.localsSpec) false w args)
      (Rows.localsSpec.post enc Tryz.prog Tryz.f3 false true false false) := by
  refine returnsInHanded_of_change_and (C := Tryz.checked) (X := fun w _ => laidMetH Tryz.prog laidAll w) (fun _ _ _ hh h => h.of_heap hh) own started (by kernel_rfl) Tryz.func3
    (ChangeSpec.witness_shaped (enc := enc) (C := Tryz.checked) (os := os) (X := fun w _ => laidMetH Tryz.prog laidAll w) false (World.doorLaid Tryz.prog 400 os) #[.string ⟨#[]⟩, .int .i64 0] 8 rfl (World.shaped_of_RefB (by kernel_rfl) (by kernel_rfl)) (by kernel_rfl) (by kernel_rfl) (by kernel_rfl) (door_met os _)) ?_
  intro W base args ds gs before hval0 hW _ hsz0 hL _
  have hsz : (DataW.weightsEach Tryz.prog (Tryz.f3.params.toList ++ Rows.localsSpec.plain.varTypes Tryz.prog) (ds ++ gs)).all (· ≤ reachBytes) = true := hsz0
  clear hsz0
  have hval : ∀ (j : Nat) t v, Tryz.f3.params[j]? = some t → args[j]? = some v → Value.okWide Tryz.prog W .any base t v := hval0
  have hW' := hW
  obtain ⟨p, q, hA0, hV, rfl, _, _⟩ := hW
  have hA : DataW.TrodAll enc Tryz.prog W 0 (fun _ => true) true Tryz.f3.params.toList args.toList ds p := hA0
  rw [Tryz.params3] at hA hval hsz
  obtain ⟨v0, v1, d0, d1, p0, p1, rfl, rfl, rfl, h0, h1⟩ := trodAll_two hA
  obtain ⟨rfl, rfl⟩ := trodVars_none hV
  obtain ⟨z, rfl, rfl, rfl, hz⟩ := open_string Tryz.underlying9 (hval 0 9 v0 rfl rfl) h0
  obtain ⟨t, rfl, rfl, rfl, ht⟩ := open_int Tryz.underlying3 (hval 1 3 v1 rfl rfl) h1
  clear hA0 hval0
  simp only [List.append_nil] at hW'
  have e3 : (2 : Nat) ^ 47 = 140737488355328 := by decide
  have h2 := reachBytes_lt
  have hlz : z.size ≤ 281474976710656 := by
    have h1 := sized_string hsz (j := 0) (t := 9) rfl rfl
    have e2 : z.data.toList.length = z.size := by simp
    omega
  obtain ⟨hE, hM, hP⟩ := of_laid hL
  refine (law_Locals z t W hlz hE hM hP).mono fun e W' ⟨he, hnx⟩ => ?_
  subst he
  refine ⟨_, rfl, _, _, _, [], [], [], hW', ?_, ?_, rfl, hnx.frame _, fun h => by cases h⟩
  · exact trodAll_mk1 (shut_bool Tryz.underlying4 _)
  · exact trodAll_mk2 (shut_string Tryz.underlying9 hz) (shut_int Tryz.underlying3 ht)

theorem locals_row : Rows.LocalsSaid :=
  OpenClaim.holds_of_wide 3 Tryz.f3 rfl rfl rfl rfl rfl rfl rfl ⟨rfl, rfl, rfl, rfl, rfl⟩ rfl rfl rfl rfl rfl (by kernel_rfl) Tryz.func3 (by kernel_rfl)
    (of_decide_eq_true (by kernel_rfl)) (by unfold Func.isWrapper; rw [if_neg (of_decide_eq_false (by kernel_rfl))]; exact ⟨rfl, rfl⟩)
    (fun os started H enc _ => lifted os started H enc)

theorem locals_card : Rows.LocalsCardSaid :=
  Claim7.holds_tied_plain_at .later [] [.data, .data, .data, .sentinel, .sentinel, .data] true Rows.localsCard.stood.harness true
    locals_row (fun _ h => by cases h) (by kernel_rfl) (fun _ h => by cases h) locals_row_tie rfl ⟨rfl, rfl⟩ (by kernel_rfl) rfl
    (fun f fn hf hfn => by
      obtain rfl : f = 3 := Option.some.inj ((show Tryz.prog.funcNamed "tock/tocklaw.Locals" = some 3 by kernel_rfl).symm.trans hf) |>.symm
      obtain rfl : fn = Tryz.f3 := (Option.some.inj (Tryz.func3.symm.trans hfn)).symm
      exact ⟨by kernel_rfl, fun j t ht => by
        rw [Tryz.params3] at ht
        have hm : t ∈ [9, 3] := by simpa using Array.mem_of_getElem? ht
        have hall : ([9, 3].all fun u => !Tryz.prog.wantsStandIn u) = true := by kernel_rfl
        exact (show Tryz.prog.wantsStandIn t = false by simpa using List.all_eq_true.1 hall t hm)⟩)
    (by kernel_rfl)
end Go.Proofs.YtnnhnihgeheahaaGreatDoor
