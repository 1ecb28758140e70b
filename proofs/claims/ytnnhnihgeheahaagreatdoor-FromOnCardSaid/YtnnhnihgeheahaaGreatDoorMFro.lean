/- Alv, LawF, FroProof, in one text. -/
import Derived.Test.YtnnhnihgeheahaaGreatDoorMLoc
import Derived.Test.YtnnhnihgeheahaaGreatDoorMRun
import Derived.Test.YtnnhnihgeheahaaGreatDoorRefN
import Derived.Test.YtnnhnihgeheahaaGreatDoorRows
import Derived.Test.YtnnhnihgeheahaaGreatDoorTie
import Derived.Test.YtnnhnihgeheahaaGreatDoorCards
import Derived.Test.YtnnhnihgeheahaaGreatDoorRunLaid
import Derived.ProofKit
import Derived.LaidMore
import Derived.OpenShut
import Derived.Stop.Joined
import Derived.Stop.LaidErr
import Derived.MakeChecks
import Derived.SevenTiedAt
/- What the laws ask first: the document's own examples. -/
set_option linter.unusedSimpArgs false
set_option linter.unusedVariables false
namespace Go.Proofs.YtnnhnihgeheahaaGreatDoor
open Go.RowKit

def berS : ByteArray := ⟨#[43, 48, 49, 58, 48, 48, 32, 54, 48, 32, 51, 46, 53, 46, 48, 64, 48, 50, 58, 48, 48, 32, 49, 48, 46, 53, 46, 48, 64, 48, 51, 58, 48, 48]⟩
def berF : ByteArray := ⟨#[51, 48, 32, 50, 32, 42, 32, 42, 32, 42]⟩
def berZ : Zon := ⟨60, 60, ⟨3, 5, 0, 120⟩, ⟨10, 5, 0, 180⟩⟩
theorem ber_zone : pZone berS = .ok berZ := by rfl
theorem ber_fields : ∃ F, pFields berF = .ok F ∧ Cal.isSet F = true ∧ Cal.fitsTime F 150 = true ∧ Cal.dayOk F 2 28 24194 = true := ⟨_, rfl, rfl, rfl, rfl⟩
theorem ber_check : checkN berS berF = (0, 0) := by
  obtain ⟨F, hF, _⟩ := ber_fields
  unfold checkN
  rw [if_neg (by decide), ber_zone, hF]
theorem ber_is : Cal.Is 24194 66 2 28 := ⟨by kernel_rfl, of_decide_eq_true (by kernel_rfl), by decide⟩
theorem ber_yr : Cal.yr 24194 = 66 := Cal.yr_eq ber_is.year
theorem ber_s0 : Cal.summer berZ 29579160 = true := by
  unfold Cal.summer
  rw [if_neg (by decide), show (29579160 + 5260320 : Int).toNat / 1440 = 24194 from rfl, ber_yr]
  kernel_rfl
theorem ber_s1 : Cal.summer berZ 29579159 = false := by
  unfold Cal.summer
  rw [if_neg (by decide), show (29579159 + 5260320 : Int).toNat / 1440 = 24194 from rfl, ber_yr]
  kernel_rfl
theorem ber_shown : Cal.shown berZ 29579100 = (34839540 : Nat) - 5260320 := by
  unfold Cal.shown
  rw [show (29579100 + berZ.offset : Int) = 29579160 from rfl, ber_s0]
  rfl
theorem ber_told : told 34839540 66 2 28 = ⟨#[50, 48, 50, 54, 45, 48, 51, 45, 50, 57, 32, 48, 51, 58, 48, 48, 32, 48]⟩ := by rfl
theorem ber_runs {F : Fld} (h1 : Cal.isSet F = true) (h2 : Cal.fitsTime F 150 = true) (h3 : Cal.dayOk F 2 28 24194 = true) : Cal.Runs berZ F (29579100 + berZ.offset) := by
  refine .inr ⟨h1, .inl ⟨ber_s0, ber_s1, 29579190, by decide, by decide, ?_⟩⟩
  unfold Cal.fits
  rw [show (29579190 + 5260320 : Int).toNat % 1440 = 150 from rfl, show (29579190 + 5260320 : Int).toNat / 1440 = 24194 from rfl, h2, Cal.fitsDay_eq ber_is, h3]
  rfl

set_option maxHeartbeats 400000 in
theorem law_known (n : Int) (b : Bool) (hb : b = (n == 0)) (w : World) : Calls Tryz.prog 25 #[.int .i64 n] w fun e w' => e = .returned (.bool b) ∧ w' = w := by
  subst hb
  go_enter Tryz.func25, Tryz.ntmps25
  go_wp2_with (go_at_call 16; refine (law_num _ _).mono ?_; rintro e w6 ⟨rfl, hw⟩; rw [hw]; clear hw)
  go_ret
  exact ⟨rfl, rfl⟩

set_option maxRecDepth 4000 in
set_option maxHeartbeats 4000000 in
theorem law_alive (w : World) (hE : Errs w) (hT : Tab w) (hM : Months w) (hB : Bruijn w) (hP : Pow w) : Calls Tryz.prog 22 #[] w fun e w' => e = .returned (.bool true) ∧ Only [] w w' := by
  have HE := hide hE
  have HT := hide hT
  have HM := hide hM
  have HB := hide hB
  have HP := hide hP
  have hrn : runN berS berF 29579100 = 0 := by unfold runN; rw [ber_check]; rfl
  have hrun : ∀ w', Calls Tryz.prog 19 #[.string berS, .string berF, .int .i64 29579100] w' (RunsSaid berS berF 29579100 w') → Calls Tryz.prog 19 #[.string berS, .string berF, .int .i64 29579100] w' fun e w'' => e = .returned (.tuple #[.bool true, .int .i64 0]) ∧ Only [] w' w'' := by
    intro w' h
    refine h.mono ?_
    rintro e w'' ⟨ho, b, rfl, _, hb⟩
    obtain ⟨zn, F, h1, h2, h3⟩ := hb hrn
    obtain ⟨F', g1, g2, g3, g4⟩ := ber_fields
    obtain rfl : zn = berZ := Except.ok.inj (h1.symm.trans ber_zone)
    obtain rfl : F = F' := Except.ok.inj (h2.symm.trans g1)
    have hbt : b = true := h3.2 (ber_runs g2 g3 g4)
    subst hbt
    rw [hrn]
    exact ⟨rfl, ho⟩
  have HRUN := hide hrun
  clear hE hT hM hB hP hrn hrun
  have hz : berS.size ≤ 100 := by decide
  have hf : berF.size ≤ 100 := by decide
  unfold berS berF at HRUN
  go_enter Tryz.func22, Tryz.ntmps22
  go_wp2_with (first
    | (go_at_call 13
       refine (c_Local_ok berS 29579100 berZ 34839540 66 2 28 _ hz (unhide HE) (unhide HM) (unhide HP) ber_zone (by decide) (by decide) ber_shown ber_is).mono ?_
       rintro e w1 ⟨rfl, ho1⟩
       rw [ber_told]
       have HO1 := hide ho1
       clear ho1)
    | (go_at_call 19
       refine (unhide HRUN _ (c_Runs berS berF 29579100 _ (by omega) (by omega) ((unhide HE).only (unhide HO1) (by simp) (by simp)) ((unhide HT).only (unhide HO1) (by simp)) ((unhide HM).only (unhide HO1) (by simp)) ((unhide HB).only (unhide HO1) (by simp)))).mono ?_
       rintro e w2 ⟨rfl, ho2⟩
       have HO2 := hide ((unhide HO1).trans ho2)
       clear ho2)
    | (go_at_call 25; refine (law_known 0 true rfl _).mono ?_; rintro e w6 ⟨rfl, hw⟩; rw [hw]; clear hw))
  all_goals
    go_ret
    exact ⟨rfl, unhide HO2⟩
end Go.Proofs.YtnnhnihgeheahaaGreatDoor

/- FromOn, as a law over the contracts. -/
set_option linter.unusedSimpArgs false
set_option linter.unusedVariables false
namespace Go.Proofs.YtnnhnihgeheahaaGreatDoor
open Go.RowKit

set_option maxHeartbeats 400000 in
theorem law_within3 (t : Int) (b : Bool) (hb : b = (decide (0 ≤ t) && decide (t ≤ 70000000))) (w : World) : Calls Tryz.prog 15 #[.int .i64 t] w fun e w' => e = .returned (.bool b) ∧ w' = w := by
  by_cases h1 : 0 ≤ t <;> by_cases h2 : t ≤ 70000000
  all_goals
    have HB := hide hb
    clear hb
    go_enter Tryz.func15, Tryz.ntmps15
    go_wp2
    go_ret
    exact ⟨ret_bool (by rw [unhide HB]; simp [h1, h2]), rfl⟩

def LawSaidF (w : World) (e : Ending) (w' : World) : Prop := e = .returned (.bool true) ∧ Below w.heap.size w w'

/-- What holds throughout. -/
structure Laid (w : World) : Prop where
  e : Errs w
  t : Tab w
  m : Months w
  b : Bruijn w
  p : Pow w
theorem Laid.only {w w' : World} (h : Laid w) (k : Only [] w w') : Laid w' := ⟨h.e.only k (by simp) (by simp), h.t.only k (by simp), h.m.only k (by simp), h.b.only k (by simp), h.p.only k⟩

set_option maxRecDepth 8000 in
set_option maxHeartbeats 4000000 in
theorem law_FromOn_err (z f : ByteArray) (m : Int) (w : World) (hz : z.size ≤ 281474976710656) (hf : f.size ≤ 281474976710656) (hL : Laid w) (n0 p0 r0 : Nat) (hc : checkN z f = (n0, p0)) (hr : runN z f m = r0) (hr0 : r0 ≠ 0) (hn : (n0 ≠ 0 ∧ r0 = n0) ∨ (n0 = 0 ∧ r0 = 4 ∧ false = (decide (0 ≤ m) && decide (m ≤ 70000000)))) :
    Calls Tryz.prog 8 #[.string z, .string f, .int .i64 m] w (LawSaidF w) := by
  have HL := hide hL
  have HC := hide hc
  have HR := hide hr
  clear hL hc hr
  rcases hn with ⟨h1, rfl⟩ | ⟨rfl, rfl, h3⟩
  · have hri : ((r0 : Int) != 0) = true := by rw [bne_iff_ne]; omega
    have hre : ((r0 : Int) == r0) = true := by simp
    have hrn : ((r0 : Int) != r0) = false := by simp
    go_enter Tryz.func8, Tryz.ntmps8
    go_wp2_with (first
      | (go_at_call 22
         refine (law_alive _ (unhide HL).e (unhide HL).t (unhide HL).m (unhide HL).b (unhide HL).p).mono ?_
         rintro e w1 ⟨rfl, ho1⟩
         have HO1 := hide ho1
         have HL1 := hide ((unhide HL).only ho1)
         clear ho1)
      | (go_at_call 28
         refine (c_Next z f m _ hz hf (unhide HL1).e (unhide HL1).t (unhide HL1).m (unhide HL1).b).mono ?_
         rintro e w2 ⟨ho2, x, n, rfl, hb, _⟩
         obtain ⟨rfl, hn⟩ := hb (by rw [unhide HR]; exact hr0)
         rw [unhide HR] at hn
         subst hn
         have HO2 := hide ((unhide HO1).trans ho2)
         have HL2 := hide ((unhide HL1).only ho2)
         clear ho2 hb)
      | (go_at_call 19
         refine (c_Runs z f m _ hz hf (unhide HL2).e (unhide HL2).t (unhide HL2).m (unhide HL2).b).mono ?_
         rintro e w3 ⟨ho3, b, rfl, hb, _⟩
         have hb0 : b = false := hb (by rw [unhide HR]; exact hr0)
         subst hb0
         rw [unhide HR]
         have HO3 := hide ((unhide HO2).trans ho3)
         clear ho3 hb)
      | (go_at_call 14
         refine (ref_Check z f _ hz hf).mono ?_
         rintro e w4 ⟨hb4, rfl⟩
         rw [unhide HC]
         have HO4 := hide ((unhide HO3).trans (Only.of_below [] hb4))
         clear hb4)
      | (go_at_call 16; refine (law_num _ _).mono ?_; rintro e w6 ⟨rfl, hw⟩; rw [hw]; clear hw))
    go_ret
    exact ⟨ret_bool (by simp), Only.below (unhide HO4) (Nat.le_refl _) (by simp)⟩
  · have HW := hide h3
    clear h3
    go_enter Tryz.func8, Tryz.ntmps8
    go_wp2_with (first
      | (go_at_call 22
         refine (law_alive _ (unhide HL).e (unhide HL).t (unhide HL).m (unhide HL).b (unhide HL).p).mono ?_
         rintro e w1 ⟨rfl, ho1⟩
         have HO1 := hide ho1
         have HL1 := hide ((unhide HL).only ho1)
         clear ho1)
      | (go_at_call 28
         refine (c_Next z f m _ hz hf (unhide HL1).e (unhide HL1).t (unhide HL1).m (unhide HL1).b).mono ?_
         rintro e w2 ⟨ho2, x, n, rfl, hb, _⟩
         obtain ⟨rfl, hn⟩ := hb (by rw [unhide HR]; exact hr0)
         rw [unhide HR] at hn
         subst hn
         have HO2 := hide ((unhide HO1).trans ho2)
         have HL2 := hide ((unhide HL1).only ho2)
         clear ho2 hb)
      | (go_at_call 19
         refine (c_Runs z f m _ hz hf (unhide HL2).e (unhide HL2).t (unhide HL2).m (unhide HL2).b).mono ?_
         rintro e w3 ⟨ho3, b, rfl, hb, _⟩
         have hb0 : b = false := hb (by rw [unhide HR]; exact hr0)
         subst hb0
         rw [unhide HR]
         have HO3 := hide ((unhide HO2).trans ho3)
         clear ho3 hb)
      | (go_at_call 14
         refine (ref_Check z f _ hz hf).mono ?_
         rintro e w4 ⟨hb4, rfl⟩
         rw [unhide HC]
         have HO4 := hide ((unhide HO3).trans (Only.of_below [] hb4))
         clear hb4)
      | (go_at_call 15; refine (law_within3 m false (unhide HW) _).mono ?_; rintro e w5 ⟨rfl, hw⟩; rw [hw]; clear hw)
      | (go_at_call 16; refine (law_num _ _).mono ?_; rintro e w6 ⟨rfl, hw⟩; rw [hw]; clear hw))
    go_ret
    exact ⟨ret_bool (by simp), Only.below (unhide HO4) (Nat.le_refl _) (by simp)⟩

/-- What Next says of a job. -/
def NX (R : Int → Prop) (m x : Int) (n : Nat) : Prop := (n = 0 ∧ Cal.First R m 70000001 x true) ∨ (n = 5 ∧ x = 0 ∧ Cal.First R m 70000001 0 false)
theorem NX.here {R : Int → Prop} {m x : Int} {n : Nat} (h : NX R m x n) (hm : m ≤ 70000000) (hr : R m) : n = 0 ∧ x = m := by
  rcases h with ⟨h1, h2⟩ | ⟨_, _, h2⟩
  · obtain ⟨g1, g2, g3, g4⟩ := h2.1 rfl
    refine ⟨h1, ?_⟩
    rcases Int.lt_or_le m x with h | h
    · exact absurd hr (g4 m (Int.le_refl _) h)
    · omega
  · exact absurd hr (h2.none m (Int.le_refl _) (by omega))
theorem NX.end {R : Int → Prop} {x : Int} {n : Nat} (h : NX R 70000000 x n) (hr : ¬ R 70000000) : n = 5 ∧ x = 0 := by
  rcases h with ⟨h1, h2⟩ | ⟨h1, h3, h2⟩
  · obtain ⟨g1, g2, g3, g4⟩ := h2.1 rfl
    rw [show x = 70000000 by omega] at g3
    exact absurd g3 hr
  · exact ⟨h1, h3⟩
theorem NX.on {R : Int → Prop} {m x y : Int} {n k : Nat} (h : NX R m x n) (g : NX R (m + 1) y k) (hr : ¬ R m) : y = x ∧ k = n := by
  rcases h with ⟨h1, h2⟩ | ⟨h1, h3, h2⟩ <;> rcases g with ⟨g1, g2⟩ | ⟨g1, g3, g2⟩
  · obtain ⟨a1, a2, a3, a4⟩ := h2.1 rfl
    obtain ⟨b1, b2, b3, b4⟩ := g2.1 rfl
    have hxm : x ≠ m := fun e => hr (e ▸ a3)
    refine ⟨?_, by omega⟩
    rcases Int.lt_trichotomy x y with c | c | c
    · exact absurd a3 (b4 x (by omega) c)
    · exact c.symm
    · exact absurd b3 (a4 y (by omega) c)
  · obtain ⟨a1, a2, a3, a4⟩ := h2.1 rfl
    have hxm : x ≠ m := fun e => hr (e ▸ a3)
    exact absurd a3 (g2.none x (by omega) a2)
  · obtain ⟨b1, b2, b3, b4⟩ := g2.1 rfl
    exact absurd b3 (h2.none y (by omega) b2)
  · exact ⟨by omega, by omega⟩
theorem run_ok {z f : ByteArray} {m : Int} (h : runN z f m = 0) : (∃ p, checkN z f = (0, p)) ∧ (0 ≤ m ∧ m ≤ 70000000) ∧ ∀ k : Int, 0 ≤ k → k ≤ 70000000 → runN z f k = 0 := by
  unfold runN at h
  split at h
  · rename_i hn; exact absurd h hn
  · rename_i hn
    split at h
    · cases h
    · have h0 : (checkN z f).1 = 0 := by omega
      refine ⟨⟨(checkN z f).2, Prod.ext h0 rfl⟩, by omega, fun k h1 h2 => ?_⟩
      unfold runN
      rw [if_neg hn, if_neg (by omega)]
theorem next_R {z f : ByteArray} {m : Int} {zn : Zon} {F : Fld} (hz : z.size ≤ 281474976710656) (hf : f.size ≤ 281474976710656) (hr : runN z f m = 0) (hzn : pZone z = .ok zn) (hFn : pFields f = .ok F) (w : World) (hL : Laid w) :
    Calls Tryz.prog 28 #[.string z, .string f, .int .i64 m] w fun e w' => (∃ (x : Int) (n : Nat), e = .returned (.tuple #[.int .i64 x, .int .i64 (n : Int)]) ∧ NX (fun k => Cal.Runs zn F (k + zn.offset)) m x n) ∧ Only [] w w' := by
  refine (c_Next z f m w hz hf hL.e hL.t hL.m hL.b).mono ?_
  rintro e w' ⟨ho, x, n, rfl, _, hb⟩
  obtain ⟨zn1, F1, h1, h2, h3⟩ := hb hr
  obtain rfl : zn1 = zn := Except.ok.inj (h1.symm.trans hzn)
  obtain rfl : F1 = F := Except.ok.inj (h2.symm.trans hFn)
  exact ⟨⟨x, n, rfl, h3⟩, ho⟩
theorem runs_R {z f : ByteArray} {m : Int} {zn : Zon} {F : Fld} (hz : z.size ≤ 281474976710656) (hf : f.size ≤ 281474976710656) (hr : runN z f m = 0) (hzn : pZone z = .ok zn) (hFn : pFields f = .ok F) (w : World) (hL : Laid w) :
    Calls Tryz.prog 19 #[.string z, .string f, .int .i64 m] w fun e w' => (∃ b : Bool, e = .returned (.tuple #[.bool b, .int .i64 0]) ∧ (b = true ↔ Cal.Runs zn F (m + zn.offset))) ∧ Only [] w w' := by
  refine (c_Runs z f m w hz hf hL.e hL.t hL.m hL.b).mono ?_
  rintro e w' ⟨ho, b, rfl, _, hb⟩
  obtain ⟨zn1, F1, h1, h2, h3⟩ := hb hr
  obtain rfl : zn1 = zn := Except.ok.inj (h1.symm.trans hzn)
  obtain rfl : F1 = F := Except.ok.inj (h2.symm.trans hFn)
  rw [hr]
  exact ⟨⟨b, rfl, h3⟩, ho⟩

set_option maxRecDepth 8000 in
set_option maxHeartbeats 4000000 in
theorem law_FromOn_ok (z f : ByteArray) (m : Int) (w : World) (hz : z.size ≤ 281474976710656) (hf : f.size ≤ 281474976710656) (hL : Laid w) (hr : runN z f m = 0) (zn : Zon) (F : Fld) (hzn : pZone z = .ok zn) (hFn : pFields f = .ok F) :
    Calls Tryz.prog 8 #[.string z, .string f, .int .i64 m] w (LawSaidF w) := by
  obtain ⟨⟨p0, hc⟩, ⟨hm1, hm2⟩, hall⟩ := run_ok hr
  have hw : true = (decide (0 ≤ m) && decide (m ≤ 70000000)) := by simp; omega
  have HL := hide hL
  have HC := hide hc
  have HW := hide hw
  have HNX1 := hide (fun w hL => next_R hz hf hr hzn hFn w hL)
  have HRN := hide (fun w hL => runs_R hz hf hr hzn hFn w hL)
  by_cases hmx : m = 70000000
  · subst hmx
    have hmi : ((70000000 : Int) == 70000000) = true := by rfl
    clear hL hc hr hw hzn hFn hall hm1 hm2
    go_enter Tryz.func8, Tryz.ntmps8
    go_wp2_with (first
      | (go_at_call 22
         refine (law_alive _ (unhide HL).e (unhide HL).t (unhide HL).m (unhide HL).b (unhide HL).p).mono ?_
         rintro e w1 ⟨rfl, ho1⟩
         have HO1 := hide ho1
         have HL1 := hide ((unhide HL).only ho1)
         clear ho1)
      | (go_at_call 28
         refine (unhide HNX1 _ (unhide HL1)).mono ?_
         rintro e w2 ⟨⟨x, n, rfl, hx⟩, ho2⟩
         have HX := hide hx
         have HO2 := hide ((unhide HO1).trans ho2)
         have HL2 := hide ((unhide HL1).only ho2)
         clear ho2 hx HL1)
      | (go_at_call 19
         refine (unhide HRN _ (unhide HL2)).mono ?_
         rintro e w3 ⟨⟨b, rfl, hb⟩, ho3⟩
         have HO3 := hide ((unhide HO2).trans ho3)
         have HL3 := hide ((unhide HL2).only ho3)
         have hcase : (b = false ∧ n = 5 ∧ x = 0) ∨ (b = true ∧ n = 0 ∧ x = 70000000) := by
           cases b
           · obtain ⟨h1, h2⟩ := NX.end (unhide HX) (fun h => Bool.false_ne_true (hb.2 h))
             exact .inl ⟨rfl, h1, h2⟩
           · obtain ⟨h1, h2⟩ := NX.here (unhide HX) (by omega) (hb.1 rfl)
             exact .inr ⟨rfl, h1, h2⟩
         clear hb ho3 HL2 HX
         rcases hcase with ⟨rfl, rfl, rfl⟩ | ⟨rfl, rfl, rfl⟩)
      | (go_at_call 14
         refine (ref_Check z f _ hz hf).mono ?_
         rintro e w4 ⟨hb4, rfl⟩
         rw [unhide HC]
         have HO4 := hide ((unhide HO3).trans (Only.of_below [] hb4))
         have HL4 := hide ((unhide HL3).only (Only.of_below [] hb4))
         clear hb4)
      | (go_at_call 15; refine (law_within3 70000000 true (unhide HW) _).mono ?_; rintro e w5 ⟨rfl, hw⟩; rw [hw]; clear hw)
      | (go_at_call 25; refine (law_known 0 true rfl _).mono ?_; rintro e w6 ⟨rfl, hw⟩; rw [hw]; clear hw)
      | (go_at_call 16; refine (law_num _ _).mono ?_; rintro e w6 ⟨rfl, hw⟩; rw [hw]; clear hw))
    all_goals
      go_ret
      exact ⟨ret_bool (by simp), Only.below (unhide HO4) (Nat.le_refl _) (by simp)⟩
  · have hmi : (m == 70000000) = false := by rw [beq_eq_false_iff_ne]; exact hmx
    have HNX2 := hide (fun w hL => next_R hz hf (hall (m + 1) (by omega) (by omega)) hzn hFn w hL)
    clear hL hc hr hw hzn hFn hall
    go_enter Tryz.func8, Tryz.ntmps8
    go_wp2_with (first
      | (go_at_call 22
         refine (law_alive _ (unhide HL).e (unhide HL).t (unhide HL).m (unhide HL).b (unhide HL).p).mono ?_
         rintro e w1 ⟨rfl, ho1⟩
         have HO1 := hide ho1
         have HL1 := hide ((unhide HL).only ho1)
         clear ho1)
      | (go_at_call 28
         refine (unhide HNX1 _ (unhide HL1)).mono ?_
         rintro e w2 ⟨⟨x, n, rfl, hx⟩, ho2⟩
         have HX := hide hx
         have HO2 := hide ((unhide HO1).trans ho2)
         have HL2 := hide ((unhide HL1).only ho2)
         clear ho2 hx HL1)
      | (go_at_call 19
         refine (unhide HRN _ (unhide HL2)).mono ?_
         rintro e w3 ⟨⟨b, rfl, hb⟩, ho3⟩
         have HO3 := hide ((unhide HO2).trans ho3)
         have HL3 := hide ((unhide HL2).only ho3)
         have hcase : (b = true ∧ n = 0 ∧ x = m) ∨ (b = false ∧ Hid (¬ Cal.Runs zn F (m + zn.offset))) := by
           cases b
           · exact .inr ⟨rfl, fun h => Bool.false_ne_true (hb.2 h)⟩
           · obtain ⟨h1, h2⟩ := NX.here (unhide HX) hm2 (hb.1 rfl)
             exact .inl ⟨rfl, h1, h2⟩
         clear hb ho3 HL2
         rcases hcase with ⟨rfl, rfl, rfl⟩ | ⟨rfl, HNR⟩)
      | (go_at_call 28
         refine (unhide HNX2 _ (unhide HL4)).mono ?_
         rintro e w7 ⟨⟨y, k, rfl, hy⟩, ho7⟩
         obtain ⟨h1, h2⟩ := NX.on (unhide HX) hy (unhide HNR)
         subst h1 h2
         have HO7 := hide ((unhide HO4).trans ho7)
         clear ho7 hy HX)
      | (go_at_call 14
         refine (ref_Check z f _ hz hf).mono ?_
         rintro e w4 ⟨hb4, rfl⟩
         rw [unhide HC]
         have HO4 := hide ((unhide HO3).trans (Only.of_below [] hb4))
         have HL4 := hide ((unhide HL3).only (Only.of_below [] hb4))
         clear hb4)
      | (go_at_call 15; refine (law_within3 _ true (unhide HW) _).mono ?_; rintro e w5 ⟨rfl, hw⟩; rw [hw]; clear hw)
      | (go_at_call 25; refine (law_known 0 true rfl _).mono ?_; rintro e w6 ⟨rfl, hw⟩; rw [hw]; clear hw)
      | (go_at_call 16; refine (law_num _ _).mono ?_; rintro e w6 ⟨rfl, hw⟩; rw [hw]; clear hw))
    all_goals
      go_ret
      first
        | exact ⟨ret_bool (by simp), Only.below (unhide HO7) (Nat.le_refl _) (by simp)⟩
        | exact ⟨ret_bool (by simp), Only.below (unhide HO4) (Nat.le_refl _) (by simp)⟩

theorem checkN_ok3 {z f : ByteArray} {p : Nat} (h : checkN z f = (0, p)) : ∃ zn F, pZone z = .ok zn ∧ pFields f = .ok F := by
  unfold checkN at h
  split at h
  · cases h
  · cases h1 : pZone z with
    | error q => rw [h1] at h; cases h
    | ok zn =>
      cases h2 : pFields f with
      | error q => rw [h1, h2] at h; cases h
      | ok F => exact ⟨zn, F, rfl, rfl⟩

theorem law_FromOn (z f : ByteArray) (m : Int) (w : World) (hz : z.size ≤ 281474976710656) (hf : f.size ≤ 281474976710656) (hL : Laid w) : Calls Tryz.prog 8 #[.string z, .string f, .int .i64 m] w (LawSaidF w) := by
  obtain ⟨n0, p0, hc⟩ : ∃ n0 p0, checkN z f = (n0, p0) := ⟨_, _, rfl⟩
  have hN : runN z f m = if n0 ≠ 0 then n0 else if m < 0 ∨ 70000000 < m then 4 else 0 := by unfold runN; rw [hc]
  by_cases h0 : n0 = 0
  · subst h0
    by_cases hr : 0 ≤ m ∧ m ≤ 70000000
    · obtain ⟨zn, F, h1, h2⟩ := checkN_ok3 hc
      exact law_FromOn_ok z f m w hz hf hL (by rw [hN, if_neg (by omega), if_neg (by omega)]) zn F h1 h2
    · exact law_FromOn_err z f m w hz hf hL 0 p0 4 hc (by rw [hN, if_neg (by omega), if_pos (by omega)]) (by omega) (.inr ⟨rfl, rfl, by rw [eq_comm]; simp only [Bool.and_eq_false_iff, decide_eq_false_iff_not]; omega⟩)
  · exact law_FromOn_err z f m w hz hf hL n0 p0 n0 hc (by rw [hN, if_pos h0]) h0 (.inl ⟨h0, rfl⟩)
end Go.Proofs.YtnnhnihgeheahaaGreatDoor

/- FromOn: the law out of the contracts, the row, the card. -/
set_option linter.unusedSimpArgs false
set_option linter.unusedVariables false
namespace Go.Proofs.YtnnhnihgeheahaaGreatDoor
open Go.ChangeShapes Go.WideShapes Go.ChangeAt Go.WideMaps Go.WideElems Go.RowKit
open Go.ChangeMaps (open_string shut_string)

theorem tPow : (Tryz.prog.globals[2]?).map (·.type) = some 243 := by kernel_rfl
theorem pow_of {W : World} (h : laidMetH Tryz.prog laidAll W) : Pow W := by
  rw [MakeChecks.laidMetH_plain _ _ _ (by kernel_rfl)] at h
  have h2 : laidMet Tryz.prog [("internal/strconv.uint64pow10", Lib.tabData .u64 Lib.pow10Tab), ("strconv.ErrRange", Rows.laid_strconv_ErrRange), ("strconv.ErrSyntax", Rows.laid_strconv_ErrSyntax), ("tock/tock.monthLengths", Rows.laid_tock_tock_monthLengths), ("tock/tock.fieldBounds", Rows.laid_tock_tock_fieldBounds)] W := h.tail.tail
  exact Lib.tabIs_of_head gPow tPow Tryz.underlying243 Tryz.underlying97 (by kernel_rfl) (by kernel_rfl) h2

set_option maxRecDepth 100000 in
theorem lifted (os : Os) (started : os.Started) (H : Type) (enc : TypeId × Value → H) :
    ReturnsInHanded {} Tryz.checked os 8 .any (fun w args => (Rows.fromOnSpec.pre enc Tryz.prog Tryz.f8 [] false w args ∧ laidMetH Tryz.prog laidAll w) ∧ sizedMet enc Tryz.prog Tryz.f8 (OpenSpec.ofChange Rows.fromOnSpec) false w args)
      (Rows.fromOnSpec.post enc Tryz.prog Tryz.f8 false true false false) := by
  refine returnsInHanded_of_change_and (C := Tryz.checked) (X := fun w _ => laidMetH Tryz.prog laidAll w) (fun _ _ _ hh h => h.of_heap hh) own started (by kernel_rfl) Tryz.func8
    (ChangeSpec.witness_shaped (enc := enc) (C := Tryz.checked) (os := os) (X := fun w _ => laidMetH Tryz.prog laidAll w) false (World.doorLaid Tryz.prog 400 os) #[.string ⟨#[]⟩, .string ⟨#[]⟩, .int .i64 0] 8 rfl (World.shaped_of_RefB (by kernel_rfl) (by kernel_rfl)) (by kernel_rfl) (by kernel_rfl) (by kernel_rfl) (door_met os _)) ?_
  intro W base args ds gs before hval0 hW _ hsz0 hL _
  have hsz : (DataW.weightsEach Tryz.prog (Tryz.f8.params.toList ++ Rows.fromOnSpec.plain.varTypes Tryz.prog) (ds ++ gs)).all (· ≤ reachBytes) = true := hsz0
  clear hsz0
  have hval : ∀ (j : Nat) t v, Tryz.f8.params[j]? = some t → args[j]? = some v → Value.okWide Tryz.prog W .any base t v := hval0
  have hW' := hW
  obtain ⟨p, q, hA0, hV, rfl, _, _⟩ := hW
  have hA : DataW.TrodAll enc Tryz.prog W 0 (fun _ => true) true Tryz.f8.params.toList args.toList ds p := hA0
  rw [Tryz.params8] at hA hval hsz
  obtain ⟨v0, v1, v2, d0, d1, d2, p0, p1, p2, rfl, rfl, rfl, h0, h1, h2⟩ := trodAll_three hA
  obtain ⟨rfl, rfl⟩ := trodVars_none hV
  obtain ⟨z, rfl, rfl, rfl, hz⟩ := open_string Tryz.underlying9 (hval 0 9 v0 rfl rfl) h0
  obtain ⟨f, rfl, rfl, rfl, hf⟩ := open_string Tryz.underlying9 (hval 1 9 v1 rfl rfl) h1
  obtain ⟨m, rfl, rfl, rfl, hm⟩ := open_int Tryz.underlying3 (hval 2 3 v2 rfl rfl) h2
  clear hA0 hval0
  simp only [List.append_nil] at hW'
  have e3 : (2 : Nat) ^ 47 = 140737488355328 := by decide
  have h2 := reachBytes_lt
  have hlz : z.size ≤ 281474976710656 := by
    have h1 := sized_string hsz (j := 0) (t := 9) rfl rfl
    have e2 : z.data.toList.length = z.size := by simp
    omega
  have hlf : f.size ≤ 281474976710656 := by
    have h1 := sized_string hsz (j := 1) (t := 9) rfl rfl
    have e2 : f.data.toList.length = f.size := by simp
    omega
  obtain ⟨hE, hT, hM, hB⟩ := of_laid hL
  refine (law_FromOn z f m W hlz hlf ⟨hE, hT, hM, hB, pow_of hL⟩).mono fun e W' ⟨he, hnx⟩ => ?_
  subst he
  refine ⟨_, rfl, _, _, _, [], [], [], hW', ?_, ?_, rfl, hnx.frame _, fun h => by cases h⟩
  · exact trodAll_mk1 (shut_bool Tryz.underlying4 _)
  · exact trodAll_mk3 (shut_string Tryz.underlying9 hz) (shut_string Tryz.underlying9 hf) (shut_int Tryz.underlying3 hm)

theorem fromOn_row : Rows.FromOnSaid :=
  OpenClaim.holds_of_wide 8 Tryz.f8 rfl rfl rfl rfl rfl rfl rfl ⟨rfl, rfl, rfl, rfl, rfl⟩ rfl rfl rfl rfl rfl (by kernel_rfl) Tryz.func8 (by kernel_rfl)
    (of_decide_eq_true (by kernel_rfl)) (by unfold Func.isWrapper; rw [if_neg (of_decide_eq_false (by kernel_rfl))]; exact ⟨rfl, rfl⟩)
    (fun os started H enc _ => lifted os started H enc)

theorem fromOn_card : Rows.FromOnCardSaid :=
  Claim7.holds_tied_plain_at .later [] [.data, .data, .data, .sentinel, .sentinel, .data, .data] true Rows.fromOnCard.stood.harness true
    fromOn_row (fun _ h => by cases h) (by kernel_rfl) (fun _ h => by cases h) fromOn_row_tie rfl ⟨rfl, rfl⟩ (by kernel_rfl) rfl
    (fun f fn hf hfn => by
      obtain rfl : f = 8 := Option.some.inj ((show Tryz.prog.funcNamed "tock/tocklaw.FromOn" = some 8 by kernel_rfl).symm.trans hf) |>.symm
      obtain rfl : fn = Tryz.f8 := (Option.some.inj (Tryz.func8.symm.trans hfn)).symm
      exact ⟨by kernel_rfl, fun j t ht => by
        rw [Tryz.params8] at ht
        have hm : t ∈ [9, 9, 3] := by simpa using Array.mem_of_getElem? ht
        have hall : ([9, 9, 3].all fun u => !Tryz.prog.wantsStandIn u) = true := by kernel_rfl
        exact (show Tryz.prog.wantsStandIn t = false by simpa using List.all_eq_true.1 hall t hm)⟩)
    (by kernel_rfl)
end Go.Proofs.YtnnhnihgeheahaaGreatDoor
