/- Alv, LawF, LawO, OncA, OncP, OncT, OncF, OncL, OncProof, in one text. -/
import Derived.Test.YtnnhnihgeheahaaGreatDoorMLoc
import Derived.Test.YtnnhnihgeheahaaGreatDoorMRun
import Derived.Test.YtnnhnihgeheahaaGreatDoorRefN
import Derived.Test.YtnnhnihgeheahaaGreatDoorMStr
import Derived.Test.YtnnhnihgeheahaaGreatDoorClkA
import Derived.Test.YtnnhnihgeheahaaGreatDoorRows
import Derived.Test.YtnnhnihgeheahaaGreatDoorTie
import Derived.Test.YtnnhnihgeheahaaGreatDoorCards
import Derived.Test.YtnnhnihgeheahaaGreatDoorRunLaid
import Derived.ProofKit
import Derived.Carry
import Derived.LaidMore
import Derived.OpenShut
import Derived.Stop.Joined
import Derived.Stop.LaidErr
import Derived.MakeChecks
import Derived.SevenTiedAt
/- What the laws ask first: the document's own examples. -/
set_option linter.unusedSimpArgs false
set_option linter.unusedVariables false
namespace Go.Proofs.YtnnhnihgeheahaaGreatDoor
open Go.RowKit

def berS : ByteArray := ⟨#[43, 48, 49, 58, 48, 48, 32, 54, 48, 32, 51, 46, 53, 46, 48, 64, 48, 50, 58, 48, 48, 32, 49, 48, 46, 53, 46, 48, 64, 48, 51, 58, 48, 48]⟩
def berF : ByteArray := ⟨#[51, 48, 32, 50, 32, 42, 32, 42, 32, 42]⟩
def berZ : Zon := ⟨60, 60, ⟨3, 5, 0, 120⟩, ⟨10, 5, 0, 180⟩⟩
theorem ber_zone : pZone berS = .ok berZ := by rfl
theorem ber_fields : ∃ F, pFields berF = .ok F ∧ Cal.isSet F = true ∧ Cal.fitsTime F 150 = true ∧ Cal.dayOk F 2 28 24194 = true := ⟨_, rfl, rfl, rfl, rfl⟩
theorem ber_check : checkN berS berF = (0, 0) := by
  obtain ⟨F, hF, _⟩ := ber_fields
  unfold checkN
  rw [if_neg (by decide), ber_zone, hF]
theorem ber_is : Cal.Is 24194 66 2 28 := ⟨by kernel_rfl, of_decide_eq_true (by kernel_rfl), by decide⟩
theorem ber_yr : Cal.yr 24194 = 66 := Cal.yr_eq ber_is.year
theorem ber_s0 : Cal.summer berZ 29579160 = true := by
  unfold Cal.summer
  rw [if_neg (by decide), show (29579160 + 5260320 : Int).toNat / 1440 = 24194 from rfl, ber_yr]
  kernel_rfl
theorem ber_s1 : Cal.summer berZ 29579159 = false := by
  unfold Cal.summer
  rw [if_neg (by decide), show (29579159 + 5260320 : Int).toNat / 1440 = 24194 from rfl, ber_yr]
  kernel_rfl
theorem ber_shown : Cal.shown berZ 29579100 = (34839540 : Nat) - 5260320 := by
  unfold Cal.shown
  rw [show (29579100 + berZ.offset : Int) = 29579160 from rfl, ber_s0]
  rfl
theorem ber_told : told 34839540 66 2 28 = ⟨#[50, 48, 50, 54, 45, 48, 51, 45, 50, 57, 32, 48, 51, 58, 48, 48, 32, 48]⟩ := by rfl
theorem ber_runs {F : Fld} (h1 : Cal.isSet F = true) (h2 : Cal.fitsTime F 150 = true) (h3 : Cal.dayOk F 2 28 24194 = true) : Cal.Runs berZ F (29579100 + berZ.offset) := by
  refine .inr ⟨h1, .inl ⟨ber_s0, ber_s1, 29579190, by decide, by decide, ?_⟩⟩
  unfold Cal.fits
  rw [show (29579190 + 5260320 : Int).toNat % 1440 = 150 from rfl, show (29579190 + 5260320 : Int).toNat / 1440 = 24194 from rfl, h2, Cal.fitsDay_eq ber_is, h3]
  rfl

set_option maxHeartbeats 400000 in
theorem law_known (n : Int) (b : Bool) (hb : b = (n == 0)) (w : World) : Calls Tryz.prog 25 #[.int .i64 n] w fun e w' => e = .returned (.bool b) ∧ w' = w := by
  subst hb
  go_enter Tryz.func25, Tryz.ntmps25
  go_wp2_with (go_at_call 16; refine (law_num _ _).mono ?_; rintro e w6 ⟨rfl, hw⟩; rw [hw]; clear hw)
  go_ret
  exact ⟨rfl, rfl⟩

set_option maxRecDepth 4000 in
set_option maxHeartbeats 4000000 in
theorem law_alive (w : World) (hE : Errs w) (hT : Tab w) (hM : Months w) (hB : Bruijn w) (hP : Pow w) : Calls Tryz.prog 22 #[] w fun e w' => e = .returned (.bool true) ∧ Only [] w w' := by
  have HE := hide hE
  have HT := hide hT
  have HM := hide hM
  have HB := hide hB
  have HP := hide hP
  have hrn : runN berS berF 29579100 = 0 := by unfold runN; rw [ber_check]; rfl
  have hrun : ∀ w', Calls Tryz.prog 19 #[.string berS, .string berF, .int .i64 29579100] w' (RunsSaid berS berF 29579100 w') → Calls Tryz.prog 19 #[.string berS, .string berF, .int .i64 29579100] w' fun e w'' => e = .returned (.tuple #[.bool true, .int .i64 0]) ∧ Only [] w' w'' := by
    intro w' h
    refine h.mono ?_
    rintro e w'' ⟨ho, b, rfl, _, hb⟩
    obtain ⟨zn, F, h1, h2, h3⟩ := hb hrn
    obtain ⟨F', g1, g2, g3, g4⟩ := ber_fields
    obtain rfl : zn = berZ := Except.ok.inj (h1.symm.trans ber_zone)
    obtain rfl : F = F' := Except.ok.inj (h2.symm.trans g1)
    have hbt : b = true := h3.2 (ber_runs g2 g3 g4)
    subst hbt
    rw [hrn]
    exact ⟨rfl, ho⟩
  have HRUN := hide hrun
  clear hE hT hM hB hP hrn hrun
  have hz : berS.size ≤ 100 := by decide
  have hf : berF.size ≤ 100 := by decide
  unfold berS berF at HRUN
  go_enter Tryz.func22, Tryz.ntmps22
  go_wp2_with (first
    | (go_at_call 13
       refine (c_Local_ok berS 29579100 berZ 34839540 66 2 28 _ hz (unhide HE) (unhide HM) (unhide HP) ber_zone (by decide) (by decide) ber_shown ber_is).mono ?_
       rintro e w1 ⟨rfl, ho1⟩
       rw [ber_told]
       have HO1 := hide ho1
       clear ho1)
    | (go_at_call 19
       refine (unhide HRUN _ (c_Runs berS berF 29579100 _ (by omega) (by omega) ((unhide HE).only (unhide HO1) (by simp) (by simp)) ((unhide HT).only (unhide HO1) (by simp)) ((unhide HM).only (unhide HO1) (by simp)) ((unhide HB).only (unhide HO1) (by simp)))).mono ?_
       rintro e w2 ⟨rfl, ho2⟩
       have HO2 := hide ((unhide HO1).trans ho2)
       clear ho2)
    | (go_at_call 25; refine (law_known 0 true rfl _).mono ?_; rintro e w6 ⟨rfl, hw⟩; rw [hw]; clear hw))
  all_goals
    go_ret
    exact ⟨rfl, unhide HO2⟩
end Go.Proofs.YtnnhnihgeheahaaGreatDoor

/- FromOn, as a law over the contracts. -/
set_option linter.unusedSimpArgs false
set_option linter.unusedVariables false
namespace Go.Proofs.YtnnhnihgeheahaaGreatDoor
open Go.RowKit

set_option maxHeartbeats 400000 in
theorem law_within3 (t : Int) (b : Bool) (hb : b = (decide (0 ≤ t) && decide (t ≤ 70000000))) (w : World) : Calls Tryz.prog 15 #[.int .i64 t] w fun e w' => e = .returned (.bool b) ∧ w' = w := by
  by_cases h1 : 0 ≤ t <;> by_cases h2 : t ≤ 70000000
  all_goals
    have HB := hide hb
    clear hb
    go_enter Tryz.func15, Tryz.ntmps15
    go_wp2
    go_ret
    exact ⟨ret_bool (by rw [unhide HB]; simp [h1, h2]), rfl⟩

def LawSaidF (w : World) (e : Ending) (w' : World) : Prop := e = .returned (.bool true) ∧ Below w.heap.size w w'

/-- What holds throughout. -/
structure Laid (w : World) : Prop where
  e : Errs w
  t : Tab w
  m : Months w
  b : Bruijn w
  p : Pow w
theorem Laid.only {w w' : World} (h : Laid w) (k : Only [] w w') : Laid w' := ⟨h.e.only k (by simp) (by simp), h.t.only k (by simp), h.m.only k (by simp), h.b.only k (by simp), h.p.only k⟩

set_option maxRecDepth 8000 in
set_option maxHeartbeats 4000000 in
theorem law_FromOn_err (z f : ByteArray) (m : Int) (w : World) (hz : z.size ≤ 281474976710656) (hf : f.size ≤ 281474976710656) (hL : Laid w) (n0 p0 r0 : Nat) (hc : checkN z f = (n0, p0)) (hr : runN z f m = r0) (hr0 : r0 ≠ 0) (hn : (n0 ≠ 0 ∧ r0 = n0) ∨ (n0 = 0 ∧ r0 = 4 ∧ false = (decide (0 ≤ m) && decide (m ≤ 70000000)))) :
    Calls Tryz.prog 8 #[.string z, .string f, .int .i64 m] w (LawSaidF w) := by
  have HL := hide hL
  have HC := hide hc
  have HR := hide hr
  clear hL hc hr
  rcases hn with ⟨h1, rfl⟩ | ⟨rfl, rfl, h3⟩
  · have hri : ((r0 : Int) != 0) = true := by rw [bne_iff_ne]; omega
    have hre : ((r0 : Int) == r0) = true := by simp
    have hrn : ((r0 : Int) != r0) = false := by simp
    go_enter Tryz.func8, Tryz.ntmps8
    go_wp2_with (first
      | (go_at_call 22
         refine (law_alive _ (unhide HL).e (unhide HL).t (unhide HL).m (unhide HL).b (unhide HL).p).mono ?_
         rintro e w1 ⟨rfl, ho1⟩
         have HO1 := hide ho1
         have HL1 := hide ((unhide HL).only ho1)
         clear ho1)
      | (go_at_call 28
         refine (c_Next z f m _ hz hf (unhide HL1).e (unhide HL1).t (unhide HL1).m (unhide HL1).b).mono ?_
         rintro e w2 ⟨ho2, x, n, rfl, hb, _⟩
         obtain ⟨rfl, hn⟩ := hb (by rw [unhide HR]; exact hr0)
         rw [unhide HR] at hn
         subst hn
         have HO2 := hide ((unhide HO1).trans ho2)
         have HL2 := hide ((unhide HL1).only ho2)
         clear ho2 hb)
      | (go_at_call 19
         refine (c_Runs z f m _ hz hf (unhide HL2).e (unhide HL2).t (unhide HL2).m (unhide HL2).b).mono ?_
         rintro e w3 ⟨ho3, b, rfl, hb, _⟩
         have hb0 : b = false := hb (by rw [unhide HR]; exact hr0)
         subst hb0
         rw [unhide HR]
         have HO3 := hide ((unhide HO2).trans ho3)
         clear ho3 hb)
      | (go_at_call 14
         refine (ref_Check z f _ hz hf).mono ?_
         rintro e w4 ⟨hb4, rfl⟩
         rw [unhide HC]
         have HO4 := hide ((unhide HO3).trans (Only.of_below [] hb4))
         clear hb4)
      | (go_at_call 16; refine (law_num _ _).mono ?_; rintro e w6 ⟨rfl, hw⟩; rw [hw]; clear hw))
    go_ret
    exact ⟨ret_bool (by simp), Only.below (unhide HO4) (Nat.le_refl _) (by simp)⟩
  · have HW := hide h3
    clear h3
    go_enter Tryz.func8, Tryz.ntmps8
    go_wp2_with (first
      | (go_at_call 22
         refine (law_alive _ (unhide HL).e (unhide HL).t (unhide HL).m (unhide HL).b (unhide HL).p).mono ?_
         rintro e w1 ⟨rfl, ho1⟩
         have HO1 := hide ho1
         have HL1 := hide ((unhide HL).only ho1)
         clear ho1)
      | (go_at_call 28
         refine (c_Next z f m _ hz hf (unhide HL1).e (unhide HL1).t (unhide HL1).m (unhide HL1).b).mono ?_
         rintro e w2 ⟨ho2, x, n, rfl, hb, _⟩
         obtain ⟨rfl, hn⟩ := hb (by rw [unhide HR]; exact hr0)
         rw [unhide HR] at hn
         subst hn
         have HO2 := hide ((unhide HO1).trans ho2)
         have HL2 := hide ((unhide HL1).only ho2)
         clear ho2 hb)
      | (go_at_call 19
         refine (c_Runs z f m _ hz hf (unhide HL2).e (unhide HL2).t (unhide HL2).m (unhide HL2).b).mono ?_
         rintro e w3 ⟨ho3, b, rfl, hb, _⟩
         have hb0 : b = false := hb (by rw [unhide HR]; exact hr0)
         subst hb0
         rw [unhide HR]
         have HO3 := hide ((unhide HO2).trans ho3)
         clear ho3 hb)
      | (go_at_call 14
         refine (ref_Check z f _ hz hf).mono ?_
         rintro e w4 ⟨hb4, rfl⟩
         rw [unhide HC]
         have HO4 := hide ((unhide HO3).trans (Only.of_below [] hb4))
         clear hb4)
      | (go_at_call 15; refine (law_within3 m false (unhide HW) _).mono ?_; rintro e w5 ⟨rfl, hw⟩; rw [hw]; clear hw)
      | (go_at_call 16; refine (law_num _ _).mono ?_; rintro e w6 ⟨rfl, hw⟩; rw [hw]; clear hw))
    go_ret
    exact ⟨ret_bool (by simp), Only.below (unhide HO4) (Nat.le_refl _) (by simp)⟩

/-- What Next says of a job. -/
def NX (R : Int → Prop) (m x : Int) (n : Nat) : Prop := (n = 0 ∧ Cal.First R m 70000001 x true) ∨ (n = 5 ∧ x = 0 ∧ Cal.First R m 70000001 0 false)
theorem NX.here {R : Int → Prop} {m x : Int} {n : Nat} (h : NX R m x n) (hm : m ≤ 70000000) (hr : R m) : n = 0 ∧ x = m := by
  rcases h with ⟨h1, h2⟩ | ⟨_, _, h2⟩
  · obtain ⟨g1, g2, g3, g4⟩ := h2.1 rfl
    refine ⟨h1, ?_⟩
    rcases Int.lt_or_le m x with h | h
    · exact absurd hr (g4 m (Int.le_refl _) h)
    · omega
  · exact absurd hr (h2.none m (Int.le_refl _) (by omega))
theorem NX.end {R : Int → Prop} {x : Int} {n : Nat} (h : NX R 70000000 x n) (hr : ¬ R 70000000) : n = 5 ∧ x = 0 := by
  rcases h with ⟨h1, h2⟩ | ⟨h1, h3, h2⟩
  · obtain ⟨g1, g2, g3, g4⟩ := h2.1 rfl
    rw [show x = 70000000 by omega] at g3
    exact absurd g3 hr
  · exact ⟨h1, h3⟩
theorem NX.on {R : Int → Prop} {m x y : Int} {n k : Nat} (h : NX R m x n) (g : NX R (m + 1) y k) (hr : ¬ R m) : y = x ∧ k = n := by
  rcases h with ⟨h1, h2⟩ | ⟨h1, h3, h2⟩ <;> rcases g with ⟨g1, g2⟩ | ⟨g1, g3, g2⟩
  · obtain ⟨a1, a2, a3, a4⟩ := h2.1 rfl
    obtain ⟨b1, b2, b3, b4⟩ := g2.1 rfl
    have hxm : x ≠ m := fun e => hr (e ▸ a3)
    refine ⟨?_, by omega⟩
    rcases Int.lt_trichotomy x y with c | c | c
    · exact absurd a3 (b4 x (by omega) c)
    · exact c.symm
    · exact absurd b3 (a4 y (by omega) c)
  · obtain ⟨a1, a2, a3, a4⟩ := h2.1 rfl
    have hxm : x ≠ m := fun e => hr (e ▸ a3)
    exact absurd a3 (g2.none x (by omega) a2)
  · obtain ⟨b1, b2, b3, b4⟩ := g2.1 rfl
    exact absurd b3 (h2.none y (by omega) b2)
  · exact ⟨by omega, by omega⟩
theorem run_ok {z f : ByteArray} {m : Int} (h : runN z f m = 0) : (∃ p, checkN z f = (0, p)) ∧ (0 ≤ m ∧ m ≤ 70000000) ∧ ∀ k : Int, 0 ≤ k → k ≤ 70000000 → runN z f k = 0 := by
  unfold runN at h
  split at h
  · rename_i hn; exact absurd h hn
  · rename_i hn
    split at h
    · cases h
    · have h0 : (checkN z f).1 = 0 := by omega
      refine ⟨⟨(checkN z f).2, Prod.ext h0 rfl⟩, by omega, fun k h1 h2 => ?_⟩
      unfold runN
      rw [if_neg hn, if_neg (by omega)]
theorem next_R {z f : ByteArray} {m : Int} {zn : Zon} {F : Fld} (hz : z.size ≤ 281474976710656) (hf : f.size ≤ 281474976710656) (hr : runN z f m = 0) (hzn : pZone z = .ok zn) (hFn : pFields f = .ok F) (w : World) (hL : Laid w) :
    Calls Tryz.prog 28 #[.string z, .string f, .int .i64 m] w fun e w' => (∃ (x : Int) (n : Nat), e = .returned (.tuple #[.int .i64 x, .int .i64 (n : Int)]) ∧ NX (fun k => Cal.Runs zn F (k + zn.offset)) m x n) ∧ Only [] w w' := by
  refine (c_Next z f m w hz hf hL.e hL.t hL.m hL.b).mono ?_
  rintro e w' ⟨ho, x, n, rfl, _, hb⟩
  obtain ⟨zn1, F1, h1, h2, h3⟩ := hb hr
  obtain rfl : zn1 = zn := Except.ok.inj (h1.symm.trans hzn)
  obtain rfl : F1 = F := Except.ok.inj (h2.symm.trans hFn)
  exact ⟨⟨x, n, rfl, h3⟩, ho⟩
theorem runs_R {z f : ByteArray} {m : Int} {zn : Zon} {F : Fld} (hz : z.size ≤ 281474976710656) (hf : f.size ≤ 281474976710656) (hr : runN z f m = 0) (hzn : pZone z = .ok zn) (hFn : pFields f = .ok F) (w : World) (hL : Laid w) :
    Calls Tryz.prog 19 #[.string z, .string f, .int .i64 m] w fun e w' => (∃ b : Bool, e = .returned (.tuple #[.bool b, .int .i64 0]) ∧ (b = true ↔ Cal.Runs zn F (m + zn.offset))) ∧ Only [] w w' := by
  refine (c_Runs z f m w hz hf hL.e hL.t hL.m hL.b).mono ?_
  rintro e w' ⟨ho, b, rfl, _, hb⟩
  obtain ⟨zn1, F1, h1, h2, h3⟩ := hb hr
  obtain rfl : zn1 = zn := Except.ok.inj (h1.symm.trans hzn)
  obtain rfl : F1 = F := Except.ok.inj (h2.symm.trans hFn)
  rw [hr]
  exact ⟨⟨b, rfl, h3⟩, ho⟩

set_option maxRecDepth 8000 in
set_option maxHeartbeats 4000000 in
theorem law_FromOn_ok (z f : ByteArray) (m : Int) (w : World) (hz : z.size ≤ 281474976710656) (hf : f.size ≤ 281474976710656) (hL : Laid w) (hr : runN z f m = 0) (zn : Zon) (F : Fld) (hzn : pZone z = .ok zn) (hFn : pFields f = .ok F) :
    Calls Tryz.prog 8 #[.string z, .string f, .int .i64 m] w (LawSaidF w) := by
  obtain ⟨⟨p0, hc⟩, ⟨hm1, hm2⟩, hall⟩ := run_ok hr
  have hw : true = (decide (0 ≤ m) && decide (m ≤ 70000000)) := by simp; omega
  have HL := hide hL
  have HC := hide hc
  have HW := hide hw
  have HNX1 := hide (fun w hL => next_R hz hf hr hzn hFn w hL)
  have HRN := hide (fun w hL => runs_R hz hf hr hzn hFn w hL)
  by_cases hmx : m = 70000000
  · subst hmx
    have hmi : ((70000000 : Int) == 70000000) = true := by rfl
    clear hL hc hr hw hzn hFn hall hm1 hm2
    go_enter Tryz.func8, Tryz.ntmps8
    go_wp2_with (first
      | (go_at_call 22
         refine (law_alive _ (unhide HL).e (unhide HL).t (unhide HL).m (unhide HL).b (unhide HL).p).mono ?_
         rintro e w1 ⟨rfl, ho1⟩
         have HO1 := hide ho1
         have HL1 := hide ((unhide HL).only ho1)
         clear ho1)
      | (go_at_call 28
         refine (unhide HNX1 _ (unhide HL1)).mono ?_
         rintro e w2 ⟨⟨x, n, rfl, hx⟩, ho2⟩
         have HX := hide hx
         have HO2 := hide ((unhide HO1).trans ho2)
         have HL2 := hide ((unhide HL1).only ho2)
         clear ho2 hx HL1)
      | (go_at_call 19
         refine (unhide HRN _ (unhide HL2)).mono ?_
         rintro e w3 ⟨⟨b, rfl, hb⟩, ho3⟩
         have HO3 := hide ((unhide HO2).trans ho3)
         have HL3 := hide ((unhide HL2).only ho3)
         have hcase : (b = false ∧ n = 5 ∧ x = 0) ∨ (b = true ∧ n = 0 ∧ x = 70000000) := by
           cases b
           · obtain ⟨h1, h2⟩ := NX.end (unhide HX) (fun h => Bool.false_ne_true (hb.2 h))
             exact .inl ⟨rfl, h1, h2⟩
           · obtain ⟨h1, h2⟩ := NX.here (unhide HX) (by omega) (hb.1 rfl)
             exact .inr ⟨rfl, h1, h2⟩
         clear hb ho3 HL2 HX
         rcases hcase with ⟨rfl, rfl, rfl⟩ | ⟨rfl, rfl, rfl⟩)
      | (go_at_call 14
         refine (ref_Check z f _ hz hf).mono ?_
         rintro e w4 ⟨hb4, rfl⟩
         rw [unhide HC]
         have HO4 := hide ((unhide HO3).trans (Only.of_below [] hb4))
         have HL4 := hide ((unhide HL3).only (Only.of_below [] hb4))
         clear hb4)
      | (go_at_call 15; refine (law_within3 70000000 true (unhide HW) _).mono ?_; rintro e w5 ⟨rfl, hw⟩; rw [hw]; clear hw)
      | (go_at_call 25; refine (law_known 0 true rfl _).mono ?_; rintro e w6 ⟨rfl, hw⟩; rw [hw]; clear hw)
      | (go_at_call 16; refine (law_num _ _).mono ?_; rintro e w6 ⟨rfl, hw⟩; rw [hw]; clear hw))
    all_goals
      go_ret
      exact ⟨ret_bool (by simp), Only.below (unhide HO4) (Nat.le_refl _) (by simp)⟩
  · have hmi : (m == 70000000) = false := by rw [beq_eq_false_iff_ne]; exact hmx
    have HNX2 := hide (fun w hL => next_R hz hf (hall (m + 1) (by omega) (by omega)) hzn hFn w hL)
    clear hL hc hr hw hzn hFn hall
    go_enter Tryz.func8, Tryz.ntmps8
    go_wp2_with (first
      | (go_at_call 22
         refine (law_alive _ (unhide HL).e (unhide HL).t (unhide HL).m (unhide HL).b (unhide HL).p).mono ?_
         rintro e w1 ⟨rfl, ho1⟩
         have HO1 := hide ho1
         have HL1 := hide ((unhide HL).only ho1)
         clear ho1)
      | (go_at_call 28
         refine (unhide HNX1 _ (unhide HL1)).mono ?_
         rintro e w2 ⟨⟨x, n, rfl, hx⟩, ho2⟩
         have HX := hide hx
         have HO2 := hide ((unhide HO1).trans ho2)
         have HL2 := hide ((unhide HL1).only ho2)
         clear ho2 hx HL1)
      | (go_at_call 19
         refine (unhide HRN _ (unhide HL2)).mono ?_
         rintro e w3 ⟨⟨b, rfl, hb⟩, ho3⟩
         have HO3 := hide ((unhide HO2).trans ho3)
         have HL3 := hide ((unhide HL2).only ho3)
         have hcase : (b = true ∧ n = 0 ∧ x = m) ∨ (b = false ∧ Hid (¬ Cal.Runs zn F (m + zn.offset))) := by
           cases b
           · exact .inr ⟨rfl, fun h => Bool.false_ne_true (hb.2 h)⟩
           · obtain ⟨h1, h2⟩ := NX.here (unhide HX) hm2 (hb.1 rfl)
             exact .inl ⟨rfl, h1, h2⟩
         clear hb ho3 HL2
         rcases hcase with ⟨rfl, rfl, rfl⟩ | ⟨rfl, HNR⟩)
      | (go_at_call 28
         refine (unhide HNX2 _ (unhide HL4)).mono ?_
         rintro e w7 ⟨⟨y, k, rfl, hy⟩, ho7⟩
         obtain ⟨h1, h2⟩ := NX.on (unhide HX) hy (unhide HNR)
         subst h1 h2
         have HO7 := hide ((unhide HO4).trans ho7)
         clear ho7 hy HX)
      | (go_at_call 14
         refine (ref_Check z f _ hz hf).mono ?_
         rintro e w4 ⟨hb4, rfl⟩
         rw [unhide HC]
         have HO4 := hide ((unhide HO3).trans (Only.of_below [] hb4))
         have HL4 := hide ((unhide HL3).only (Only.of_below [] hb4))
         clear hb4)
      | (go_at_call 15; refine (law_within3 _ true (unhide HW) _).mono ?_; rintro e w5 ⟨rfl, hw⟩; rw [hw]; clear hw)
      | (go_at_call 25; refine (law_known 0 true rfl _).mono ?_; rintro e w6 ⟨rfl, hw⟩; rw [hw]; clear hw)
      | (go_at_call 16; refine (law_num _ _).mono ?_; rintro e w6 ⟨rfl, hw⟩; rw [hw]; clear hw))
    all_goals
      go_ret
      first
        | exact ⟨ret_bool (by simp), Only.below (unhide HO7) (Nat.le_refl _) (by simp)⟩
        | exact ⟨ret_bool (by simp), Only.below (unhide HO4) (Nat.le_refl _) (by simp)⟩

theorem checkN_ok3 {z f : ByteArray} {p : Nat} (h : checkN z f = (0, p)) : ∃ zn F, pZone z = .ok zn ∧ pFields f = .ok F := by
  unfold checkN at h
  split at h
  · cases h
  · cases h1 : pZone z with
    | error q => rw [h1] at h; cases h
    | ok zn =>
      cases h2 : pFields f with
      | error q => rw [h1, h2] at h; cases h
      | ok F => exact ⟨zn, F, rfl, rfl⟩

theorem law_FromOn (z f : ByteArray) (m : Int) (w : World) (hz : z.size ≤ 281474976710656) (hf : f.size ≤ 281474976710656) (hL : Laid w) : Calls Tryz.prog 8 #[.string z, .string f, .int .i64 m] w (LawSaidF w) := by
  obtain ⟨n0, p0, hc⟩ : ∃ n0 p0, checkN z f = (n0, p0) := ⟨_, _, rfl⟩
  have hN : runN z f m = if n0 ≠ 0 then n0 else if m < 0 ∨ 70000000 < m then 4 else 0 := by unfold runN; rw [hc]
  by_cases h0 : n0 = 0
  · subst h0
    by_cases hr : 0 ≤ m ∧ m ≤ 70000000
    · obtain ⟨zn, F, h1, h2⟩ := checkN_ok3 hc
      exact law_FromOn_ok z f m w hz hf hL (by rw [hN, if_neg (by omega), if_neg (by omega)]) zn F h1 h2
    · exact law_FromOn_err z f m w hz hf hL 0 p0 4 hc (by rw [hN, if_neg (by omega), if_pos (by omega)]) (by omega) (.inr ⟨rfl, rfl, by rw [eq_comm]; simp only [Bool.and_eq_false_iff, decide_eq_false_iff_not]; omega⟩)
  · exact law_FromOn_err z f m w hz hf hL n0 p0 n0 hc (by rw [hN, if_pos h0]) h0 (.inl ⟨h0, rfl⟩)
end Go.Proofs.YtnnhnihgeheahaaGreatDoor

/- Offset, as a law over the contracts. -/
set_option linter.unusedSimpArgs false
set_option linter.unusedVariables false
namespace Go.Proofs.YtnnhnihgeheahaaGreatDoor
open Go.RowKit

theorem Cal.year_exists2 (D : Nat) : ∃ n, Cal.yd n ≤ D ∧ D < Cal.yd (n + 1) := by
  induction D with
  | zero => exact ⟨0, Nat.le_refl _, by have := Cal.yd_ge 1; show 0 < Cal.yd 1; omega⟩
  | succ D ih =>
    obtain ⟨n, h1, h2⟩ := ih
    by_cases h : D + 1 < Cal.yd (n + 1)
    · exact ⟨n, by omega, h⟩
    · refine ⟨n + 1, by omega, ?_⟩
      have e : Cal.yd (n + 1 + 1) = Cal.yd (n + 1) + Cal.yl (1960 + (n + 1)) := rfl
      have := (Cal.yl_bd (1960 + (n + 1))).1
      omega
theorem Cal.month_exists2 (y v : Nat) (hv : v < Cal.yl y) : ∃ m, m < 12 ∧ Cal.md y m ≤ v ∧ v < Cal.md y (m + 1) := by
  induction v with
  | zero =>
    refine ⟨0, by omega, Nat.le_refl _, ?_⟩
    have e : Cal.md y 1 = Cal.md y 0 + Cal.ml y 1 := rfl
    have := (Cal.ml_bd y 1).1
    show 0 < Cal.md y 1
    omega
  | succ v ih =>
    obtain ⟨m, hm, h1, h2⟩ := ih (by omega)
    by_cases h : v + 1 < Cal.md y (m + 1)
    · exact ⟨m, hm, by omega, h⟩
    · have hm1 : m + 1 < 12 := by
        rcases Nat.lt_or_ge (m + 1) 12 with g | g
        · exact g
        · have e12 : m + 1 = 12 := by omega
          rw [e12, Cal.md_12] at h
          omega
      refine ⟨m + 1, hm1, by omega, ?_⟩
      have e : Cal.md y (m + 1 + 1) = Cal.md y (m + 1) + Cal.ml y (m + 1 + 1) := rfl
      have := (Cal.ml_bd y (m + 1 + 1)).1
      omega
theorem Cal.Is.there2 (D : Nat) : ∃ n m k, Cal.Is D n m k := by
  obtain ⟨n, h1, h2⟩ := Cal.year_exists2 D
  have e : Cal.yd (n + 1) = Cal.yd n + Cal.yl (1960 + n) := rfl
  obtain ⟨m, hm, h3, h4⟩ := Cal.month_exists2 (1960 + n) (D - Cal.yd n) (by omega)
  have e2 : Cal.md (1960 + n) (m + 1) = Cal.md (1960 + n) m + Cal.ml (1960 + n) (m + 1) := rfl
  exact ⟨n, m, D - Cal.yd n - Cal.md (1960 + n) m, by omega, by omega, hm⟩

/-- A zone without summer, east of the beginning. -/
def eastS (h m : Nat) : ByteArray := (((⟨#[43]⟩ : ByteArray) ++ twoS h) ++ (⟨#[58]⟩ : ByteArray)) ++ twoS m
def eastZ (k : Int) : Zon := ⟨k, 0, .zero, .zero⟩
def eastOk (h m : Nat) : Bool := match pZone (eastS h m) with
  | .ok z => decide (z.offset = 60 * h + m) && decide (z.shift = 0) && decide (z.beg.month = 0) && decide (z.beg.week = 0) && decide (z.beg.day = 0) && decide (z.beg.time = 0) && decide (z.fin.month = 0) && decide (z.fin.week = 0) && decide (z.fin.day = 0) && decide (z.fin.time = 0) && decide ((eastS h m).size = 6)
  | .error _ => false
theorem east_all : ((List.range 14).all fun h => (List.range 60).all fun m => eastOk h m) = true := by kernel_rfl
theorem east_zone {h m : Nat} (hh : h ≤ 13) (hm : m ≤ 59) : pZone (eastS h m) = .ok (eastZ (60 * h + m)) ∧ (eastS h m).size = 6 := by
  have h1 := List.all_eq_true.1 east_all h (List.mem_range.2 (by omega))
  have h2 := List.all_eq_true.1 h1 m (List.mem_range.2 (by omega))
  unfold eastOk at h2
  cases hz : pZone (eastS h m) with
  | error q => rw [hz] at h2; cases h2
  | ok z =>
    rw [hz] at h2
    obtain ⟨o, s, ⟨a1, a2, a3, a4⟩, ⟨b1, b2, b3, b4⟩⟩ := z
    simp only [Bool.and_eq_true, decide_eq_true_eq] at h2
    obtain ⟨⟨⟨⟨⟨⟨⟨⟨⟨⟨rfl, rfl⟩, rfl⟩, rfl⟩, rfl⟩, rfl⟩, rfl⟩, rfl⟩, rfl⟩, rfl⟩, h11⟩ := h2
    exact ⟨rfl, h11⟩
theorem east_summer (k s : Int) : Cal.summer (eastZ k) s = false := by
  unfold Cal.summer
  exact if_pos rfl
theorem east_runs (k k' : Int) (F : Fld) (s : Int) : Cal.Runs (eastZ k) F s ↔ Cal.Runs (eastZ k') F s := by
  unfold Cal.Runs Cal.ahead
  simp [east_summer]
theorem east_shown (k t : Int) : Cal.shown (eastZ k) t = t + k := by
  unfold Cal.shown
  rw [east_summer]
  simp [eastZ]
theorem east_runN {h m : Nat} (hh : h ≤ 13) (hm : m ≤ 59) (f : ByteArray) (t t' : Int) (ht : 0 ≤ t ∧ t ≤ 70000000) (ht' : 0 ≤ t' ∧ t' ≤ 70000000) : runN (eastS h m) f t = runN (eastS 0 0) f t' := by
  have e1 := east_zone hh hm
  have e2 := east_zone (h := 0) (m := 0) (by omega) (by omega)
  have hc : checkN (eastS h m) f = checkN (eastS 0 0) f := by
    unfold checkN
    rw [e1.1, e2.1, e1.2, e2.2]
  unfold runN
  rw [hc]
  by_cases h0 : (checkN (eastS 0 0) f).1 ≠ 0
  · rw [if_pos h0, if_pos h0]
  · rw [if_neg h0, if_neg h0, if_neg (by omega), if_neg (by omega)]

set_option maxRecDepth 4000 in
set_option maxHeartbeats 2000000 in
theorem law_twoS (n : Nat) (x : Int) (e : x = n) (w : World) (hn : n ≤ 99) :
    Calls Tryz.prog 27 #[.int .i64 x] w fun e w' => e = .returned (.string (twoS n)) ∧ Only [] w w' := by
  subst e
  obtain ⟨q, hq⟩ : ∃ q, q = n / 10 := ⟨_, rfl⟩
  obtain ⟨r, hr⟩ : ∃ r, r = n % 10 := ⟨_, rfl⟩
  have hqi : (n : Int).tdiv 10 = q := by rw [Int.tdiv_eq_ediv_of_nonneg (by omega)]; omega
  have hri : (n : Int).tmod 10 = r := by rw [Int.tmod_eq_emod_of_nonneg (by omega)]; omega
  have hqi2 : (n : Int) / 10 = q := by omega
  have hri2 : (n : Int) % 10 = r := by omega
  have hq9 : q ≤ 9 := by omega
  have hr9 : r ≤ 9 := by omega
  have HQ := hide hq
  have HR := hide hr
  clear hq hr
  go_enter Tryz.func27, Tryz.ntmps27
  have hcv := run_conv2 w (48 + (q : Int)) (48 + (r : Int))
  go_wp2
  go_ret
  refine ⟨?_, (Only.refl _ _).alloc _⟩
  show Ending.returned (.string ⟨#[UInt8.ofNat (48 + q), UInt8.ofNat (48 + r)]⟩) = _
  rw [unhide HQ, unhide HR]
  rfl

set_option maxRecDepth 8000 in
set_option maxHeartbeats 4000000 in
theorem law_Offset_out (h m t : Int) (f : ByteArray) (w : World) (hL : Laid w) (hout : h < 0 ∨ 13 < h ∨ m < 0 ∨ 59 < m ∨ t < 0 ∨ 69999100 < t) :
    Calls Tryz.prog 6 #[.int .i64 h, .int .i64 m, .string f, .int .i64 t] w (LawSaidF w) := by
  have HL := hide hL
  clear hL
  rcases hout with g | g | g | g | g | g
  all_goals
    go_enter Tryz.func6, Tryz.ntmps6
    go_wp2_with (first
      | (go_at_call 22
         refine (law_alive _ (unhide HL).e (unhide HL).t (unhide HL).m (unhide HL).b (unhide HL).p).mono ?_
         rintro e w1 ⟨rfl, ho1⟩
         have HO1 := hide ho1
         clear ho1))
    all_goals first
      | (go_ret
         exact ⟨rfl, Only.below (unhide HO1) (Nat.le_refl _) (by simp)⟩)
      | (exfalso; omega)

set_option maxRecDepth 8000 in
set_option maxHeartbeats 4000000 in
theorem law_Offset_in (h m : Nat) (t : Int) (f : ByteArray) (w : World) (hf : f.size ≤ 281474976710656) (hL : Laid w) (hh : h ≤ 13) (hm : m ≤ 59) (ht1 : 0 ≤ t) (ht2 : t ≤ 69999100) :
    Calls Tryz.prog 6 #[.int .i64 (h : Int), .int .i64 (m : Int), .string f, .int .i64 t] w (LawSaidF w) := by
  have HL := hide hL
  obtain ⟨e1, e2⟩ := east_zone hh hm
  obtain ⟨g1, g2⟩ := east_zone (h := 0) (m := 0) (by omega) (by omega)
  have hrn := east_runN hh hm f t (t + (60 * h + m)) (by omega) (by omega)
  obtain ⟨N, hN⟩ : ∃ N : Nat, N = (t + (60 * h + m) + 5260320).toNat := ⟨_, rfl⟩
  obtain ⟨n, mm, kk, hIs⟩ := Cal.Is.there2 (N / 1440)
  have hs1 : Cal.shown (eastZ (60 * h + m)) t = (N : Int) - 5260320 := by rw [east_shown]; omega
  have hs2 : Cal.shown (eastZ (60 * (0 : Nat) + (0 : Nat))) (t + (60 * h + m)) = (N : Int) - 5260320 := by rw [east_shown]; omega
  obtain ⟨S, hS⟩ : ∃ S, S = told N n mm kk := ⟨_, rfl⟩
  have hl1 : ∀ w', Laid w' → Calls Tryz.prog 13 #[.string (eastS h m), .int .i64 t] w' fun e w'' => e = .returned (.tuple #[.string S, .int .i64 0]) ∧ Only [] w' w'' := by
    intro w' hL'; rw [hS]; exact c_Local_ok (eastS h m) t _ N n mm kk w' (by omega) hL'.e hL'.m hL'.p e1 ht1 (by omega) hs1 hIs
  have hl2 : ∀ (x : Int) w', x = t + (60 * h + m) → Laid w' → Calls Tryz.prog 13 #[.string (eastS 0 0), .int .i64 x] w' fun e w'' => e = .returned (.tuple #[.string S, .int .i64 0]) ∧ Only [] w' w'' := by
    intro x w' hx hL'; subst hx; rw [hS]; exact c_Local_ok (eastS 0 0) _ _ N n mm kk w' (by omega) hL'.e hL'.m hL'.p g1 (by omega) (by omega) hs2 hIs
  obtain ⟨R, hR⟩ : ∃ R, R = runN (eastS 0 0) f (t + (60 * h + m)) := ⟨_, rfl⟩
  have hru : ∃ b : Bool, (∀ w', Laid w' → Calls Tryz.prog 19 #[.string (eastS h m), .string f, .int .i64 t] w' fun e w'' => e = .returned (.tuple #[.bool b, .int .i64 (R : Int)]) ∧ Only [] w' w'') ∧
      (∀ (x : Int) w', x = t + (60 * h + m) → Laid w' → Calls Tryz.prog 19 #[.string (eastS 0 0), .string f, .int .i64 x] w' fun e w'' => e = .returned (.tuple #[.bool b, .int .i64 (R : Int)]) ∧ Only [] w' w'') := by
    by_cases h0 : R = 0
    · obtain ⟨F, hF⟩ : ∃ F, pFields f = .ok F := by
        obtain ⟨⟨p, hc⟩, _⟩ := run_ok (hR.symm.trans h0)
        obtain ⟨_, F, _, hF⟩ := checkN_ok3 hc
        exact ⟨F, hF⟩
      refine ⟨@decide (Cal.Runs (eastZ (60 * h + m)) F (t + (60 * h + m))) (Classical.propDecidable _), fun w' hL' => ?_, fun x w' hx hL' => ?_⟩
      · refine (runs_R (by omega) hf (hrn.trans (hR.symm.trans h0)) e1 hF w' hL').mono ?_
        rintro e w'' ⟨⟨b, rfl, hb⟩, ho⟩
        refine ⟨ret_bi ?_ (by rw [h0]; rfl), ho⟩
        exact Bool.eq_iff_iff.2 (hb.trans (by rw [@decide_eq_true_iff _ (Classical.propDecidable _)]; rfl))
      · subst hx
        refine (runs_R (by omega) hf (hR.symm.trans h0) g1 hF w' hL').mono ?_
        rintro e w'' ⟨⟨b, rfl, hb⟩, ho⟩
        refine ⟨ret_bi ?_ (by rw [h0]; rfl), ho⟩
        refine Bool.eq_iff_iff.2 (hb.trans ?_)
        rw [@decide_eq_true_iff _ (Classical.propDecidable _), east_runs _ (60 * h + m)]
        simp [eastZ]
    · refine ⟨false, fun w' hL' => ?_, fun x w' hx hL' => ?_⟩
      · refine (c_Runs _ f t w' (by omega) hf hL'.e hL'.t hL'.m hL'.b).mono ?_
        rintro e w'' ⟨ho, b, rfl, hb, _⟩
        exact ⟨ret_bi (hb (by rw [hrn, ← hR]; exact h0)) (by rw [hrn, ← hR]), ho⟩
      · subst hx
        refine (c_Runs _ f _ w' (by omega) hf hL'.e hL'.t hL'.m hL'.b).mono ?_
        rintro e w'' ⟨ho, b, rfl, hb, _⟩
        exact ⟨ret_bi (hb (by rw [← hR]; exact h0)) (by rw [← hR]), ho⟩
  obtain ⟨b, hr1, hr2⟩ := hru
  have HL1 := hide hl1
  have HL2 := hide hl2
  have HR1 := hide hr1
  have HR2 := hide hr2
  have hz0 : eastS 0 0 = ⟨#[43, 48, 48, 58, 48, 48]⟩ := rfl
  rw [hz0] at HL2 HR2
  have hre : ((R : Int) == R) = true := by simp
  have hsz1 : (twoS h).size = 2 := rfl
  have hsz2 : (twoS m).size = 2 := rfl
  obtain ⟨Th, hTh⟩ : ∃ Th, Th = twoS h := ⟨_, rfl⟩
  obtain ⟨Tm, hTm⟩ : ∃ Tm, Tm = twoS m := ⟨_, rfl⟩
  have HTh := hide hTh
  have HTm := hide hTm
  rw [← hTh] at hsz1
  rw [← hTm] at hsz2
  unfold eastS at HL1 HR1
  rw [← hTh, ← hTm] at HL1 HR1
  clear hL e1 e2 g1 g2 hrn hN hIs hs1 hs2 hS hl1 hl2 hR hr1 hr2 hz0 hTh hTm
  go_enter Tryz.func6, Tryz.ntmps6
  go_wp2_with (first
    | (go_at_call 22
       refine (law_alive _ (unhide HL).e (unhide HL).t (unhide HL).m (unhide HL).b (unhide HL).p).mono ?_
       rintro e w1 ⟨rfl, ho⟩
       have HO := hide ho
       have HA := hide ((unhide HL).only ho)
       clear ho HL)
    | (go_at_call 27
       refine (law_twoS h _ (by omega) _ (by omega)).mono ?_
       rintro e w1 ⟨rfl, ho⟩
       rw [← unhide HTh]
       have hO := (unhide HO).trans ho
       have hA := (unhide HA).only ho
       clear HO HA ho HTh
       have HO := hide hO
       have HA := hide hA
       clear hO hA)
    | (go_at_call 27
       refine (law_twoS m _ (by omega) _ (by omega)).mono ?_
       rintro e w1 ⟨rfl, ho⟩
       rw [← unhide HTm]
       have hO := (unhide HO).trans ho
       have hA := (unhide HA).only ho
       clear HO HA ho HTm
       have HO := hide hO
       have HA := hide hA
       clear hO hA)
    | (go_at_call 13
       refine (unhide HL1 _ (unhide HA)).mono ?_
       rintro e w1 ⟨rfl, ho⟩
       have hO := (unhide HO).trans ho
       have hA := (unhide HA).only ho
       clear HO HA ho HL1
       have HO := hide hO
       have HA := hide hA
       clear hO hA)
    | (go_at_call 13
       refine (unhide HL2 _ _ (by omega) (unhide HA)).mono ?_
       rintro e w1 ⟨rfl, ho⟩
       have hO := (unhide HO).trans ho
       have hA := (unhide HA).only ho
       clear HO HA ho HL2
       have HO := hide hO
       have HA := hide hA
       clear hO hA)
    | (go_at_call 19
       refine (unhide HR1 _ (unhide HA)).mono ?_
       rintro e w1 ⟨rfl, ho⟩
       have hO := (unhide HO).trans ho
       have hA := (unhide HA).only ho
       clear HO HA ho HR1
       have HO := hide hO
       have HA := hide hA
       clear hO hA)
    | (go_at_call 19
       refine (unhide HR2 _ _ (by omega) (unhide HA)).mono ?_
       rintro e w1 ⟨rfl, ho⟩
       have hO := (unhide HO).trans ho
       have hA := (unhide HA).only ho
       clear HO HA ho HR2
       have HO := hide hO
       have HA := hide hA
       clear hO hA)
    | (go_at_call 25; refine (law_known 0 true rfl _).mono ?_; rintro e w6 ⟨rfl, hw⟩; rw [hw]; clear hw)
    | (go_at_call 16; refine (law_num _ _).mono ?_; rintro e w6 ⟨rfl, hw⟩; rw [hw]; clear hw))
  all_goals
    go_ret
    exact ⟨ret_bool (by simp), Only.below (unhide HO) (Nat.le_refl _) (by simp)⟩

theorem law_Offset (h m t : Int) (f : ByteArray) (w : World) (hf : f.size ≤ 281474976710656) (hL : Laid w) : Calls Tryz.prog 6 #[.int .i64 h, .int .i64 m, .string f, .int .i64 t] w (LawSaidF w) := by
  by_cases hin : (0 ≤ h ∧ h ≤ 13) ∧ (0 ≤ m ∧ m ≤ 59) ∧ 0 ≤ t ∧ t ≤ 69999100
  · obtain ⟨⟨h1, h2⟩, ⟨m1, m2⟩, t1, t2⟩ := hin
    obtain ⟨hn, rfl⟩ := Int.eq_ofNat_of_zero_le h1
    obtain ⟨mn, rfl⟩ := Int.eq_ofNat_of_zero_le m1
    exact law_Offset_in hn mn t f w hf hL (by omega) (by omega) t1 t2
  · exact law_Offset_out h m t f w hL (by omega)
end Go.Proofs.YtnnhnihgeheahaaGreatDoor

/- The laws' plain, pair, right. -/
set_option linter.unusedSimpArgs false
set_option linter.unusedVariables false
namespace Go.Proofs.YtnnhnihgeheahaaGreatDoor
open Go.RowKit

/-- A number without needless zeros. -/
def plainS (n : Nat) : ByteArray := if n < 10 then (twoS n).extract 1 2 else twoS n

set_option maxRecDepth 4000 in
set_option maxHeartbeats 2000000 in
theorem law_plain (n : Nat) (x : Int) (e : x = n) (w : World) (hn : n ≤ 99) :
    Calls Tryz.prog 24 #[.int .i64 x] w fun e w' => e = .returned (.string (plainS n)) ∧ Only [] w w' := by
  subst e
  obtain ⟨P, hP⟩ : ∃ P, P = plainS n := ⟨_, rfl⟩
  obtain ⟨S, hS⟩ : ∃ S, S = twoS n := ⟨_, rfl⟩
  have hsz : S.size = 2 := by rw [hS]; rfl
  have HS := hide hS
  rw [← hP]
  by_cases h : n < 10
  · have HP : Hid (P = S.extract 1 2) := by rw [hP, hS]; unfold plainS; rw [if_pos h]; rfl
    clear hP hS
    go_enter Tryz.func24, Tryz.ntmps24
    go_wp2_with (
      go_at_call 27
      refine (law_twoS n _ rfl _ hn).mono ?_
      rintro e w1 ⟨rfl, ho⟩
      rw [← unhide HS]
      have HO := hide ho
      clear ho HS)
    go_ret
    exact ⟨by rw [unhide HP]; rfl, unhide HO⟩
  · have HP : Hid (P = S) := by rw [hP, hS]; unfold plainS; rw [if_neg h]; rfl
    clear hP hS
    go_enter Tryz.func24, Tryz.ntmps24
    go_wp2_with (
      go_at_call 27
      refine (law_twoS n _ rfl _ hn).mono ?_
      rintro e w1 ⟨rfl, ho⟩
      rw [← unhide HS]
      have HO := hide ho
      clear ho HS)
    go_ret
    exact ⟨by rw [unhide HP]; rfl, unhide HO⟩

set_option maxRecDepth 2000 in
set_option maxHeartbeats 1000000 in
theorem law_pair (s : ByteArray) (i : Nat) (i' : Int) (e : i' = i) (w : World) (hi : i + 1 < s.size) (hs : s.size ≤ 1000) :
    Calls Tryz.prog 26 #[.string s, .int .i64 i'] w fun e w' => e = .returned (.int .i64 (10 * ((byteAt s i : Int) - 48) + byteAt s (i + 1) - 48)) ∧ ∃ n, w' = w.drewN n := by
  subst e
  have h1 := byteAt_in (show i < s.size by omega)
  have h2 := byteAt_in hi
  have b1 := byteAt_lt s i
  have b2 := byteAt_lt s (i + 1)
  obtain ⟨x, hx⟩ : ∃ x, x = byteAt s i := ⟨_, rfl⟩
  obtain ⟨y, hy⟩ : ∃ y, y = byteAt s (i + 1) := ⟨_, rfl⟩
  rw [← hx] at h1 b1 ⊢
  rw [← hy] at h2 b2 ⊢
  clear hx hy
  have g1 : s[i].toNat = x := h1.symm
  have g2 : s[i + 1].toNat = y := h2.symm
  clear h1 h2
  go_enter Tryz.func26, Tryz.ntmps26
  go_wp2
  try (go_quiet (fail); go_wp2)
  go_ret
  exact ⟨ret_int (by first | omega | (simp only [IntKind.wrap_i64]; omega)), _, by first | rfl | exact (World.drewN_zero _).symm⟩

set_option maxRecDepth 2000 in
set_option maxHeartbeats 1000000 in
theorem law_right (z : ByteArray) (b : Bool) (hb : b = decide ((checkN z stars).1 = 0)) (w : World) (hz : z.size ≤ 281474976710656) :
    Calls Tryz.prog 23 #[.string z] w fun e w' => e = .returned (.bool b) ∧ Only [] w w' := by
  obtain ⟨n0, p0, hc⟩ : ∃ n0 p0, checkN z stars = (n0, p0) := ⟨_, _, rfl⟩
  rw [hc] at hb
  have HC := hide hc
  have HB := hide hb
  clear hc hb
  by_cases h0 : n0 = 0
  · subst h0
    go_enter Tryz.func23, Tryz.ntmps23
    go_wp2_with (
      go_at_call 14
      refine (ref_Check z stars _ hz (by decide)).mono ?_
      rintro e w1 ⟨hb1, rfl⟩
      rw [unhide HC]
      have HO := hide (Only.of_below [] hb1)
      clear hb1)
    go_ret
    exact ⟨ret_bool (by rw [unhide HB]; rfl), unhide HO⟩
  · have hne : ((n0 : Int) == 0) = false := by rw [beq_eq_false_iff_ne]; omega
    go_enter Tryz.func23, Tryz.ntmps23
    go_wp2_with (
      go_at_call 14
      refine (ref_Check z stars _ hz (by decide)).mono ?_
      rintro e w1 ⟨hb1, rfl⟩
      rw [unhide HC]
      have HO := hide (Only.of_below [] hb1)
      clear hb1)
    go_ret
    exact ⟨ret_bool (by rw [unhide HB]; simp [h0]), unhide HO⟩
end Go.Proofs.YtnnhnihgeheahaaGreatDoor

/- Plain: a job that is set to one time of day runs just once on every date. -/
set_option linter.unusedSimpArgs false
set_option linter.unusedVariables false
namespace Go.Proofs.YtnnhnihgeheahaaGreatDoor
namespace Cal

theorem year_at (D : Nat) : ∃ n, yd n ≤ D ∧ D < yd (n + 1) := by
  induction D with
  | zero => exact ⟨0, Nat.le_refl _, by have := yd_ge 1; show 0 < yd 1; omega⟩
  | succ D ih =>
    obtain ⟨n, h1, h2⟩ := ih
    by_cases h : D + 1 < yd (n + 1)
    · exact ⟨n, by omega, h⟩
    · refine ⟨n + 1, by omega, ?_⟩
      have e : yd (n + 1 + 1) = yd (n + 1) + yl (1960 + (n + 1)) := rfl
      have := (yl_bd (1960 + (n + 1))).1
      omega

/-- Every minute lies in a stretch; a summer's beginning is its rule's. -/
theorem str_there {z : Zon} (hz : Fine z) (h0 : z.shift ≠ 0) {s : Int} (hs : -3000000 ≤ s) : ∃ a b su, Str z s a b su ∧ a + 121 ≤ b ∧ (su = true → ∃ n, a = ruleMin n z.beg) := by
  obtain ⟨n, hn⟩ := year_at ((s + 5260320).toNat / 1440)
  obtain ⟨hn1, hy1, hy2⟩ := year_facts (D := (s + 5260320).toNat / 1440) rfl hs hn
  have h3 := str_three hz h0 hn1 hy1 hy2
  obtain ⟨g1, g2, g3, g4⟩ := turns_bd hz h0 n
  obtain ⟨k1, k2, k3, k4⟩ := turns_bd hz h0 (n + 1)
  have l := turns_bd hz h0 (n - 1)
  rw [show n - 1 + 1 = n by omega] at l
  by_cases c1 : s < tP z n
  · refine ⟨_, _, _, h3.1 c1, by omega, fun h => ⟨n - 1, ?_⟩⟩
    have hno : ¬ z.beg.month < z.fin.month := by unfold north at h; simpa using h
    unfold tQ
    rw [if_neg (fun h => hno (l.2.2.2.1 h))]
    rfl
  · by_cases c2 : s < tQ z n
    · refine ⟨_, _, _, h3.2.1 (by omega) c2, by omega, fun h => ⟨n, ?_⟩⟩
      have hno : z.beg.month < z.fin.month := by unfold north at h; simpa using h
      unfold tP
      rw [if_pos (g4.2 hno)]
      rfl
    · refine ⟨_, _, _, h3.2.2 (by omega), by omega, fun h => ⟨n, ?_⟩⟩
      have hno : ¬ z.beg.month < z.fin.month := by unfold north at h; simpa using h
      unfold tQ
      rw [if_neg (fun h => hno (g4.1 h))]
      rfl

theorem rule_tod {r : Rul} (hr : r.Good) (n : Nat) : 120 ≤ ruleMin n r % 1440 ∧ ruleMin n r % 1440 ≤ 1319 := by
  have := hr.time
  unfold ruleMin
  omega

/-- Just once. -/
theorem once {z : Zon} (hz : Fine z) {F : Fld} (hF : isSet F = true) {T : Nat} (hT : T < 1440) (hfit : ∀ c : Int, -5260320 ≤ c → (fits F c = true ↔ (c + 5260320).toNat % 1440 = T)) {D0 τ : Int} (hD0 : D0 % 1440 = 0) (hD1 : -1000000 ≤ D0) (hτ : τ = D0 + T) :
    ∃ s, τ - 120 ≤ s ∧ s ≤ τ ∧ (Runs z F s ∧ D0 ≤ s + ahead z s ∧ s + ahead z s < D0 + 1440) ∧
      ∀ s', -2000000 ≤ s' → Runs z F s' → D0 ≤ s' + ahead z s' → s' + ahead z s' < D0 + 1440 → s' = s := by
  have hsh := hz.good.shift
  have hfτ : fits F τ = true := (hfit τ (by omega)).2 (by omega)
  have hon : ∀ c : Int, D0 ≤ c → c < D0 + 1440 → fits F c = true → c = τ := by
    intro c h1 h2 h3
    have := (hfit c (by omega)).1 h3
    omega
  -- how a run looks
  have hrun : ∀ s', Runs z F s' → (summer z s' = true ∧ summer z (s' - 1) = false ∧ ∃ k, s' ≤ k ∧ k < s' + z.shift ∧ fits F k = true) ∨ (¬ (summer z s' = false ∧ summer z (s' - z.shift) = true) ∧ fits F (s' + ahead z s') = true) := by
    rintro s' (⟨h, _⟩ | ⟨_, h⟩)
    · rw [hF] at h; cases h
    · exact h
  -- a beginning whose skipped minutes hold a time that fits
  have hskip : ∀ s', -2000000 ≤ s' → summer z s' = true → summer z (s' - 1) = false → ∀ k, s' ≤ k → k < s' + z.shift → fits F k = true → D0 ≤ s' + z.shift → s' + z.shift < D0 + 1440 →
      s' ≤ τ ∧ τ < s' + z.shift ∧ summer z τ = true ∧ summer z (τ - z.shift) = false := by
    intro s' hs' h1 h2 k k1 k2 k3 d1 d2
    have h0 : z.shift ≠ 0 := by omega
    obtain ⟨a, b, su, hS, hl, ha⟩ := str_there hz h0 (s := s') (by omega)
    have e1 : su = true := by rw [← hS.same s' hS.lo hS.hi]; exact h1
    subst e1
    have e2 : a = s' := by
      rcases Int.lt_or_le a s' with h | h
      · rw [hS.same (s' - 1) (by omega) (by have := hS.hi; omega)] at h2; cases h2
      · have := hS.lo; omega
    subst e2
    obtain ⟨n, hn⟩ := ha rfl
    have ht := rule_tod (hz.good.rules h0).1 n
    rw [← hn] at ht
    have e3 := hon k (by omega) (by omega) k3
    subst e3
    refine ⟨k1, k2, hS.same _ k1 (by omega), ?_⟩
    have := hS.back h0 (k - z.shift) (by omega) (by omega)
    simpa using this
  by_cases c1 : summer z (τ - z.shift) = true
  · -- summer's own
    have hah : ahead z (τ - z.shift) = z.shift := by unfold ahead; rw [c1]; rfl
    refine ⟨τ - z.shift, by omega, by omega, ⟨?_, by rw [hah]; omega, by rw [hah]; omega⟩, ?_⟩
    · refine .inr ⟨hF, .inr ⟨by rw [c1]; simp, ?_⟩⟩
      rw [hah, show τ - z.shift + z.shift = τ by omega]
      exact hfτ
    · intro s' hs' hr d1 d2
      rcases hrun s' hr with ⟨h1, h2, k, k1, k2, k3⟩ | ⟨h1, h2⟩
      · have e : ahead z s' = z.shift := by unfold ahead; rw [h1]; rfl
        rw [e] at d1 d2
        have := (hskip s' hs' h1 h2 k k1 k2 k3 d1 d2).2.2.2
        rw [c1] at this; cases this
      · have e := hon _ d1 d2 h2
        cases hs : summer z s' with
        | true => have e2 : ahead z s' = z.shift := by unfold ahead; rw [hs]; rfl
                  omega
        | false =>
          have e2 : ahead z s' = 0 := by unfold ahead; rw [hs]; rfl
          rw [e2] at e
          rw [show s' = τ by omega] at hs h1
          exact absurd ⟨hs, c1⟩ h1
  · have c1 : summer z (τ - z.shift) = false := by simpa using c1
    by_cases c2 : summer z τ = true
    · -- it is skipped
      have h0 : z.shift ≠ 0 := by
        intro h0
        unfold summer at c2
        rw [if_pos h0] at c2; cases c2
      obtain ⟨a, b, su, hS, hl, ha⟩ := str_there hz h0 (s := τ) (by omega)
      have e1 : su = true := by rw [← hS.same τ hS.lo hS.hi]; exact c2
      subst e1
      have hlo := hS.lo
      have hhi := hS.hi
      have haτ : τ - z.shift < a := by
        rcases Int.lt_or_le (τ - z.shift) a with h | h
        · exact h
        · rw [hS.same _ h (by omega)] at c1; cases c1
      have hsa : summer z a = true := hS.same a (by omega) (by omega)
      have hsb : summer z (a - 1) = false := by simpa using hS.back h0 (a - 1) (by omega) (by omega)
      obtain ⟨n, hn⟩ := ha rfl
      have ht := rule_tod (hz.good.rules h0).1 n
      rw [← hn] at ht
      have hah : ahead z a = z.shift := by unfold ahead; rw [hsa]; rfl
      refine ⟨a, by omega, hlo, ⟨.inr ⟨hF, .inl ⟨hsa, hsb, τ, hlo, by omega, hfτ⟩⟩, by rw [hah]; omega, by rw [hah]; omega⟩, ?_⟩
      intro s' hs' hr d1 d2
      rcases hrun s' hr with ⟨h1, h2, k, k1, k2, k3⟩ | ⟨h1, h2⟩
      · have e : ahead z s' = z.shift := by unfold ahead; rw [h1]; rfl
        rw [e] at d1 d2
        obtain ⟨g1, g2, _, _⟩ := hskip s' hs' h1 h2 k k1 k2 k3 d1 d2
        rcases Int.lt_trichotomy s' a with h | h | h
        · -- a - 1 lies in the stretch of s'
          obtain ⟨a', b', su', hS', hl', _⟩ := str_there hz h0 (s := s') (by omega)
          have e1 : su' = true := by rw [← hS'.same s' hS'.lo hS'.hi]; exact h1
          subst e1
          have e2 : a' = s' := by
            rcases Int.lt_or_le a' s' with g | g
            · rw [hS'.same (s' - 1) (by omega) (by have := hS'.hi; omega)] at h2; cases h2
            · have := hS'.lo; omega
          rw [hS'.same (a - 1) (by omega) (by omega)] at hsb; cases hsb
        · exact h
        · rw [hS.same (s' - 1) (by omega) (by omega)] at h2; cases h2
      · have e := hon _ d1 d2 h2
        cases hs : summer z s' with
        | true =>
          have e2 : ahead z s' = z.shift := by unfold ahead; rw [hs]; rfl
          rw [show s' = τ - z.shift by omega, c1] at hs; cases hs
        | false =>
          have e2 : ahead z s' = 0 := by unfold ahead; rw [hs]; rfl
          rw [show s' = τ by omega, c2] at hs; cases hs
    · -- as ever
      have c2 : summer z τ = false := by simpa using c2
      have hah : ahead z τ = 0 := by unfold ahead; rw [c2]; rfl
      refine ⟨τ, by omega, by omega, ⟨?_, by rw [hah]; omega, by rw [hah]; omega⟩, ?_⟩
      · refine .inr ⟨hF, .inr ⟨by rw [c1]; simp, ?_⟩⟩
        rw [hah, show τ + 0 = τ by omega]
        exact hfτ
      · intro s' hs' hr d1 d2
        rcases hrun s' hr with ⟨h1, h2, k, k1, k2, k3⟩ | ⟨h1, h2⟩
        · have e : ahead z s' = z.shift := by unfold ahead; rw [h1]; rfl
          rw [e] at d1 d2
          have := (hskip s' hs' h1 h2 k k1 k2 k3 d1 d2).2.2.1
          rw [c2] at this; cases this
        · have e := hon _ d1 d2 h2
          cases hs : summer z s' with
          | true =>
            have e2 : ahead z s' = z.shift := by unfold ahead; rw [hs]; rfl
            rw [show s' = τ - z.shift by omega, c1] at hs; cases hs
          | false =>
            have e2 : ahead z s' = 0 := by unfold ahead; rw [hs]; rfl
            omega
end Cal
end Go.Proofs.YtnnhnihgeheahaaGreatDoor

/- The fields of a job that is set to one time of day, as Once writes them. -/
set_option linter.unusedSimpArgs false
set_option linter.unusedVariables false
namespace Go.Proofs.YtnnhnihgeheahaaGreatDoor

def onceS (m h : Nat) : ByteArray := ((plainS m ++ (⟨#[32]⟩ : ByteArray)) ++ plainS h) ++ (⟨#[32, 42, 32, 42, 32, 42]⟩ : ByteArray)
def lenS (n : Nat) : Nat := if n < 10 then 1 else 2
def itemIs (s : ByteArray) (lo hi i j v : Nat) : Bool := match pItem s lo hi i with
  | .ok x => decide (x.1 = j) && decide (x.2.1 = v) && decide (x.2.2.1 = v) && decide (x.2.2.2 = 1)
  | .error _ => false
theorem itemIs_eq {s : ByteArray} {lo hi i j v : Nat} (h : itemIs s lo hi i j v = true) : pItem s lo hi i = .ok (j, (v, v, 1)) := by
  unfold itemIs at h
  cases hp : pItem s lo hi i with
  | error q => rw [hp] at h; cases h
  | ok x =>
    rw [hp] at h
    obtain ⟨x1, x2, x3, x4⟩ := x
    simp only [Bool.and_eq_true, decide_eq_true_eq] at h
    obtain ⟨⟨⟨rfl, rfl⟩, rfl⟩, rfl⟩ := h
    rfl
def onceOk (m h : Nat) : Bool :=
  let s := onceS m h
  let a := lenS m
  let b := a + 1 + lenS h
  decide (byteAt s 0 ≠ 42) && itemIs s 0 59 0 a m && decide (byteAt s a = 32) && decide (byteAt s (a + 1) ≠ 42) && itemIs s 0 23 (a + 1) b h && decide (byteAt s b = 32) && decide (byteAt s (b + 1) = 42) && decide (byteAt s (b + 2) = 32) && decide (byteAt s (b + 3) = 42) && decide (byteAt s (b + 4) = 32) && decide (byteAt s (b + 5) = 42) && decide (s.size = b + 6)
theorem once_all : ((List.range 60).all fun m => (List.range 24).all fun h => onceOk m h) = true := by kernel_rfl

def onceF (m h : Nat) : Fld := ⟨(false, fillB (fun _ => false) m m 1), (false, fillB (fun _ => false) h h 1), (true, fillB (fun _ => false) 1 31 1), (true, fillB (fun _ => false) 1 12 1), (true, fillB (fun _ => false) 0 6 1)⟩
theorem field_one {s : ByteArray} {lo hi i j v : Nat} (h1 : byteAt s i ≠ 42) (h2 : pItem s lo hi i = .ok (j, (v, v, 1))) (h3 : byteAt s j = 32) (h4 : i ≤ s.size) : pField s lo hi i = .ok (j, (false, fillB (fun _ => false) v v 1)) := by
  unfold pField
  rw [if_neg h1, show s.size + 2 - i = (s.size + 1 - i) + 1 by omega]
  unfold pItems
  rw [h2]
  simp only [Except.bind]
  rw [if_neg (by rw [h3]; decide)]
theorem field_star {s : ByteArray} {lo hi i : Nat} (h1 : byteAt s i = 42) (h2 : byteAt s (i + 1) ≠ 47) : pField s lo hi i = .ok (i + 1, (true, fillB (fun _ => false) lo hi 1)) := by
  unfold pField pStep
  rw [if_pos h1, if_neg h2]
  rfl
theorem eat_one {s : ByteArray} {i : Nat} (h : byteAt s i = 32) : pEat s 32 i = .ok (i + 1) := by unfold pEat; rw [if_pos h]

theorem once_fields {m h : Nat} (hm : m < 60) (hh : h < 24) : pFields (onceS m h) = .ok (onceF m h) ∧ (onceS m h).size ≤ 100 := by
  have g1 := List.all_eq_true.1 once_all m (List.mem_range.2 hm)
  have g2 := List.all_eq_true.1 g1 h (List.mem_range.2 hh)
  unfold onceOk at g2
  simp only [Bool.and_eq_true, decide_eq_true_eq] at g2
  have hl1 : lenS m ≤ 2 := by unfold lenS; split <;> omega
  have hl2 : lenS h ≤ 2 := by unfold lenS; split <;> omega
  generalize onceS m h = s at g2 ⊢
  generalize hA : lenS m = a at g2 hl1
  generalize hB : lenS h = b' at g2 hl2
  obtain ⟨⟨⟨⟨⟨⟨⟨⟨⟨⟨⟨c0, c1⟩, c2⟩, c3⟩, c4⟩, c5⟩, c6⟩, c7⟩, c8⟩, c9⟩, c10⟩, c11⟩ := g2
  have i1 := itemIs_eq c1
  have i2 := itemIs_eq c4
  refine ⟨?_, by omega⟩
  unfold pFields
  rw [field_one c0 i1 c2 (Nat.zero_le _)]
  simp only [Except.bind]
  rw [eat_one c2]
  simp only []
  rw [field_one c3 i2 c5 (by omega)]
  simp only []
  rw [eat_one c5]
  simp only []
  rw [field_star c6 (by rw [show a + 1 + b' + 1 + 1 = a + 1 + b' + 2 by omega, c7]; decide)]
  simp only []
  rw [eat_one c7]
  simp only []
  rw [field_star c8 (by rw [show a + 1 + b' + 2 + 1 + 1 = a + 1 + b' + 4 by omega, c9]; decide)]
  simp only []
  rw [eat_one c9]
  simp only []
  rw [field_star c10 (by rw [byteAt_out (by omega)]; decide)]
  simp only []
  rw [if_neg (by omega)]
  rfl
end Go.Proofs.YtnnhnihgeheahaaGreatDoor

/- Once, purely: what fits; the date and the time as they are told. -/
set_option linter.unusedSimpArgs false
set_option linter.unusedVariables false
namespace Go.Proofs.YtnnhnihgeheahaaGreatDoor

theorem fill_one (v k : Nat) (hv : v < 60) : fillB (fun _ => false) v v 1 k = decide (k = v) := by
  unfold fillB
  by_cases h : k = v
  · subst h; simp [hv]
  · simp only [Bool.false_or, h, decide_false]
    rw [Bool.and_eq_false_iff]
    left
    rw [Bool.and_eq_false_iff]
    left
    rw [Bool.and_eq_false_iff]
    left
    rw [Bool.and_eq_false_iff]
    by_cases h1 : v ≤ k
    · right; simp; omega
    · left; simp; omega
theorem fill_all (lo hi k : Nat) (h1 : lo ≤ k) (h2 : k ≤ hi) (h3 : k < 60) : fillB (fun _ => false) lo hi 1 k = true := by
  unfold fillB
  simp [h1, h2, h3, Nat.mod_one]

theorem once_fits {m h : Nat} (hm : m < 60) (hh : h < 24) (c : Int) : Cal.fits (onceF m h) c = true ↔ (c + 5260320).toNat % 1440 = 60 * h + m := by
  obtain ⟨n, mm, k, hIs⟩ := Cal.Is.there2 ((c + 5260320).toNat / 1440)
  unfold Cal.fits
  rw [Cal.fitsDay_eq hIs]
  have hk := hIs.2.1
  have hm12 := hIs.2.2
  have hml := (Cal.ml_bd (1960 + n) (mm + 1)).2
  have hday : Cal.dayOk (onceF m h) mm k ((c + 5260320).toNat / 1440) = true := by
    unfold Cal.dayOk onceF
    simp only [Bool.true_eq_false, and_self, if_false]
    rw [fill_all 1 12 (mm + 1) (by omega) (by omega) (by omega), fill_all 1 31 (k + 1) (by omega) (by omega) (by omega), fill_all 0 6 _ (by omega) (by omega) (by omega)]
    rfl
  rw [hday, Bool.and_true]
  generalize (c + 5260320).toNat % 1440 = T
  unfold Cal.fitsTime onceF
  simp only []
  rw [fill_one m _ hm, fill_one h _ (by omega), Bool.and_eq_true, decide_eq_true_eq, decide_eq_true_eq]
  omega

theorem once_set (m h : Nat) : Cal.isSet (onceF m h) = true := rfl

theorem told_size (N n m k : Nat) : (told N n m k).size = 18 := rfl
theorem told_at (N n m k : Nat) : byteAt (told N n m k) 11 = (UInt8.ofNat (48 + N % 1440 / 60 / 10)).toNat ∧ byteAt (told N n m k) 12 = (UInt8.ofNat (48 + N % 1440 / 60 % 10)).toNat ∧ byteAt (told N n m k) 14 = (UInt8.ofNat (48 + N % 1440 % 60 / 10)).toNat ∧ byteAt (told N n m k) 15 = (UInt8.ofNat (48 + N % 1440 % 60 % 10)).toNat := ⟨rfl, rfl, rfl, rfl⟩
theorem ofNat_small {x : Nat} (h : x < 256) : (UInt8.ofNat x).toNat = x := by
  rw [UInt8.toNat_ofNat']; omega
theorem told_time (N n m k : Nat) : (60 * (10 * ((byteAt (told N n m k) 11 : Int) - 48) + byteAt (told N n m k) (11 + 1) - 48) + (10 * ((byteAt (told N n m k) 14 : Int) - 48) + byteAt (told N n m k) (14 + 1) - 48)) = ((N % 1440 : Nat) : Int) := by
  obtain ⟨h1, h2, h3, h4⟩ := told_at N n m k
  have hT : N % 1440 < 1440 := Nat.mod_lt _ (by omega)
  rw [ofNat_small (by omega)] at h1 h2 h3 h4
  rw [h1, h2, h3, h4]
  omega
def dateS (n m k : Nat) : ByteArray := ⟨#[UInt8.ofNat (48 + (1960 + n) / 100 / 10), UInt8.ofNat (48 + (1960 + n) / 100 % 10), UInt8.ofNat (48 + (1960 + n) % 100 / 10), UInt8.ofNat (48 + (1960 + n) % 100 % 10), 45, UInt8.ofNat (48 + (1 + m) / 10), UInt8.ofNat (48 + (1 + m) % 10), 45, UInt8.ofNat (48 + (k + 1) / 10), UInt8.ofNat (48 + (k + 1) % 10)]⟩
theorem told_date (N n m k : Nat) : (told N n m k).extract 0 10 = dateS n m k := by kernel_rfl
theorem ofNat_inj {x y : Nat} (hx : x < 256) (hy : y < 256) (h : UInt8.ofNat x = UInt8.ofNat y) : x = y := by
  have := congrArg UInt8.toNat h
  rwa [ofNat_small hx, ofNat_small hy] at this
theorem date_inj {n m k n' m' k' : Nat} (hn : n < 1000) (hm : m < 12) (hk : k < 31) (hn' : n' < 1000) (hm' : m' < 12) (hk' : k' < 31) (h : dateS n m k = dateS n' m' k') : n = n' ∧ m = m' ∧ k = k' := by
  unfold dateS at h
  simp only [ByteArray.mk.injEq, Array.mk.injEq, List.cons.injEq, and_true, true_and] at h
  obtain ⟨h1, h2, h3, h4, h5, h6, h7, h8⟩ := h
  have h1 := ofNat_inj (by omega) (by omega) h1
  have h2 := ofNat_inj (by omega) (by omega) h2
  have h3 := ofNat_inj (by omega) (by omega) h3
  have h4 := ofNat_inj (by omega) (by omega) h4
  have h5 := ofNat_inj (by omega) (by omega) h5
  have h6 := ofNat_inj (by omega) (by omega) h6
  have h7 := ofNat_inj (by omega) (by omega) h7
  have h8 := ofNat_inj (by omega) (by omega) h8
  omega
theorem Cal.Is.bd {D n m k : Nat} (h : Cal.Is D n m k) (hD : D ≤ 100000) : n < 1000 ∧ m < 12 ∧ k < 31 := by
  have h1 := h.year.1
  have h2 := Cal.yd_ge n
  have h3 := (Cal.ml_bd (1960 + n) (m + 1)).2
  have h4 := h.2.1
  exact ⟨by omega, h.2.2, by omega⟩
/-- The date tells the day. -/
theorem date_day {N n m k N' n' m' k' : Nat} (hN : N ≤ 100000000) (hN' : N' ≤ 100000000) (h : Cal.Is (N / 1440) n m k) (h' : Cal.Is (N' / 1440) n' m' k') : dateS n' m' k' = dateS n m k ↔ N' / 1440 = N / 1440 := by
  obtain ⟨a1, a2, a3⟩ := h.bd (by omega)
  obtain ⟨b1, b2, b3⟩ := h'.bd (by omega)
  constructor
  · intro e
    obtain ⟨rfl, rfl, rfl⟩ := date_inj b1 b2 b3 a1 a2 a3 e
    rw [← h.1, ← h'.1]
  · intro e
    rw [e] at h'
    obtain ⟨rfl, rfl, rfl⟩ := Cal.Is.unique h' h
    rfl

/-- Minute t of the program is told on the day of minute u, and the job runs then: just at x. -/
theorem once_min {z : Zon} (hz : Cal.Fine z) {m h : Nat} (hm : m < 60) (hh : h < 24) {u : Int} (hu1 : 2000 ≤ u) (hu2 : u ≤ 69998000) {N : Nat} (hN : Cal.shown z u = (N : Int) - 5260320) :
    ∃ x : Int, u - (N % 1440 : Nat) - 250 ≤ x ∧ x ≤ u - (N % 1440 : Nat) + 1700 ∧
      ∀ (t : Int) (N' : Nat), 0 ≤ t → Cal.shown z t = (N' : Int) - 5260320 → ((Cal.Runs z (onceF m h) (t + z.offset) ∧ N' / 1440 = N / 1440) ↔ t = x) := by
  have ho := hz.good.offset
  have hs := hz.good.shift
  have hsh : ∀ t, Cal.shown z t = (t + z.offset) + Cal.ahead z (t + z.offset) := fun t => rfl
  have hah : ∀ s, 0 ≤ Cal.ahead z s ∧ Cal.ahead z s ≤ 120 := by
    intro s; unfold Cal.ahead; split <;> omega
  have hu := hsh u
  have hau := hah (u + z.offset)
  have hN2 := Nat.div_add_mod N 1440
  have hN3 : N % 1440 < 1440 := Nat.mod_lt _ (by omega)
  obtain ⟨s, h1, h2, ⟨h3, h4, h5⟩, h6⟩ := Cal.once hz (once_set m h) (T := 60 * h + m) (by omega) (fun c _ => once_fits hm hh c) (D0 := (1440 * (N / 1440) : Nat) - 5260320) (τ := ((1440 * (N / 1440) : Nat) - 5260320) + (60 * h + m : Nat)) (by omega) (by omega) rfl
  refine ⟨s - z.offset, by omega, by omega, fun t N' ht hN' => ?_⟩
  have ht2 := hsh t
  have hat := hah (t + z.offset)
  constructor
  · rintro ⟨g1, g2⟩
    have := h6 (t + z.offset) (by omega) g1 (by omega) (by omega)
    omega
  · rintro rfl
    have e : s - (z.offset : Int) + z.offset = s := by omega
    rw [e] at ht2
    refine ⟨by rw [e]; exact h3, by omega⟩
end Go.Proofs.YtnnhnihgeheahaaGreatDoor

/- Once, as a law over the contracts. -/
set_option linter.unusedSimpArgs false
set_option linter.unusedVariables false
namespace Go.Proofs.YtnnhnihgeheahaaGreatDoor
open Go.RowKit

set_option maxRecDepth 8000 in
set_option maxHeartbeats 4000000 in
theorem law_Once_out (z : ByteArray) (t h m : Int) (w : World) (hz : z.size ≤ 281474976710656) (hL : Laid w) (b : Bool) (hb : b = decide ((checkN z stars).1 = 0)) (hout : b = false ∨ (b = true ∧ (h < 0 ∨ 23 < h ∨ m < 0 ∨ 59 < m ∨ t < 2000 ∨ 69998000 < t))) :
    Calls Tryz.prog 5 #[.string z, .int .i64 t, .int .i64 h, .int .i64 m] w (LawSaidF w) := by
  have HL := hide hL
  have HB := hide hb
  clear hL hb
  rcases hout with rfl | ⟨rfl, g⟩
  rotate_left
  rcases g with g | g | g | g | g | g
  all_goals
    go_enter Tryz.func5, Tryz.ntmps5
    go_wp2_with (first
      | (go_at_call 22
         refine (law_alive _ (unhide HL).e (unhide HL).t (unhide HL).m (unhide HL).b (unhide HL).p).mono ?_
         rintro e w1 ⟨rfl, ho1⟩
         have HO1 := hide ho1
         clear ho1)
      | (go_at_call 23
         refine (law_right z _ (unhide HB) _ hz).mono ?_
         rintro e w2 ⟨rfl, ho2⟩
         have HO2 := hide ((unhide HO1).trans ho2)
         clear ho2))
    all_goals first
      | (go_ret
         exact ⟨rfl, Only.below (unhide HO2) (Nat.le_refl _) (by simp)⟩)
      | (exfalso; omega)

theorem toList_ne {a b : ByteArray} (h : ¬ a = b) : (a.toList == b.toList) = false := by
  rw [beq_eq_false_iff_ne]
  intro e
  rw [Go.ByteArray.toList_eq, Go.ByteArray.toList_eq] at e
  exact h (Go.WideShapes.bytes_inj e)
theorem right_ok {z : ByteArray} (h : (checkN z stars).1 = 0) : z.size ≤ 100 ∧ ∃ zn, pZone z = .ok zn := by
  rw [check_stars] at h
  split at h
  · cases h
  · rename_i hs
    refine ⟨by omega, ?_⟩
    cases hp : pZone z with
    | error q => rw [hp] at h; cases h
    | ok zn => exact ⟨zn, rfl⟩
theorem once_run {z : ByteArray} {zn : Zon} (hs : z.size ≤ 100) (hz : pZone z = .ok zn) {m h : Nat} (hm : m < 60) (hh : h < 24) (t : Int) (ht1 : 0 ≤ t) (ht2 : t ≤ 70000000) : runN z (onceS m h) t = 0 := by
  obtain ⟨h1, h2⟩ := once_fields hm hh
  have hc : checkN z (onceS m h) = (0, 0) := by
    unfold checkN
    rw [if_neg (by omega), hz, h1]
  unfold runN
  rw [hc, if_neg (by simp), if_neg (by omega)]

/-- What Local and Runs say, at every minute: whether it is the day's and runs. -/
theorem once_calls {z : ByteArray} {zn : Zon} (hs : z.size ≤ 100) (hz : pZone z = .ok zn) {m h : Nat} (hm : m < 60) (hh : h < 24) {u : Int} (hu1 : 2000 ≤ u) (hu2 : u ≤ 69998000) :
    ∃ (S : ByteArray) (now : Nat) (x : Int), S.size = 18 ∧ now < 1440 ∧ u - now - 250 ≤ x ∧ x ≤ u - now + 1700 ∧
      (60 * (10 * ((byteAt S 11 : Int) - 48) + byteAt S (11 + 1) - 48) + (10 * ((byteAt S 14 : Int) - 48) + byteAt S (14 + 1) - 48)) = (now : Int) ∧
      (48 ≤ byteAt S 11 ∧ byteAt S 11 ≤ 57) ∧ (48 ≤ byteAt S 12 ∧ byteAt S 12 ≤ 57) ∧ (48 ≤ byteAt S 14 ∧ byteAt S 14 ≤ 57) ∧ (48 ≤ byteAt S 15 ∧ byteAt S 15 ≤ 57) ∧
      (∀ w', Laid w' → Calls Tryz.prog 13 #[.string z, .int .i64 u] w' fun e w'' => e = .returned (.tuple #[.string S, .int .i64 0]) ∧ Only [] w' w'') ∧
      (∀ (t : Int), 0 ≤ t → t ≤ 70000000 → ∃ (b : Bool) (R : ByteArray), R.size = 18 ∧ ((b = true ∧ R.extract 0 10 = S.extract 0 10) ↔ t = x) ∧
        (∀ w', Laid w' → Calls Tryz.prog 19 #[.string z, .string (onceS m h), .int .i64 t] w' fun e w'' => e = .returned (.tuple #[.bool b, .int .i64 0]) ∧ Only [] w' w'') ∧
        (∀ w', Laid w' → Calls Tryz.prog 13 #[.string z, .int .i64 t] w' fun e w'' => e = .returned (.tuple #[.string R, .int .i64 0]) ∧ Only [] w' w'')) := by
  have hfine : Cal.Fine zn := pZone_fine hz
  have hg := hfine.good
  have ho := hg.offset
  have hsh := hg.shift
  have hb : ∀ t : Int, 0 ≤ t → t ≤ 70000000 → 0 ≤ Cal.shown zn t + 5260320 ∧ Cal.shown zn t + 5260320 ≤ 100000000 := by
    intro t h1 h2
    unfold Cal.shown
    split <;> omega
  have hN : ∀ t : Int, 0 ≤ t → t ≤ 70000000 → ∃ (N n mm k : Nat), Cal.shown zn t = (N : Int) - 5260320 ∧ N ≤ 100000000 ∧ Cal.Is (N / 1440) n mm k := by
    intro t h1 h2
    obtain ⟨a1, a2⟩ := hb t h1 h2
    obtain ⟨n, mm, k, hIs⟩ := Cal.Is.there2 ((Cal.shown zn t + 5260320).toNat / 1440)
    exact ⟨_, n, mm, k, by omega, by omega, hIs⟩
  obtain ⟨N, n, mm, k, hNu, hNb, hIs⟩ := hN u (by omega) (by omega)
  obtain ⟨x, hx1, hx2, hx⟩ := once_min hfine hm hh hu1 hu2 hNu
  obtain ⟨f1, f2⟩ := once_fields hm hh
  have hT : N % 1440 < 1440 := Nat.mod_lt _ (by omega)
  obtain ⟨t1, t2, t3, t4⟩ := told_at N n mm k
  rw [ofNat_small (by omega)] at t1 t2 t3 t4
  refine ⟨told N n mm k, N % 1440, x, told_size _ _ _ _, hT, hx1, hx2, told_time _ _ _ _, by omega, by omega, by omega, by omega, fun w' hL => ?_, fun t ht1 ht2 => ?_⟩
  · exact c_Local_ok z u zn N n mm k w' hs hL.e hL.m hL.p hz (by omega) (by omega) hNu hIs
  · obtain ⟨N', n', mm', k', hNt, hNb', hIs'⟩ := hN t ht1 ht2
    refine ⟨@decide (Cal.Runs zn (onceF m h) (t + zn.offset)) (Classical.propDecidable _), told N' n' mm' k', told_size _ _ _ _, ?_, fun w' hL => ?_, fun w' hL => ?_⟩
    · rw [told_date, told_date, date_day hNb hNb' hIs hIs', @decide_eq_true_iff _ (Classical.propDecidable _)]
      exact hx t N' ht1 hNt
    · refine (runs_R (by omega) (by omega) (once_run hs hz hm hh t ht1 ht2) hz f1 w' hL).mono ?_
      rintro e w'' ⟨⟨b, rfl, hb⟩, ho⟩
      refine ⟨ret_bi ?_ rfl, ho⟩
      exact Bool.eq_iff_iff.2 (hb.trans (by rw [@decide_eq_true_iff _ (Classical.propDecidable _)]))
    · exact c_Local_ok z t zn N' n' mm' k' w' hs hL.e hL.m hL.p hz ht1 ht2 hNt hIs'

set_option maxRecDepth 8000 in
set_option maxHeartbeats 8000000 in
theorem law_Once_in (z : ByteArray) (u : Int) (h m : Nat) (w : World) (hz : z.size ≤ 281474976710656) (hL : Laid w) (hr : (checkN z stars).1 = 0) (hh : h < 24) (hm : m < 60) (hu1 : 2000 ≤ u) (hu2 : u ≤ 69998000) :
    Calls Tryz.prog 5 #[.string z, .int .i64 u, .int .i64 (h : Int), .int .i64 (m : Int)] w (LawSaidF w) := by
  obtain ⟨hs, zn, hzn⟩ := right_ok hr
  obtain ⟨S, now, x, hS, hnow, hx1, hx2, hpair, hb1, hb2, hb3, hb4, hloc, hall⟩ := once_calls hs hzn hm hh hu1 hu2
  have HL := hide hL
  have HRT : Hid (true = decide ((checkN z stars).1 = 0)) := by rw [hr]; rfl
  have HLOC := hide hloc
  have HALL := hide hall
  have HP := hide hpair
  unfold onceS at HALL
  obtain ⟨Pm, hPm⟩ : ∃ Pm, Pm = plainS m := ⟨_, rfl⟩
  obtain ⟨Ph, hPh⟩ : ∃ Ph, Ph = plainS h := ⟨_, rfl⟩
  rw [← hPm, ← hPh] at HALL
  have hsm : Pm.size ≤ 2 := by rw [hPm]; unfold plainS; split <;> first | exact (show (1 : Nat) ≤ 2 by omega) | exact (show (2 : Nat) ≤ 2 by omega)
  have hsh : Ph.size ≤ 2 := by rw [hPh]; unfold plainS; split <;> first | exact (show (1 : Nat) ≤ 2 by omega) | exact (show (2 : Nat) ≤ 2 by omega)
  have HPm := hide hPm
  have HPh := hide hPh
  obtain ⟨a, ha⟩ : ∃ a : Int, a = 10 * ((byteAt S 11 : Int) - 48) + byteAt S (11 + 1) - 48 := ⟨_, rfl⟩
  obtain ⟨b, hb⟩ : ∃ b : Int, b = 10 * ((byteAt S 14 : Int) - 48) + byteAt S (14 + 1) - 48 := ⟨_, rfl⟩
  have hab : 60 * a + b = now := by rw [ha, hb]; exact hpair
  have hab2 : 0 ≤ a ∧ a ≤ 99 ∧ 0 ≤ b ∧ b ≤ 99 := by
    simp only [show (11 + 1 : Nat) = 12 from rfl, show (14 + 1 : Nat) = 15 from rfl] at ha hb
    omega
  have HA := hide ha
  have HB := hide hb
  clear hL hloc hall hpair hr hzn hPm hPh ha hb hb1 hb2 hb3 hb4
  go_enter Tryz.func5, Tryz.ntmps5
  go_wp2_with (first
    | (go_at_call 22
       refine (law_alive _ (unhide HL).e (unhide HL).t (unhide HL).m (unhide HL).b (unhide HL).p).mono ?_
       rintro e w1 ⟨rfl, ho⟩
       have HO := hide ho
       have HW := hide ((unhide HL).only ho)
       clear ho HL)
    | (go_at_call 23
       refine (law_right z _ (unhide HRT) _ hz).mono ?_
       rintro e w1 ⟨rfl, ho⟩
       have hO := (unhide HO).trans ho
       have hW := (unhide HW).only ho
       clear HO HW ho HRT
       have HO := hide hO
       have HW := hide hW
       clear hO hW)
    | (go_at_call 24
       refine (law_plain m _ (by omega) _ (by omega)).mono ?_
       rintro e w1 ⟨rfl, ho⟩
       rw [← unhide HPm]
       have hO := (unhide HO).trans ho
       have hW := (unhide HW).only ho
       clear HO HW ho HPm
       have HO := hide hO
       have HW := hide hW
       clear hO hW)
    | (go_at_call 24
       refine (law_plain h _ (by omega) _ (by omega)).mono ?_
       rintro e w1 ⟨rfl, ho⟩
       rw [← unhide HPh]
       have hO := (unhide HO).trans ho
       have hW := (unhide HW).only ho
       clear HO HW ho HPh
       have HO := hide hO
       have HW := hide hW
       clear hO hW)
    | (go_at_call 13
       refine (unhide HLOC _ (unhide HW)).mono ?_
       rintro e w1 ⟨rfl, ho⟩
       have hO := (unhide HO).trans ho
       have hW := (unhide HW).only ho
       clear HO HW ho HLOC
       have HO := hide hO
       have HW := hide hW
       clear hO hW)
    | (go_at_call 25; refine (law_known 0 true rfl _).mono ?_; rintro e w6 ⟨rfl, hw⟩; rw [hw]; clear hw)
    | (go_at_call 26
       refine (law_pair S 11 _ (by omega) _ (by omega) (by omega)).mono ?_
       rintro e w1 ⟨rfl, nn, rfl⟩
       rw [← unhide HA]
       have hO := (unhide HO).drewN nn
       have hW := (unhide HW).only ((Only.refl _ _).drewN nn)
       clear HO HW HA
       have HO := hide hO
       have HW := hide hW
       clear hO hW)
    | (go_at_call 26
       refine (law_pair S 14 _ (by omega) _ (by omega) (by omega)).mono ?_
       rintro e w1 ⟨rfl, nn, rfl⟩
       rw [← unhide HB]
       have hO := (unhide HO).drewN nn
       have hW := (unhide HW).only ((Only.refl _ _).drewN nn)
       clear HO HW HB
       have HO := hide hO
       have HW := hide hW
       clear hO hW))
  go_loopg [15, 17] 2000 (fun g xn xt wr => Hid (Laid wr ∧ Only [] w wr) ∧ ∃ t c : Int, xt = .int .i64 t ∧ xn = .int .i64 c ∧ u - now - 250 ≤ t ∧ t ≤ u - now + 1701 ∧ (c = 0 ∨ c = 1) ∧ Hid (c = if x < t then 1 else 0) ∧ Hid (t + g = u - now + 1750))
  case atStart => exact ⟨⟨by rw [← World.drewN_drewN]; exact unhide HW, by rw [← World.drewN_drewN]; exact unhide HO⟩, u - now - 250, 0, by go_num, rfl, by omega, by omega, .inl rfl, by simp only [Hid]; rw [if_neg (by omega)], by simp only [Hid]; omega⟩
  case round =>
    obtain ⟨HX, t, c, rfl, rfl, ht1, ht2, hc01, HC, HG⟩ := hrel
    clear HO HW
    obtain ⟨hW, hO⟩ := unhide HX
    have HW := hide hW
    have HO := hide hO
    clear hW hO HX
    by_cases hlt : t ≤ u - now + 1700
    · obtain ⟨b, R, hR, hiff, hruns, hlocal⟩ := unhide HALL t (by omega) (by omega)
      have HI := hide hiff
      have HRU := hide hruns
      have HLO := hide hlocal
      clear hiff hruns hlocal HALL
      cases b
      · go_wp2_with (first
          | (go_at_call 19
             refine (unhide HRU _ (unhide HW)).mono ?_
             rintro e w1 ⟨rfl, ho⟩
             have hO := (unhide HO).trans ho
             have hW := (unhide HW).only ho
             clear HO HW ho
             have HO := hide hO
             have HW := hide hW
             clear hO hW)
          | (go_at_call 25; refine (law_known 0 true rfl _).mono ?_; rintro e w6 ⟨rfl, hw⟩; rw [hw]; clear hw))
        go_roundg (gk - 1)
        case rel =>
          refine ⟨⟨unhide HW, unhide HO⟩, t + 1, c, by go_num, rfl, by omega, by omega, hc01, ?_, by have := unhide HG; simp only [Hid]; omega⟩
          have hne : t ≠ x := fun e => by have := (unhide HI).2 e; simp at this
          have := unhide HC
          simp only [Hid]
          rw [this]
          by_cases h : x < t
          · rw [if_pos h, if_pos (by omega)]
          · rw [if_neg h, if_neg (by omega)]
        case measure => have := unhide HG; omega
      · by_cases heq : R.extract 0 10 = S.extract 0 10
        · go_wp2_with (first
            | (go_at_call 19
               refine (unhide HRU _ (unhide HW)).mono ?_
               rintro e w1 ⟨rfl, ho⟩
               have hO := (unhide HO).trans ho
               have hW := (unhide HW).only ho
               clear HO HW ho
               have HO := hide hO
               have HW := hide hW
               clear hO hW)
            | (go_at_call 25; refine (law_known 0 true rfl _).mono ?_; rintro e w6 ⟨rfl, hw⟩; rw [hw]; clear hw)
            | (go_at_call 13
               refine (unhide HLO _ (unhide HW)).mono ?_
               rintro e w1 ⟨rfl, ho⟩
               have hO := (unhide HO).trans ho
               have hW := (unhide HW).only ho
               clear HO HW ho
               have HO := hide hO
               have HW := hide hW
               clear hO hW))
          go_quiet (fail)
          go_wp2
          go_roundg (gk - 1)
          case rel =>
            have htx : t = x := (unhide HI).1 (by simp [heq])
            have hc0 : c = 0 := by have := unhide HC; rw [if_neg (by omega)] at this; exact this
            refine ⟨⟨(unhide HW).only ((Only.refl _ _).drewN _), (unhide HO).drewN _⟩, t + 1, c + 1, by go_num, by go_num, by omega, by omega, by omega, ?_, by have := unhide HG; simp only [Hid]; omega⟩
            simp only [Hid]
            rw [if_pos (by omega)]
            omega
          case measure => have := unhide HG; omega
        · have hlist := toList_ne heq
          go_wp2_with (first
            | (go_at_call 19
               refine (unhide HRU _ (unhide HW)).mono ?_
               rintro e w1 ⟨rfl, ho⟩
               have hO := (unhide HO).trans ho
               have hW := (unhide HW).only ho
               clear HO HW ho
               have HO := hide hO
               have HW := hide hW
               clear hO hW)
            | (go_at_call 25; refine (law_known 0 true rfl _).mono ?_; rintro e w6 ⟨rfl, hw⟩; rw [hw]; clear hw)
            | (go_at_call 13
               refine (unhide HLO _ (unhide HW)).mono ?_
               rintro e w1 ⟨rfl, ho⟩
               have hO := (unhide HO).trans ho
               have hW := (unhide HW).only ho
               clear HO HW ho
               have HO := hide hO
               have HW := hide hW
               clear hO hW))
          go_quiet (fail)
          go_wp2
          go_roundg (gk - 1)
          case rel =>
            have hne : t ≠ x := fun e => heq ((unhide HI).2 e).2
            refine ⟨⟨(unhide HW).only ((Only.refl _ _).drewN _), (unhide HO).drewN _⟩, t + 1, c, by go_num, by go_num, by omega, by omega, hc01, ?_, by have := unhide HG; simp only [Hid]; omega⟩
            have := unhide HC
            simp only [Hid]
            rw [this]
            by_cases h : x < t
            · rw [if_pos h, if_pos (by omega)]
            · rw [if_neg h, if_neg (by omega)]
          case measure => have := unhide HG; omega
    · have hc1 : c = 1 := by have := unhide HC; rw [if_pos (by omega)] at this; exact this
      subst hc1
      go_wp2
      go_ret
      exact ⟨rfl, Only.below (unhide HO) (Nat.le_refl _) (by simp)⟩

theorem law_Once (z : ByteArray) (t h m : Int) (w : World) (hz : z.size ≤ 281474976710656) (hL : Laid w) : Calls Tryz.prog 5 #[.string z, .int .i64 t, .int .i64 h, .int .i64 m] w (LawSaidF w) := by
  by_cases hr : (checkN z stars).1 = 0
  · by_cases hin : (0 ≤ h ∧ h ≤ 23) ∧ (0 ≤ m ∧ m ≤ 59) ∧ 2000 ≤ t ∧ t ≤ 69998000
    · obtain ⟨⟨h1, h2⟩, ⟨m1, m2⟩, t1, t2⟩ := hin
      obtain ⟨hn, rfl⟩ := Int.eq_ofNat_of_zero_le h1
      obtain ⟨mn, rfl⟩ := Int.eq_ofNat_of_zero_le m1
      exact law_Once_in z t hn mn w hz hL hr (by omega) (by omega) t1 t2
    · exact law_Once_out z t h m w hz hL true (by simp [hr]) (.inr ⟨rfl, by omega⟩)
  · exact law_Once_out z t h m w hz hL false (by simp [hr]) (.inl rfl)
end Go.Proofs.YtnnhnihgeheahaaGreatDoor

/- Once: the law out of the contracts, the row, the card. -/
set_option linter.unusedSimpArgs false
set_option linter.unusedVariables false
namespace Go.Proofs.YtnnhnihgeheahaaGreatDoor
open Go.ChangeShapes Go.WideShapes Go.ChangeAt Go.WideMaps Go.WideElems Go.RowKit
open Go.ChangeMaps (open_string shut_string)

theorem tPow : (Tryz.prog.globals[2]?).map (·.type) = some 243 := by kernel_rfl
theorem pow_of {W : World} (h : laidMetH Tryz.prog laidAll W) : Pow W := by
  rw [MakeChecks.laidMetH_plain _ _ _ (by kernel_rfl)] at h
  have h2 : laidMet Tryz.prog [("internal/strconv.uint64pow10", Lib.tabData .u64 Lib.pow10Tab), ("strconv.ErrRange", Rows.laid_strconv_ErrRange), ("strconv.ErrSyntax", Rows.laid_strconv_ErrSyntax), ("tock/tock.monthLengths", Rows.laid_tock_tock_monthLengths), ("tock/tock.fieldBounds", Rows.laid_tock_tock_fieldBounds)] W := h.tail.tail
  exact Lib.tabIs_of_head gPow tPow Tryz.underlying243 Tryz.underlying97 (by kernel_rfl) (by kernel_rfl) h2

set_option maxRecDepth 100000 in
theorem lifted (os : Os) (started : os.Started) (H : Type) (enc : TypeId × Value → H) :
    ReturnsInHanded {} Tryz.checked os 5 .any (fun w args => (Rows.onceSpec.pre enc Tryz.prog Tryz.f5 [] false w args ∧ laidMetH Tryz.prog laidAll w) ∧ sizedMet enc Tryz.prog Tryz.f5 (OpenSpec.ofChange Rows.onceSpec) false w args)
      (Rows.onceSpec.post enc Tryz.prog Tryz.f5 false true false false) := by
  refine returnsInHanded_of_change_and (C := Tryz.checked) (X := fun w _ => laidMetH Tryz.prog laidAll w) (fun _ _ _ hh h => h.of_heap hh) own started (by kernel_rfl) Tryz.func5
    (ChangeSpec.witness_shaped (enc := enc) (C := Tryz.checked) (os := os) (X := fun w _ => laidMetH Tryz.prog laidAll w) false (World.doorLaid Tryz.prog 400 os) #[.string ⟨#[]⟩, .int .i64 0, .int .i64 0, .int .i64 0] 8 rfl (World.shaped_of_RefB (by kernel_rfl) (by kernel_rfl)) (by kernel_rfl) (by kernel_rfl) (by kernel_rfl) (door_met os _)) ?_
  intro W base args ds gs before hval0 hW _ hsz0 hL _
  have hsz : (DataW.weightsEach Tryz.prog (Tryz.f5.params.toList ++ Rows.onceSpec.plain.varTypes Tryz.prog) (ds ++ gs)).all (· ≤ reachBytes) = true := hsz0
  clear hsz0
  have hval : ∀ (j : Nat) t v, Tryz.f5.params[j]? = some t → args[j]? = some v → Value.okWide Tryz.prog W .any base t v := hval0
  have hW' := hW
  obtain ⟨p, q, hA0, hV, rfl, _, _⟩ := hW
  have hA : DataW.TrodAll enc Tryz.prog W 0 (fun _ => true) true Tryz.f5.params.toList args.toList ds p := hA0
  rw [Tryz.params5] at hA hval hsz
  obtain ⟨v0, v1, v2, v3, d0, d1, d2, d3, p0, p1, p2, p3, rfl, rfl, rfl, h0, h1, h2, h3⟩ := trodAll_four hA
  obtain ⟨rfl, rfl⟩ := trodVars_none hV
  obtain ⟨f, rfl, rfl, rfl, hf⟩ := open_string Tryz.underlying9 (hval 0 9 v0 rfl rfl) h0
  obtain ⟨t, rfl, rfl, rfl, ht⟩ := open_int Tryz.underlying3 (hval 1 3 v1 rfl rfl) h1
  obtain ⟨h, rfl, rfl, rfl, hh⟩ := open_int Tryz.underlying3 (hval 2 3 v2 rfl rfl) h2
  obtain ⟨m, rfl, rfl, rfl, hm⟩ := open_int Tryz.underlying3 (hval 3 3 v3 rfl rfl) h3
  clear hA0 hval0
  simp only [List.append_nil] at hW'
  have e3 : (2 : Nat) ^ 47 = 140737488355328 := by decide
  have h2 := reachBytes_lt
  have hlf : f.size ≤ 281474976710656 := by
    have h1 := sized_string hsz (j := 0) (t := 9) rfl rfl
    have e2 : f.data.toList.length = f.size := by simp
    omega
  obtain ⟨hE, hT, hM, hB⟩ := of_laid hL
  refine (law_Once f t h m W hlf ⟨hE, hT, hM, hB, pow_of hL⟩).mono fun e W' ⟨he, hnx⟩ => ?_
  subst he
  refine ⟨_, rfl, _, _, _, [], [], [], hW', ?_, ?_, rfl, hnx.frame _, fun h => by cases h⟩
  · exact trodAll_mk1 (shut_bool Tryz.underlying4 _)
  · exact trodAll_mk4 (shut_string Tryz.underlying9 hf) (shut_int Tryz.underlying3 ht) (shut_int Tryz.underlying3 hh) (shut_int Tryz.underlying3 hm)

theorem once_row : Rows.OnceSaid :=
  OpenClaim.holds_of_wide 5 Tryz.f5 rfl rfl rfl rfl rfl rfl rfl ⟨rfl, rfl, rfl, rfl, rfl⟩ rfl rfl rfl rfl rfl (by kernel_rfl) Tryz.func5 (by kernel_rfl)
    (of_decide_eq_true (by kernel_rfl)) (by unfold Func.isWrapper; rw [if_neg (of_decide_eq_false (by kernel_rfl))]; exact ⟨rfl, rfl⟩)
    (fun os started H enc _ => lifted os started H enc)

theorem once_card : Rows.OnceCardSaid :=
  Claim7.holds_tied_plain_at .later [] [.data, .data, .data, .sentinel, .sentinel, .data, .data] true Rows.onceCard.stood.harness true
    once_row (fun _ h => by cases h) (by kernel_rfl) (fun _ h => by cases h) once_row_tie rfl ⟨rfl, rfl⟩ (by kernel_rfl) rfl
    (fun f fn hf hfn => by
      obtain rfl : f = 5 := Option.some.inj ((show Tryz.prog.funcNamed "tock/tocklaw.Once" = some 5 by kernel_rfl).symm.trans hf) |>.symm
      obtain rfl : fn = Tryz.f5 := (Option.some.inj (Tryz.func5.symm.trans hfn)).symm
      exact ⟨by kernel_rfl, fun j t ht => by
        rw [Tryz.params5] at ht
        have hm : t ∈ [9, 3, 3, 3] := by simpa using Array.mem_of_getElem? ht
        have hall : ([9, 3, 3, 3].all fun u => !Tryz.prog.wantsStandIn u) = true := by kernel_rfl
        exact (show Tryz.prog.wantsStandIn t = false by simpa using List.all_eq_true.1 hall t hm)⟩)
    (by kernel_rfl)
end Go.Proofs.YtnnhnihgeheahaaGreatDoor
