/- RefW, RefX, in one text. -/
import Derived.Test.YtnnhnihgeheahaaGreatDoorRefU
import Derived.Test.YtnnhnihgeheahaaGreatDoorRefM
import Derived.Test.YtnnhnihgeheahaaGreatDoorMStr
import Derived.Deep.LoopGhost
/- The reference's Fits. -/
set_option linter.unusedSimpArgs false
set_option linter.unusedVariables false
namespace Go.Proofs.YtnnhnihgeheahaaGreatDoor
open Go.RowKit

theorem fldV_m (F : Fld) (k : Nat) (hk : k < 60) : (fldV F)[k]? = some (.bool (F.m.2 k)) := by
  unfold fldV
  rw [fldA_get (setA_size _ _) (setA_size _ _) (setA_size _ _) (setA_size _ _) (setA_size _ _), if_pos (by omega), setA_get _ _ _ hk]
theorem fldV_h (F : Fld) (k : Nat) (hk : k < 60) : (fldV F)[61 + k]? = some (.bool (F.h.2 k)) := by
  unfold fldV
  rw [fldA_get (setA_size _ _) (setA_size _ _) (setA_size _ _) (setA_size _ _) (setA_size _ _), if_neg (by omega), if_pos (by omega), show 61 + k - 61 = k by omega, setA_get _ _ _ hk]
theorem fldV_d (F : Fld) (k : Nat) (hk : k < 60) : (fldV F)[122 + k]? = some (.bool (F.d.2 k)) := by
  unfold fldV
  rw [fldA_get (setA_size _ _) (setA_size _ _) (setA_size _ _) (setA_size _ _) (setA_size _ _), if_neg (by omega), if_neg (by omega), if_pos (by omega), show 122 + k - 122 = k by omega, setA_get _ _ _ hk]
theorem fldV_n (F : Fld) (k : Nat) (hk : k < 60) : (fldV F)[183 + k]? = some (.bool (F.n.2 k)) := by
  unfold fldV
  rw [fldA_get (setA_size _ _) (setA_size _ _) (setA_size _ _) (setA_size _ _) (setA_size _ _), if_neg (by omega), if_neg (by omega), if_neg (by omega), if_pos (by omega), show 183 + k - 183 = k by omega, setA_get _ _ _ hk]
theorem fldV_w (F : Fld) (k : Nat) (hk : k < 60) : (fldV F)[244 + k]? = some (.bool (F.w.2 k)) := by
  unfold fldV
  rw [fldA_get (setA_size _ _) (setA_size _ _) (setA_size _ _) (setA_size _ _) (setA_size _ _), if_neg (by omega), if_neg (by omega), if_neg (by omega), if_neg (by omega), show 244 + k - 244 = k by omega, setA_get _ _ _ hk]
theorem fldV_st (F : Fld) : (fldV F)[60]? = some (.bool F.m.1) ∧ (fldV F)[121]? = some (.bool F.h.1) ∧ (fldV F)[182]? = some (.bool F.d.1) ∧ (fldV F)[304]? = some (.bool F.w.1) := by
  unfold fldV
  refine ⟨?_, ?_, ?_, ?_⟩ <;> rw [fldA_get (setA_size _ _) (setA_size _ _) (setA_size _ _) (setA_size _ _) (setA_size _ _)]
  · exact setA_star _ _
  · exact setA_star _ _
  · exact setA_star _ _
  · exact setA_star _ _

set_option maxRecDepth 4000 in
set_option maxHeartbeats 2000000 in
theorem ref_Fits (F : Fld) (c : Int) (w : World) (hc1 : -4000000 ≤ c) (hc2 : c ≤ 80000000) :
    Calls Tryz.prog 50 #[.agg (fldV F), .int .i64 c] w fun e w' => e = .returned (.bool (Cal.fits F c)) ∧ Only [] w w' := by
  obtain ⟨C, hC⟩ : ∃ C, C = fldV F := ⟨_, rfl⟩
  have hsz : C.size = 305 := by rw [hC]; exact fldV_size F
  have hone : C.all (·.oneCell') = true := by rw [hC]; exact fldV_one F
  rw [← hC]
  have HC := hide hC
  clear hC
  obtain ⟨S, hS⟩ : ∃ S, S = (c + 5260320).toNat := ⟨_, rfl⟩
  have hSi : c = (S : Int) - 5260320 := by omega
  have hSb : S ≤ 100000000 := by omega
  have HSI := hide hSi
  have HFT : Hid (Cal.fits F c = (Cal.fitsTime F (S % 1440) && Cal.fitsDay F (S / 1440))) := by rw [hS]; rfl
  have hF0 : Blk (w.alloc (.cells C 43)) w.heap.size C 43 := Blk.new _ _ _
  have HF0 := hide hF0
  have HO0 := hide ((Only.refl [] w).alloc (.cells C 43))
  obtain ⟨bf, hbf⟩ : ∃ bf, bf = w.heap.size := ⟨_, rfl⟩
  rw [← hbf] at HF0
  clear hS hSi hF0
  go_enter Tryz.func50, Tryz.ntmps50
  go_upto_region 1 with fail
  rw [← hbf]
  clear hbf
  go_wp2_with (
    go_at_call 46
    refine (ref_Show S _ (unhide HSI) _ hSb).mono ?_
    rintro e w1 ⟨n, m, k, hIs, rfl, ho1⟩
    have hm12 := hIs.2.2
    have hk31 : k < 31 := by have := hIs.2.1; have := (Cal.ml_bd (1960 + n) (m + 1)).2; omega
    have hfd := Cal.fitsDay_eq (F := F) hIs
    obtain ⟨q, hq⟩ : ∃ q, q = S % 1440 / 60 := ⟨_, rfl⟩
    obtain ⟨r, hr⟩ : ∃ r, r = S % 1440 % 60 := ⟨_, rfl⟩
    obtain ⟨T, hT⟩ : ∃ T, T = S % 1440 := ⟨_, rfl⟩
    obtain ⟨W, hW⟩ : ∃ W, W = (S / 1440 + 5) % 7 := ⟨_, rfl⟩
    have hqr : q ≤ 23 ∧ r ≤ 59 ∧ W ≤ 6 ∧ T ≤ 1439 := by omega
    have hTq : (T : Int) / 60 = q := by omega
    have hTr : (T : Int) % 60 = r := by omega
    have hTq2 : (T : Int).tdiv 60 = q := by rw [Int.tdiv_eq_ediv_of_nonneg (by omega)]; omega
    have hTr2 : (T : Int).tmod 60 = r := by rw [Int.tmod_eq_emod_of_nonneg (by omega)]; omega
    have hfit : Cal.fits F c = (F.m.2 r && F.h.2 q && Cal.dayOk F m k (S / 1440)) := by
      rw [unhide HFT, hfd, hq, hr]; rfl
    unfold Cal.dayOk at hfit
    rw [← hW] at hfit
    have hP1 := (unhide HF0).only ho1 (by simp)
    obtain ⟨bm, hbm⟩ : ∃ bm, bm = F.m.2 r := ⟨_, rfl⟩
    obtain ⟨bh, hbh⟩ : ∃ bh, bh = F.h.2 q := ⟨_, rfl⟩
    obtain ⟨bn, hbn⟩ : ∃ bn, bn = F.n.2 (m + 1) := ⟨_, rfl⟩
    obtain ⟨bd, hbd⟩ : ∃ bd, bd = F.d.2 (k + 1) := ⟨_, rfl⟩
    obtain ⟨bw, hbw⟩ : ∃ bw, bw = F.w.2 W := ⟨_, rfl⟩
    obtain ⟨sd, hsd⟩ : ∃ sd, sd = F.d.1 := ⟨_, rfl⟩
    obtain ⟨sw, hsw⟩ : ∃ sw, sw = F.w.1 := ⟨_, rfl⟩
    rw [← hbm, ← hbh, ← hbn, ← hbd, ← hbw, ← hsd, ← hsw] at hfit
    have u0 : ∀ o, (w1.alloc o).cell? ⟨bf, r, none⟩ = some (.bool bm) := fun o => by rw [(hP1.alloc o).cell, unhide HC, fldV_m F r (by omega), hbm]
    have u1 : ∀ o, (w1.alloc o).cell? ⟨bf, 61 + q, none⟩ = some (.bool bh) := fun o => by rw [(hP1.alloc o).cell, unhide HC, fldV_h F q (by omega), hbh]
    have u2 : ∀ o, (w1.alloc o).cell? ⟨bf, 183 + (m + 1), none⟩ = some (.bool bn) := fun o => by rw [(hP1.alloc o).cell, unhide HC, fldV_n F (m + 1) (by omega), hbn]
    have u3 : ∀ o, (w1.alloc o).cell? ⟨bf, 122 + (k + 1), none⟩ = some (.bool bd) := fun o => by rw [(hP1.alloc o).cell, unhide HC, fldV_d F (k + 1) (by omega), hbd]
    have u4 : ∀ o, (w1.alloc o).cell? ⟨bf, 244 + W, none⟩ = some (.bool bw) := fun o => by rw [(hP1.alloc o).cell, unhide HC, fldV_w F W (by omega), hbw]
    have u5 : ∀ o, (w1.alloc o).cell? ⟨bf, 182, none⟩ = some (.bool sd) := fun o => by rw [(hP1.alloc o).cell, unhide HC, (fldV_st F).2.2.1, hsd]
    have u6 : ∀ o, (w1.alloc o).cell? ⟨bf, 304, none⟩ = some (.bool sw) := fun o => by rw [(hP1.alloc o).cell, unhide HC, (fldV_st F).2.2.2, hsw]
    have HFI := hide hfit
    have HO1 := hide (fun o => ((unhide HO0).trans ho1).alloc o)
    unfold dateV
    obtain ⟨M1, hM1⟩ : ∃ M1, M1 = 1 + m := ⟨_, rfl⟩
    obtain ⟨K1, hK1⟩ : ∃ K1, K1 = k + 1 := ⟨_, rfl⟩
    have hMK : M1 ≤ 12 ∧ K1 ≤ 31 := by omega
    rw [show 183 + (m + 1) = 183 + M1 by omega] at u2
    rw [← hK1] at u3
    rw [← hT, ← hW, ← hM1, ← hK1]
    clear hT hW hM1 hK1 hm12 hk31 hIs hfd hq hr hfit hbm hbh hbn hbd hbw hsd hsw hP1 ho1 HF0 HO0 HFT HSI
    have hsplit : bm = false ∨ (bm = true ∧ bh = false) ∨ (bm = true ∧ bh = true ∧ bn = false) ∨ (bm = true ∧ bh = true ∧ bn = true ∧ sd = false ∧ sw = false) ∨ (bm = true ∧ bh = true ∧ bn = true ∧ sd = true) ∨ (bm = true ∧ bh = true ∧ bn = true ∧ sd = false ∧ sw = true) := by cases bm <;> cases bh <;> cases bn <;> cases sd <;> cases sw <;> simp
    rcases hsplit with rfl | ⟨rfl, rfl⟩ | ⟨rfl, rfl, rfl⟩ | ⟨rfl, rfl, rfl, rfl, rfl⟩ | ⟨rfl, rfl, rfl, rfl⟩ | ⟨rfl, rfl, rfl, rfl, rfl⟩)
  all_goals
    go_ret
    refine ⟨ret_bool ?_, unhide HO1 _⟩
    rw [unhide HFI]
    cases bd <;> cases bw <;> first | rfl | contradiction | (simp; done)
end Go.Proofs.YtnnhnihgeheahaaGreatDoor

/- The reference's Runs. -/
set_option linter.unusedSimpArgs false
set_option linter.unusedVariables false
namespace Go.Proofs.YtnnhnihgeheahaaGreatDoor
open Go.RowKit

theorem runs_plain {z : Zon} {F : Fld} {s c : Int} (h : Cal.isSet F = false) (hc : c = s + Cal.ahead z s) : Cal.fits F c = true ↔ Cal.Runs z F s := by
  unfold Cal.Runs; rw [h, hc]; simp
theorem runs_skip {z : Zon} {F : Fld} {s k : Int} (h : Cal.isSet F = true) (h0 : Cal.summer z s = true) (h1 : Cal.summer z (s - 1) = false) (k1 : s ≤ k) (k2 : k < s + z.shift) (k3 : Cal.fits F k = true) : Cal.Runs z F s :=
  .inr ⟨h, .inl ⟨h0, h1, k, k1, k2, k3⟩⟩
theorem runs_noskip {z : Zon} {F : Fld} {s c : Int} (h : Cal.isSet F = true) (h0 : Cal.summer z s = true) (hn : Cal.summer z (s - 1) = true ∨ ∀ k, s ≤ k → k < s + z.shift → Cal.fits F k = false) (hc : c = s + Cal.ahead z s) : Cal.fits F c = true ↔ Cal.Runs z F s := by
  unfold Cal.Runs
  rw [h, h0, hc]
  constructor
  · intro hf; exact .inr ⟨rfl, .inr ⟨by simp, hf⟩⟩
  · rintro (⟨h2, _⟩ | ⟨_, ⟨_, h3, k, k1, k2, k3⟩ | ⟨_, hf⟩⟩)
    · cases h2
    · rcases hn with hn | hn
      · rw [hn] at h3; cases h3
      · rw [hn k k1 k2] at k3; cases k3
    · exact hf
theorem runs_seen {z : Zon} {F : Fld} {s : Int} (h : Cal.isSet F = true) (h0 : Cal.summer z s = false) (h2 : Cal.summer z (s - z.shift) = true) : ¬ Cal.Runs z F s := by
  unfold Cal.Runs
  rw [h, h0, h2]
  simp
theorem runs_unseen {z : Zon} {F : Fld} {s c : Int} (h : Cal.isSet F = true) (h0 : Cal.summer z s = false) (h2 : Cal.summer z (s - z.shift) = false) (hc : c = s + Cal.ahead z s) : Cal.fits F c = true ↔ Cal.Runs z F s := by
  unfold Cal.Runs
  rw [h, h0, h2, hc]
  simp

def RefRunsSaid (z : Zon) (F : Fld) (t : Int) (w : World) (e : Ending) (w' : World) : Prop := (∃ b : Bool, e = .returned (.bool b) ∧ (b = true ↔ Cal.Runs z F (t + z.offset))) ∧ Only [] w w'

set_option maxRecDepth 4000 in
set_option maxHeartbeats 4000000 in
theorem ref_Runs (z : Zon) (F : Fld) (t : Int) (w : World) (hz : z.Good) (ht1 : 0 ≤ t) (ht2 : t ≤ 70000000) :
    Calls Tryz.prog 21 #[zonV z, .agg (fldV F), .int .i64 t] w (RefRunsSaid z F t w) := by
  have hoff := hz.offset
  have hshf := hz.shift
  obtain ⟨C, hC⟩ : ∃ C, C = fldV F := ⟨_, rfl⟩
  have hsz : C.size = 305 := by rw [hC]; exact fldV_size F
  obtain ⟨sm, hsm⟩ : ∃ sm, sm = F.m.1 := ⟨_, rfl⟩
  obtain ⟨sf, hsf⟩ : ∃ sf, sf = F.h.1 := ⟨_, rfl⟩
  have HY0 : Hid (C[60]? = some (.bool sm)) := by rw [hC, hsm]; exact (fldV_st F).1
  have HY1 : Hid (C[121]? = some (.bool sf)) := by rw [hC, hsf]; exact (fldV_st F).2.1
  have HIS : Hid (Cal.isSet F = (!sm && !sf)) := by rw [hsm, hsf]; rfl
  obtain ⟨s, hs⟩ : ∃ s, s = t + z.offset := ⟨_, rfl⟩
  obtain ⟨c, hc⟩ : ∃ c, c = s + Cal.ahead z s := ⟨_, rfl⟩
  obtain ⟨S0, hS0⟩ : ∃ S0, S0 = Cal.summer z s := ⟨_, rfl⟩
  obtain ⟨S1, hS1⟩ : ∃ S1, S1 = Cal.summer z (s - 1) := ⟨_, rfl⟩
  obtain ⟨S2, hS2⟩ : ∃ S2, S2 = Cal.summer z (s - z.shift) := ⟨_, rfl⟩
  obtain ⟨fb, hfb⟩ : ∃ fb, fb = Cal.fits F c := ⟨_, rfl⟩
  have hah : (S0 = true → c = s + z.shift) ∧ (S0 = false → c = s) := by
    rw [hc, hS0]; unfold Cal.ahead
    exact ⟨fun h => by rw [h]; rfl, fun h => by rw [h]; simp⟩
  have hcb : s ≤ c ∧ c ≤ s + 120 := by
    cases S0
    · have := hah.2 rfl; omega
    · have := hah.1 rfl; omega
  have hcl : ∀ w' : World, Calls Tryz.prog 45 #[zonV z, .int .i64 t] w' fun e w'' => e = .returned (.int .i64 c) ∧ Only [] w' w'' := by
    intro w'
    have h := ref_Clock z t w' hz (by omega) (by omega)
    have e : Cal.shown z t = c := by rw [hc, hs]; rfl
    rw [e] at h
    exact h
  have hsu : ∀ (x : Int) (w' : World), -1000 ≤ x → x ≤ 70000000 → Calls Tryz.prog 51 #[zonV z, .int .i64 x] w' fun e w'' => e = .returned (.bool (Cal.summer z (x + z.offset))) ∧ Only [] w' w'' := fun x w' h1 h2 => ref_Summer z x w' hz (by omega) (by omega)
  have hs0 : ∀ (x : Int) (w' : World), x = t → Calls Tryz.prog 51 #[zonV z, .int .i64 x] w' fun e w'' => e = .returned (.bool S0) ∧ Only [] w' w'' := by
    intro x w' hx; subst hx; have h := hsu x w' (by omega) (by omega); rw [← hs, ← hS0] at h; exact h
  have hs1 : ∀ (x : Int) (w' : World), x = t - 1 → Calls Tryz.prog 51 #[zonV z, .int .i64 x] w' fun e w'' => e = .returned (.bool S1) ∧ Only [] w' w'' := by
    intro x w' hx; have h := hsu x w' (by omega) (by omega); rw [show x + z.offset = s - 1 by omega, ← hS1] at h; exact h
  have hs2 : ∀ (x : Int) (w' : World), x = t - z.shift → Calls Tryz.prog 51 #[zonV z, .int .i64 x] w' fun e w'' => e = .returned (.bool S2) ∧ Only [] w' w'' := by
    intro x w' hx; have h := hsu x w' (by omega) (by omega); rw [show x + z.offset = s - z.shift by omega, ← hS2] at h; exact h
  have hft : ∀ (x : Int) (w' : World), x = c → Calls Tryz.prog 50 #[.agg C, .int .i64 x] w' fun e w'' => e = .returned (.bool fb) ∧ Only [] w' w'' := by
    intro x w' hx; subst hx; have h := ref_Fits F x w' (by omega) (by omega); rw [← hC, ← hfb] at h; exact h
  have hft2 : ∀ (x : Int) (w' : World), s ≤ x → x ≤ s + 120 → Calls Tryz.prog 50 #[.agg C, .int .i64 x] w' fun e w'' => e = .returned (.bool (Cal.fits F x)) ∧ Only [] w' w'' := by
    intro x w' hx1 hx2; have h := ref_Fits F x w' (by omega) (by omega); rw [← hC] at h; exact h
  have hp1 : Cal.isSet F = false → (fb = true ↔ Cal.Runs z F (t + z.offset)) := by intro h; rw [hfb, ← hs]; exact runs_plain h hc
  have hp2 : Cal.isSet F = true → S0 = true → S1 = false → ∀ k, s ≤ k → k < s + z.shift → Cal.fits F k = true → Cal.Runs z F (t + z.offset) := by
    intro h h0 h1 k k1 k2 k3; rw [← hs]; exact runs_skip h (by rw [← hS0]; exact h0) (by rw [← hS1]; exact h1) k1 k2 k3
  have hp3 : Cal.isSet F = true → S0 = true → (S1 = true ∨ ∀ k, s ≤ k → k < s + z.shift → Cal.fits F k = false) → (fb = true ↔ Cal.Runs z F (t + z.offset)) := by
    intro h h0 h1; rw [hfb, ← hs]; exact runs_noskip h (by rw [← hS0]; exact h0) (by rw [← hS1]; exact h1) hc
  have hp4 : Cal.isSet F = true → S0 = false → S2 = true → ¬ Cal.Runs z F (t + z.offset) := by
    intro h h0 h2; rw [← hs]; exact runs_seen h (by rw [← hS0]; exact h0) (by rw [← hS2]; exact h2)
  have hp5 : Cal.isSet F = true → S0 = false → S2 = false → (fb = true ↔ Cal.Runs z F (t + z.offset)) := by
    intro h h0 h2; rw [hfb, ← hs]; exact runs_unseen h (by rw [← hS0]; exact h0) (by rw [← hS2]; exact h2) hc
  rw [unhide HIS] at hp1 hp2 hp3 hp4 hp5
  obtain ⟨off, sh, ⟨m1, k1, d1, t1⟩, ⟨m2, k2, d2, t2⟩⟩ := z
  simp only at hoff hshf hs hcb hah hs2 hp2 hp3
  rw [← hC]
  have hse : s = t + off := hs
  unfold zonV at hcl hs0 hs1 hs2
  have HCL := hide hcl
  have HS0 := hide hs0
  have HS1 := hide hs1
  have HS2 := hide hs2
  have HFT := hide hft
  have HFT2 := hide hft2
  have HP1 := hide hp1
  have HP2 := hide hp2
  have HP3 := hide hp3
  have HP4 := hide hp4
  have HP5 := hide hp5
  have HSZ := hide hsz
  have HAH := hide hah
  have HSE := hide hse
  have hsb : -840 ≤ s ∧ s ≤ 70000840 := by omega
  unfold zonV
  obtain ⟨w0, hw0⟩ : ∃ w0, w0 = (w.alloc (.cells #[.int .i64 off, .int .i64 sh, .int .i64 m1, .int .i64 k1, .int .i64 d1, .int .i64 t1, .int .i64 m2, .int .i64 k2, .int .i64 d2, .int .i64 t2] 32)).alloc (.cells C 43) := ⟨_, rfl⟩
  have hZ : Blk w0 w.heap.size #[.int .i64 off, .int .i64 sh, .int .i64 m1, .int .i64 k1, .int .i64 d1, .int .i64 t1, .int .i64 m2, .int .i64 k2, .int .i64 d2, .int .i64 t2] 32 := by rw [hw0]; exact (Blk.new _ _ _).alloc _
  have hF : Blk w0 (w.heap.size + 1) C 43 := by
    have h := Blk.new (w.alloc (.cells #[.int .i64 off, .int .i64 sh, .int .i64 m1, .int .i64 k1, .int .i64 d1, .int .i64 t1, .int .i64 m2, .int .i64 k2, .int .i64 d2, .int .i64 t2] 32)) C 43
    simp only [World.size_alloc] at h
    rw [hw0]; exact h
  have hO : Only [] w w0 := by rw [hw0]; exact ((Only.refl [] w).alloc _).alloc _
  have HZ := hide hZ
  have HF := hide hF
  have HO := hide hO
  clear hsm hsf hc hS0 hS1 hS2 hfb hs hah hcl hsu hs0 hs1 hs2 hft hft2 hp1 hp2 hp3 hp4 hp5 hse hC hZ hF hO hz
  obtain ⟨bf, hbf⟩ : ∃ bf, bf = w.heap.size + 1 := ⟨_, rfl⟩
  rw [← hbf] at HF
  have hgo : sm = true ∨ (sm = false ∧ sf = true) ∨ (sm = false ∧ sf = false ∧ S0 = false) ∨ (sm = false ∧ sf = false ∧ S0 = true ∧ S1 = true) ∨ (sm = false ∧ sf = false ∧ S0 = true ∧ S1 = false) := by
    cases sm <;> cases sf <;> cases S0 <;> cases S1 <;> simp
  rcases hgo with rfl | ⟨rfl, rfl⟩ | ⟨rfl, rfl, rfl⟩ | ⟨rfl, rfl, rfl, rfl⟩ | ⟨rfl, rfl, rfl, rfl⟩
  · go_enter Tryz.func21, Tryz.ntmps21
    go_upto_region 1 with fail
    rw [← hw0, ← hbf]
    clear hw0 hbf
    have hZ := unhide HZ
    have hF := unhide HF
    have v0 := hZ.cell 0
    have v1 := hZ.cell 1
    have v2 := hZ.cell 2
    have v3 := hZ.cell 3
    have v4 := hZ.cell 4
    have v5 := hZ.cell 5
    have v6 := hZ.cell 6
    have v7 := hZ.cell 7
    have v8 := hZ.cell 8
    have v9 := hZ.cell 9
    simp at v0 v1 v2 v3 v4 v5 v6 v7 v8 v9
    have y0 := (hF.cell 60).trans (unhide HY0)
    have y1 := (hF.cell 121).trans (unhide HY1)
    clear hZ hF
    go_wp2_with (first
      | (go_at_call 45
         try rw [← hw0]
         refine (unhide HCL _).mono ?_
         rintro e w1 ⟨rfl, ho⟩
         try clear hw0
         have hZ := (unhide HZ).only ho (by simp)
         have hF := (unhide HF).only ho (by simp)
         have hO := (unhide HO).trans ho
         clear HZ HF HO ho
         have HZ := hide hZ
         have HF := hide hF
         have HO := hide hO
         try clear v0 v1 v2 v3 v4 v5 v6 v7 v8 v9 y0 y1
         have v0 := hZ.cell 0
         have v1 := hZ.cell 1
         have v2 := hZ.cell 2
         have v3 := hZ.cell 3
         have v4 := hZ.cell 4
         have v5 := hZ.cell 5
         have v6 := hZ.cell 6
         have v7 := hZ.cell 7
         have v8 := hZ.cell 8
         have v9 := hZ.cell 9
         simp at v0 v1 v2 v3 v4 v5 v6 v7 v8 v9
         have y0 := (hF.cell 60).trans (unhide HY0)
         have y1 := (hF.cell 121).trans (unhide HY1)
         clear hZ hF hO)
      | (go_at_call 50
         refine (unhide HFT _ _ rfl).mono ?_
         rintro e w1 ⟨rfl, ho⟩
         have hZ := (unhide HZ).only ho (by simp)
         have hF := (unhide HF).only ho (by simp)
         have hO := (unhide HO).trans ho
         clear HZ HF HO ho
         have HZ := hide hZ
         have HF := hide hF
         have HO := hide hO
         try clear v0 v1 v2 v3 v4 v5 v6 v7 v8 v9 y0 y1
         have v0 := hZ.cell 0
         have v1 := hZ.cell 1
         have v2 := hZ.cell 2
         have v3 := hZ.cell 3
         have v4 := hZ.cell 4
         have v5 := hZ.cell 5
         have v6 := hZ.cell 6
         have v7 := hZ.cell 7
         have v8 := hZ.cell 8
         have v9 := hZ.cell 9
         simp at v0 v1 v2 v3 v4 v5 v6 v7 v8 v9
         have y0 := (hF.cell 60).trans (unhide HY0)
         have y1 := (hF.cell 121).trans (unhide HY1)
         clear hZ hF hO)
      | (go_at_call 51
         refine (unhide HS0 _ _ (by omega)).mono ?_
         rintro e w1 ⟨rfl, ho⟩
         have hZ := (unhide HZ).only ho (by simp)
         have hF := (unhide HF).only ho (by simp)
         have hO := (unhide HO).trans ho
         clear HZ HF HO ho
         have HZ := hide hZ
         have HF := hide hF
         have HO := hide hO
         try clear v0 v1 v2 v3 v4 v5 v6 v7 v8 v9 y0 y1
         have v0 := hZ.cell 0
         have v1 := hZ.cell 1
         have v2 := hZ.cell 2
         have v3 := hZ.cell 3
         have v4 := hZ.cell 4
         have v5 := hZ.cell 5
         have v6 := hZ.cell 6
         have v7 := hZ.cell 7
         have v8 := hZ.cell 8
         have v9 := hZ.cell 9
         simp at v0 v1 v2 v3 v4 v5 v6 v7 v8 v9
         have y0 := (hF.cell 60).trans (unhide HY0)
         have y1 := (hF.cell 121).trans (unhide HY1)
         clear hZ hF hO)
      | (go_at_call 51
         refine (unhide HS1 _ _ (by omega)).mono ?_
         rintro e w1 ⟨rfl, ho⟩
         have hZ := (unhide HZ).only ho (by simp)
         have hF := (unhide HF).only ho (by simp)
         have hO := (unhide HO).trans ho
         clear HZ HF HO ho
         have HZ := hide hZ
         have HF := hide hF
         have HO := hide hO
         try clear v0 v1 v2 v3 v4 v5 v6 v7 v8 v9 y0 y1
         have v0 := hZ.cell 0
         have v1 := hZ.cell 1
         have v2 := hZ.cell 2
         have v3 := hZ.cell 3
         have v4 := hZ.cell 4
         have v5 := hZ.cell 5
         have v6 := hZ.cell 6
         have v7 := hZ.cell 7
         have v8 := hZ.cell 8
         have v9 := hZ.cell 9
         simp at v0 v1 v2 v3 v4 v5 v6 v7 v8 v9
         have y0 := (hF.cell 60).trans (unhide HY0)
         have y1 := (hF.cell 121).trans (unhide HY1)
         clear hZ hF hO)
      | (go_at_call 51
         refine (unhide HS2 _ _ (by omega)).mono ?_
         rintro e w1 ⟨rfl, ho⟩
         have hZ := (unhide HZ).only ho (by simp)
         have hF := (unhide HF).only ho (by simp)
         have hO := (unhide HO).trans ho
         clear HZ HF HO ho
         have HZ := hide hZ
         have HF := hide hF
         have HO := hide hO
         try clear v0 v1 v2 v3 v4 v5 v6 v7 v8 v9 y0 y1
         have v0 := hZ.cell 0
         have v1 := hZ.cell 1
         have v2 := hZ.cell 2
         have v3 := hZ.cell 3
         have v4 := hZ.cell 4
         have v5 := hZ.cell 5
         have v6 := hZ.cell 6
         have v7 := hZ.cell 7
         have v8 := hZ.cell 8
         have v9 := hZ.cell 9
         simp at v0 v1 v2 v3 v4 v5 v6 v7 v8 v9
         have y0 := (hF.cell 60).trans (unhide HY0)
         have y1 := (hF.cell 121).trans (unhide HY1)
         clear hZ hF hO)
      | (refine wpList_load_row rfl 43 _ rfl bf rfl 43 C (0, 0) _ (unhide HF) Tryz.underlying43 rfl (by rw [unhide HSZ]; kernel_rfl) ?_
         simp only [Act.put, List.setIfInBounds_toArray, List.set_cons_succ, List.set_cons_zero]))
    go_ret
    exact ⟨⟨fb, rfl, unhide HP1 (by simp)⟩, unhide HO⟩
  · go_enter Tryz.func21, Tryz.ntmps21
    go_upto_region 1 with fail
    rw [← hw0, ← hbf]
    clear hw0 hbf
    have hZ := unhide HZ
    have hF := unhide HF
    have v0 := hZ.cell 0
    have v1 := hZ.cell 1
    have v2 := hZ.cell 2
    have v3 := hZ.cell 3
    have v4 := hZ.cell 4
    have v5 := hZ.cell 5
    have v6 := hZ.cell 6
    have v7 := hZ.cell 7
    have v8 := hZ.cell 8
    have v9 := hZ.cell 9
    simp at v0 v1 v2 v3 v4 v5 v6 v7 v8 v9
    have y0 := (hF.cell 60).trans (unhide HY0)
    have y1 := (hF.cell 121).trans (unhide HY1)
    clear hZ hF
    go_wp2_with (first
      | (go_at_call 45
         try rw [← hw0]
         refine (unhide HCL _).mono ?_
         rintro e w1 ⟨rfl, ho⟩
         try clear hw0
         have hZ := (unhide HZ).only ho (by simp)
         have hF := (unhide HF).only ho (by simp)
         have hO := (unhide HO).trans ho
         clear HZ HF HO ho
         have HZ := hide hZ
         have HF := hide hF
         have HO := hide hO
         try clear v0 v1 v2 v3 v4 v5 v6 v7 v8 v9 y0 y1
         have v0 := hZ.cell 0
         have v1 := hZ.cell 1
         have v2 := hZ.cell 2
         have v3 := hZ.cell 3
         have v4 := hZ.cell 4
         have v5 := hZ.cell 5
         have v6 := hZ.cell 6
         have v7 := hZ.cell 7
         have v8 := hZ.cell 8
         have v9 := hZ.cell 9
         simp at v0 v1 v2 v3 v4 v5 v6 v7 v8 v9
         have y0 := (hF.cell 60).trans (unhide HY0)
         have y1 := (hF.cell 121).trans (unhide HY1)
         clear hZ hF hO)
      | (go_at_call 50
         refine (unhide HFT _ _ rfl).mono ?_
         rintro e w1 ⟨rfl, ho⟩
         have hZ := (unhide HZ).only ho (by simp)
         have hF := (unhide HF).only ho (by simp)
         have hO := (unhide HO).trans ho
         clear HZ HF HO ho
         have HZ := hide hZ
         have HF := hide hF
         have HO := hide hO
         try clear v0 v1 v2 v3 v4 v5 v6 v7 v8 v9 y0 y1
         have v0 := hZ.cell 0
         have v1 := hZ.cell 1
         have v2 := hZ.cell 2
         have v3 := hZ.cell 3
         have v4 := hZ.cell 4
         have v5 := hZ.cell 5
         have v6 := hZ.cell 6
         have v7 := hZ.cell 7
         have v8 := hZ.cell 8
         have v9 := hZ.cell 9
         simp at v0 v1 v2 v3 v4 v5 v6 v7 v8 v9
         have y0 := (hF.cell 60).trans (unhide HY0)
         have y1 := (hF.cell 121).trans (unhide HY1)
         clear hZ hF hO)
      | (go_at_call 51
         refine (unhide HS0 _ _ (by omega)).mono ?_
         rintro e w1 ⟨rfl, ho⟩
         have hZ := (unhide HZ).only ho (by simp)
         have hF := (unhide HF).only ho (by simp)
         have hO := (unhide HO).trans ho
         clear HZ HF HO ho
         have HZ := hide hZ
         have HF := hide hF
         have HO := hide hO
         try clear v0 v1 v2 v3 v4 v5 v6 v7 v8 v9 y0 y1
         have v0 := hZ.cell 0
         have v1 := hZ.cell 1
         have v2 := hZ.cell 2
         have v3 := hZ.cell 3
         have v4 := hZ.cell 4
         have v5 := hZ.cell 5
         have v6 := hZ.cell 6
         have v7 := hZ.cell 7
         have v8 := hZ.cell 8
         have v9 := hZ.cell 9
         simp at v0 v1 v2 v3 v4 v5 v6 v7 v8 v9
         have y0 := (hF.cell 60).trans (unhide HY0)
         have y1 := (hF.cell 121).trans (unhide HY1)
         clear hZ hF hO)
      | (go_at_call 51
         refine (unhide HS1 _ _ (by omega)).mono ?_
         rintro e w1 ⟨rfl, ho⟩
         have hZ := (unhide HZ).only ho (by simp)
         have hF := (unhide HF).only ho (by simp)
         have hO := (unhide HO).trans ho
         clear HZ HF HO ho
         have HZ := hide hZ
         have HF := hide hF
         have HO := hide hO
         try clear v0 v1 v2 v3 v4 v5 v6 v7 v8 v9 y0 y1
         have v0 := hZ.cell 0
         have v1 := hZ.cell 1
         have v2 := hZ.cell 2
         have v3 := hZ.cell 3
         have v4 := hZ.cell 4
         have v5 := hZ.cell 5
         have v6 := hZ.cell 6
         have v7 := hZ.cell 7
         have v8 := hZ.cell 8
         have v9 := hZ.cell 9
         simp at v0 v1 v2 v3 v4 v5 v6 v7 v8 v9
         have y0 := (hF.cell 60).trans (unhide HY0)
         have y1 := (hF.cell 121).trans (unhide HY1)
         clear hZ hF hO)
      | (go_at_call 51
         refine (unhide HS2 _ _ (by omega)).mono ?_
         rintro e w1 ⟨rfl, ho⟩
         have hZ := (unhide HZ).only ho (by simp)
         have hF := (unhide HF).only ho (by simp)
         have hO := (unhide HO).trans ho
         clear HZ HF HO ho
         have HZ := hide hZ
         have HF := hide hF
         have HO := hide hO
         try clear v0 v1 v2 v3 v4 v5 v6 v7 v8 v9 y0 y1
         have v0 := hZ.cell 0
         have v1 := hZ.cell 1
         have v2 := hZ.cell 2
         have v3 := hZ.cell 3
         have v4 := hZ.cell 4
         have v5 := hZ.cell 5
         have v6 := hZ.cell 6
         have v7 := hZ.cell 7
         have v8 := hZ.cell 8
         have v9 := hZ.cell 9
         simp at v0 v1 v2 v3 v4 v5 v6 v7 v8 v9
         have y0 := (hF.cell 60).trans (unhide HY0)
         have y1 := (hF.cell 121).trans (unhide HY1)
         clear hZ hF hO)
      | (refine wpList_load_row rfl 43 _ rfl bf rfl 43 C (0, 0) _ (unhide HF) Tryz.underlying43 rfl (by rw [unhide HSZ]; kernel_rfl) ?_
         simp only [Act.put, List.setIfInBounds_toArray, List.set_cons_succ, List.set_cons_zero]))
    go_ret
    exact ⟨⟨fb, rfl, unhide HP1 (by simp)⟩, unhide HO⟩
  · cases S2
    all_goals
      go_enter Tryz.func21, Tryz.ntmps21
      go_upto_region 1 with fail
      rw [← hw0, ← hbf]
      clear hw0 hbf
      have hZ := unhide HZ
      have hF := unhide HF
      have v0 := hZ.cell 0
      have v1 := hZ.cell 1
      have v2 := hZ.cell 2
      have v3 := hZ.cell 3
      have v4 := hZ.cell 4
      have v5 := hZ.cell 5
      have v6 := hZ.cell 6
      have v7 := hZ.cell 7
      have v8 := hZ.cell 8
      have v9 := hZ.cell 9
      simp at v0 v1 v2 v3 v4 v5 v6 v7 v8 v9
      have y0 := (hF.cell 60).trans (unhide HY0)
      have y1 := (hF.cell 121).trans (unhide HY1)
      clear hZ hF
      go_wp2_with (first
        | (go_at_call 45
           try rw [← hw0]
           refine (unhide HCL _).mono ?_
           rintro e w1 ⟨rfl, ho⟩
           try clear hw0
           have hZ := (unhide HZ).only ho (by simp)
           have hF := (unhide HF).only ho (by simp)
           have hO := (unhide HO).trans ho
           clear HZ HF HO ho
           have HZ := hide hZ
           have HF := hide hF
           have HO := hide hO
           try clear v0 v1 v2 v3 v4 v5 v6 v7 v8 v9 y0 y1
           have v0 := hZ.cell 0
           have v1 := hZ.cell 1
           have v2 := hZ.cell 2
           have v3 := hZ.cell 3
           have v4 := hZ.cell 4
           have v5 := hZ.cell 5
           have v6 := hZ.cell 6
           have v7 := hZ.cell 7
           have v8 := hZ.cell 8
           have v9 := hZ.cell 9
           simp at v0 v1 v2 v3 v4 v5 v6 v7 v8 v9
           have y0 := (hF.cell 60).trans (unhide HY0)
           have y1 := (hF.cell 121).trans (unhide HY1)
           clear hZ hF hO)
        | (go_at_call 50
           refine (unhide HFT _ _ rfl).mono ?_
           rintro e w1 ⟨rfl, ho⟩
           have hZ := (unhide HZ).only ho (by simp)
           have hF := (unhide HF).only ho (by simp)
           have hO := (unhide HO).trans ho
           clear HZ HF HO ho
           have HZ := hide hZ
           have HF := hide hF
           have HO := hide hO
           try clear v0 v1 v2 v3 v4 v5 v6 v7 v8 v9 y0 y1
           have v0 := hZ.cell 0
           have v1 := hZ.cell 1
           have v2 := hZ.cell 2
           have v3 := hZ.cell 3
           have v4 := hZ.cell 4
           have v5 := hZ.cell 5
           have v6 := hZ.cell 6
           have v7 := hZ.cell 7
           have v8 := hZ.cell 8
           have v9 := hZ.cell 9
           simp at v0 v1 v2 v3 v4 v5 v6 v7 v8 v9
           have y0 := (hF.cell 60).trans (unhide HY0)
           have y1 := (hF.cell 121).trans (unhide HY1)
           clear hZ hF hO)
        | (go_at_call 51
           refine (unhide HS0 _ _ (by omega)).mono ?_
           rintro e w1 ⟨rfl, ho⟩
           have hZ := (unhide HZ).only ho (by simp)
           have hF := (unhide HF).only ho (by simp)
           have hO := (unhide HO).trans ho
           clear HZ HF HO ho
           have HZ := hide hZ
           have HF := hide hF
           have HO := hide hO
           try clear v0 v1 v2 v3 v4 v5 v6 v7 v8 v9 y0 y1
           have v0 := hZ.cell 0
           have v1 := hZ.cell 1
           have v2 := hZ.cell 2
           have v3 := hZ.cell 3
           have v4 := hZ.cell 4
           have v5 := hZ.cell 5
           have v6 := hZ.cell 6
           have v7 := hZ.cell 7
           have v8 := hZ.cell 8
           have v9 := hZ.cell 9
           simp at v0 v1 v2 v3 v4 v5 v6 v7 v8 v9
           have y0 := (hF.cell 60).trans (unhide HY0)
           have y1 := (hF.cell 121).trans (unhide HY1)
           clear hZ hF hO)
        | (go_at_call 51
           refine (unhide HS1 _ _ (by omega)).mono ?_
           rintro e w1 ⟨rfl, ho⟩
           have hZ := (unhide HZ).only ho (by simp)
           have hF := (unhide HF).only ho (by simp)
           have hO := (unhide HO).trans ho
           clear HZ HF HO ho
           have HZ := hide hZ
           have HF := hide hF
           have HO := hide hO
           try clear v0 v1 v2 v3 v4 v5 v6 v7 v8 v9 y0 y1
           have v0 := hZ.cell 0
           have v1 := hZ.cell 1
           have v2 := hZ.cell 2
           have v3 := hZ.cell 3
           have v4 := hZ.cell 4
           have v5 := hZ.cell 5
           have v6 := hZ.cell 6
           have v7 := hZ.cell 7
           have v8 := hZ.cell 8
           have v9 := hZ.cell 9
           simp at v0 v1 v2 v3 v4 v5 v6 v7 v8 v9
           have y0 := (hF.cell 60).trans (unhide HY0)
           have y1 := (hF.cell 121).trans (unhide HY1)
           clear hZ hF hO)
        | (go_at_call 51
           refine (unhide HS2 _ _ (by omega)).mono ?_
           rintro e w1 ⟨rfl, ho⟩
           have hZ := (unhide HZ).only ho (by simp)
           have hF := (unhide HF).only ho (by simp)
           have hO := (unhide HO).trans ho
           clear HZ HF HO ho
           have HZ := hide hZ
           have HF := hide hF
           have HO := hide hO
           try clear v0 v1 v2 v3 v4 v5 v6 v7 v8 v9 y0 y1
           have v0 := hZ.cell 0
           have v1 := hZ.cell 1
           have v2 := hZ.cell 2
           have v3 := hZ.cell 3
           have v4 := hZ.cell 4
           have v5 := hZ.cell 5
           have v6 := hZ.cell 6
           have v7 := hZ.cell 7
           have v8 := hZ.cell 8
           have v9 := hZ.cell 9
           simp at v0 v1 v2 v3 v4 v5 v6 v7 v8 v9
           have y0 := (hF.cell 60).trans (unhide HY0)
           have y1 := (hF.cell 121).trans (unhide HY1)
           clear hZ hF hO)
        | (refine wpList_load_row rfl 43 _ rfl bf rfl 43 C (0, 0) _ (unhide HF) Tryz.underlying43 rfl (by rw [unhide HSZ]; kernel_rfl) ?_
           simp only [Act.put, List.setIfInBounds_toArray, List.set_cons_succ, List.set_cons_zero]))
      go_ret
      first
        | exact ⟨⟨fb, rfl, unhide HP5 (by simp) (by simp) (by simp)⟩, unhide HO⟩
        | exact ⟨⟨false, rfl, by have := unhide HP4 (by simp) (by simp) (by simp); simp [this]⟩, unhide HO⟩
  · go_enter Tryz.func21, Tryz.ntmps21
    go_upto_region 1 with fail
    rw [← hw0, ← hbf]
    clear hw0 hbf
    have hZ := unhide HZ
    have hF := unhide HF
    have v0 := hZ.cell 0
    have v1 := hZ.cell 1
    have v2 := hZ.cell 2
    have v3 := hZ.cell 3
    have v4 := hZ.cell 4
    have v5 := hZ.cell 5
    have v6 := hZ.cell 6
    have v7 := hZ.cell 7
    have v8 := hZ.cell 8
    have v9 := hZ.cell 9
    simp at v0 v1 v2 v3 v4 v5 v6 v7 v8 v9
    have y0 := (hF.cell 60).trans (unhide HY0)
    have y1 := (hF.cell 121).trans (unhide HY1)
    clear hZ hF
    go_wp2_with (first
      | (go_at_call 45
         try rw [← hw0]
         refine (unhide HCL _).mono ?_
         rintro e w1 ⟨rfl, ho⟩
         try clear hw0
         have hZ := (unhide HZ).only ho (by simp)
         have hF := (unhide HF).only ho (by simp)
         have hO := (unhide HO).trans ho
         clear HZ HF HO ho
         have HZ := hide hZ
         have HF := hide hF
         have HO := hide hO
         try clear v0 v1 v2 v3 v4 v5 v6 v7 v8 v9 y0 y1
         have v0 := hZ.cell 0
         have v1 := hZ.cell 1
         have v2 := hZ.cell 2
         have v3 := hZ.cell 3
         have v4 := hZ.cell 4
         have v5 := hZ.cell 5
         have v6 := hZ.cell 6
         have v7 := hZ.cell 7
         have v8 := hZ.cell 8
         have v9 := hZ.cell 9
         simp at v0 v1 v2 v3 v4 v5 v6 v7 v8 v9
         have y0 := (hF.cell 60).trans (unhide HY0)
         have y1 := (hF.cell 121).trans (unhide HY1)
         clear hZ hF hO)
      | (go_at_call 50
         refine (unhide HFT _ _ rfl).mono ?_
         rintro e w1 ⟨rfl, ho⟩
         have hZ := (unhide HZ).only ho (by simp)
         have hF := (unhide HF).only ho (by simp)
         have hO := (unhide HO).trans ho
         clear HZ HF HO ho
         have HZ := hide hZ
         have HF := hide hF
         have HO := hide hO
         try clear v0 v1 v2 v3 v4 v5 v6 v7 v8 v9 y0 y1
         have v0 := hZ.cell 0
         have v1 := hZ.cell 1
         have v2 := hZ.cell 2
         have v3 := hZ.cell 3
         have v4 := hZ.cell 4
         have v5 := hZ.cell 5
         have v6 := hZ.cell 6
         have v7 := hZ.cell 7
         have v8 := hZ.cell 8
         have v9 := hZ.cell 9
         simp at v0 v1 v2 v3 v4 v5 v6 v7 v8 v9
         have y0 := (hF.cell 60).trans (unhide HY0)
         have y1 := (hF.cell 121).trans (unhide HY1)
         clear hZ hF hO)
      | (go_at_call 51
         refine (unhide HS0 _ _ (by omega)).mono ?_
         rintro e w1 ⟨rfl, ho⟩
         have hZ := (unhide HZ).only ho (by simp)
         have hF := (unhide HF).only ho (by simp)
         have hO := (unhide HO).trans ho
         clear HZ HF HO ho
         have HZ := hide hZ
         have HF := hide hF
         have HO := hide hO
         try clear v0 v1 v2 v3 v4 v5 v6 v7 v8 v9 y0 y1
         have v0 := hZ.cell 0
         have v1 := hZ.cell 1
         have v2 := hZ.cell 2
         have v3 := hZ.cell 3
         have v4 := hZ.cell 4
         have v5 := hZ.cell 5
         have v6 := hZ.cell 6
         have v7 := hZ.cell 7
         have v8 := hZ.cell 8
         have v9 := hZ.cell 9
         simp at v0 v1 v2 v3 v4 v5 v6 v7 v8 v9
         have y0 := (hF.cell 60).trans (unhide HY0)
         have y1 := (hF.cell 121).trans (unhide HY1)
         clear hZ hF hO)
      | (go_at_call 51
         refine (unhide HS1 _ _ (by omega)).mono ?_
         rintro e w1 ⟨rfl, ho⟩
         have hZ := (unhide HZ).only ho (by simp)
         have hF := (unhide HF).only ho (by simp)
         have hO := (unhide HO).trans ho
         clear HZ HF HO ho
         have HZ := hide hZ
         have HF := hide hF
         have HO := hide hO
         try clear v0 v1 v2 v3 v4 v5 v6 v7 v8 v9 y0 y1
         have v0 := hZ.cell 0
         have v1 := hZ.cell 1
         have v2 := hZ.cell 2
         have v3 := hZ.cell 3
         have v4 := hZ.cell 4
         have v5 := hZ.cell 5
         have v6 := hZ.cell 6
         have v7 := hZ.cell 7
         have v8 := hZ.cell 8
         have v9 := hZ.cell 9
         simp at v0 v1 v2 v3 v4 v5 v6 v7 v8 v9
         have y0 := (hF.cell 60).trans (unhide HY0)
         have y1 := (hF.cell 121).trans (unhide HY1)
         clear hZ hF hO)
      | (go_at_call 51
         refine (unhide HS2 _ _ (by omega)).mono ?_
         rintro e w1 ⟨rfl, ho⟩
         have hZ := (unhide HZ).only ho (by simp)
         have hF := (unhide HF).only ho (by simp)
         have hO := (unhide HO).trans ho
         clear HZ HF HO ho
         have HZ := hide hZ
         have HF := hide hF
         have HO := hide hO
         try clear v0 v1 v2 v3 v4 v5 v6 v7 v8 v9 y0 y1
         have v0 := hZ.cell 0
         have v1 := hZ.cell 1
         have v2 := hZ.cell 2
         have v3 := hZ.cell 3
         have v4 := hZ.cell 4
         have v5 := hZ.cell 5
         have v6 := hZ.cell 6
         have v7 := hZ.cell 7
         have v8 := hZ.cell 8
         have v9 := hZ.cell 9
         simp at v0 v1 v2 v3 v4 v5 v6 v7 v8 v9
         have y0 := (hF.cell 60).trans (unhide HY0)
         have y1 := (hF.cell 121).trans (unhide HY1)
         clear hZ hF hO)
      | (refine wpList_load_row rfl 43 _ rfl bf rfl 43 C (0, 0) _ (unhide HF) Tryz.underlying43 rfl (by rw [unhide HSZ]; kernel_rfl) ?_
         simp only [Act.put, List.setIfInBounds_toArray, List.set_cons_succ, List.set_cons_zero]))
    go_ret
    exact ⟨⟨fb, rfl, unhide HP3 (by simp) (by simp) (.inl (by simp))⟩, unhide HO⟩
  · have hcs : c = s + sh := (unhide HAH).1 (by simp)
    have HCS := hide hcs
    go_enter Tryz.func21, Tryz.ntmps21
    go_upto_region 1 with fail
    rw [← hw0, ← hbf]
    clear hw0 hbf hcs
    have hZ := unhide HZ
    have hF := unhide HF
    have v0 := hZ.cell 0
    have v1 := hZ.cell 1
    have v2 := hZ.cell 2
    have v3 := hZ.cell 3
    have v4 := hZ.cell 4
    have v5 := hZ.cell 5
    have v6 := hZ.cell 6
    have v7 := hZ.cell 7
    have v8 := hZ.cell 8
    have v9 := hZ.cell 9
    simp at v0 v1 v2 v3 v4 v5 v6 v7 v8 v9
    have y0 := (hF.cell 60).trans (unhide HY0)
    have y1 := (hF.cell 121).trans (unhide HY1)
    clear hZ hF
    go_wp2_with (first
      | (go_at_call 45
         try rw [← hw0]
         refine (unhide HCL _).mono ?_
         rintro e w1 ⟨rfl, ho⟩
         try clear hw0
         have hZ := (unhide HZ).only ho (by simp)
         have hF := (unhide HF).only ho (by simp)
         have hO := (unhide HO).trans ho
         clear HZ HF HO ho
         have HZ := hide hZ
         have HF := hide hF
         have HO := hide hO
         try clear v0 v1 v2 v3 v4 v5 v6 v7 v8 v9 y0 y1
         have v0 := hZ.cell 0
         have v1 := hZ.cell 1
         have v2 := hZ.cell 2
         have v3 := hZ.cell 3
         have v4 := hZ.cell 4
         have v5 := hZ.cell 5
         have v6 := hZ.cell 6
         have v7 := hZ.cell 7
         have v8 := hZ.cell 8
         have v9 := hZ.cell 9
         simp at v0 v1 v2 v3 v4 v5 v6 v7 v8 v9
         have y0 := (hF.cell 60).trans (unhide HY0)
         have y1 := (hF.cell 121).trans (unhide HY1)
         clear hZ hF hO)
      | (go_at_call 50
         refine (unhide HFT _ _ rfl).mono ?_
         rintro e w1 ⟨rfl, ho⟩
         have hZ := (unhide HZ).only ho (by simp)
         have hF := (unhide HF).only ho (by simp)
         have hO := (unhide HO).trans ho
         clear HZ HF HO ho
         have HZ := hide hZ
         have HF := hide hF
         have HO := hide hO
         try clear v0 v1 v2 v3 v4 v5 v6 v7 v8 v9 y0 y1
         have v0 := hZ.cell 0
         have v1 := hZ.cell 1
         have v2 := hZ.cell 2
         have v3 := hZ.cell 3
         have v4 := hZ.cell 4
         have v5 := hZ.cell 5
         have v6 := hZ.cell 6
         have v7 := hZ.cell 7
         have v8 := hZ.cell 8
         have v9 := hZ.cell 9
         simp at v0 v1 v2 v3 v4 v5 v6 v7 v8 v9
         have y0 := (hF.cell 60).trans (unhide HY0)
         have y1 := (hF.cell 121).trans (unhide HY1)
         clear hZ hF hO)
      | (go_at_call 51
         refine (unhide HS0 _ _ (by omega)).mono ?_
         rintro e w1 ⟨rfl, ho⟩
         have hZ := (unhide HZ).only ho (by simp)
         have hF := (unhide HF).only ho (by simp)
         have hO := (unhide HO).trans ho
         clear HZ HF HO ho
         have HZ := hide hZ
         have HF := hide hF
         have HO := hide hO
         try clear v0 v1 v2 v3 v4 v5 v6 v7 v8 v9 y0 y1
         have v0 := hZ.cell 0
         have v1 := hZ.cell 1
         have v2 := hZ.cell 2
         have v3 := hZ.cell 3
         have v4 := hZ.cell 4
         have v5 := hZ.cell 5
         have v6 := hZ.cell 6
         have v7 := hZ.cell 7
         have v8 := hZ.cell 8
         have v9 := hZ.cell 9
         simp at v0 v1 v2 v3 v4 v5 v6 v7 v8 v9
         have y0 := (hF.cell 60).trans (unhide HY0)
         have y1 := (hF.cell 121).trans (unhide HY1)
         clear hZ hF hO)
      | (go_at_call 51
         refine (unhide HS1 _ _ (by omega)).mono ?_
         rintro e w1 ⟨rfl, ho⟩
         have hZ := (unhide HZ).only ho (by simp)
         have hF := (unhide HF).only ho (by simp)
         have hO := (unhide HO).trans ho
         clear HZ HF HO ho
         have HZ := hide hZ
         have HF := hide hF
         have HO := hide hO
         try clear v0 v1 v2 v3 v4 v5 v6 v7 v8 v9 y0 y1
         have v0 := hZ.cell 0
         have v1 := hZ.cell 1
         have v2 := hZ.cell 2
         have v3 := hZ.cell 3
         have v4 := hZ.cell 4
         have v5 := hZ.cell 5
         have v6 := hZ.cell 6
         have v7 := hZ.cell 7
         have v8 := hZ.cell 8
         have v9 := hZ.cell 9
         simp at v0 v1 v2 v3 v4 v5 v6 v7 v8 v9
         have y0 := (hF.cell 60).trans (unhide HY0)
         have y1 := (hF.cell 121).trans (unhide HY1)
         clear hZ hF hO)
      | (go_at_call 51
         refine (unhide HS2 _ _ (by omega)).mono ?_
         rintro e w1 ⟨rfl, ho⟩
         have hZ := (unhide HZ).only ho (by simp)
         have hF := (unhide HF).only ho (by simp)
         have hO := (unhide HO).trans ho
         clear HZ HF HO ho
         have HZ := hide hZ
         have HF := hide hF
         have HO := hide hO
         try clear v0 v1 v2 v3 v4 v5 v6 v7 v8 v9 y0 y1
         have v0 := hZ.cell 0
         have v1 := hZ.cell 1
         have v2 := hZ.cell 2
         have v3 := hZ.cell 3
         have v4 := hZ.cell 4
         have v5 := hZ.cell 5
         have v6 := hZ.cell 6
         have v7 := hZ.cell 7
         have v8 := hZ.cell 8
         have v9 := hZ.cell 9
         simp at v0 v1 v2 v3 v4 v5 v6 v7 v8 v9
         have y0 := (hF.cell 60).trans (unhide HY0)
         have y1 := (hF.cell 121).trans (unhide HY1)
         clear hZ hF hO)
      | (refine wpList_load_row rfl 43 _ rfl bf rfl 43 C (0, 0) _ (unhide HF) Tryz.underlying43 rfl (by rw [unhide HSZ]; kernel_rfl) ?_
         simp only [Act.put, List.setIfInBounds_toArray, List.set_cons_succ, List.set_cons_zero]))
    clear v0 v1 v2 v3 v4 v5 v6 v7 v8 v9 y0 y1
    go_loopg [11] 1000 (fun g x wr => Hid (Blk wr w.heap.size #[.int .i64 off, .int .i64 sh, .int .i64 m1, .int .i64 k1, .int .i64 d1, .int .i64 t1, .int .i64 m2, .int .i64 k2, .int .i64 d2, .int .i64 t2] 32 ∧ Blk wr bf C 43 ∧ Only [] w wr) ∧ ∃ k : Int, x = .int .i64 k ∧ s ≤ k ∧ k ≤ c ∧ Hid (s + 1000 ≤ k + g) ∧ Hid (∀ v, s ≤ v → v < k → Cal.fits F v = false))
    case atStart => exact ⟨⟨unhide HZ, unhide HF, unhide HO⟩, c - sh, rfl, by have := unhide HCS; omega, by omega, by have := unhide HCS; simp only [Hid]; omega, fun v h1 h2 => by have := unhide HCS; omega⟩
    case round =>
      obtain ⟨HX, k, rfl, hk1, hk2, HG, HR⟩ := hrel
      clear HZ HF HO
      obtain ⟨hZ, hF, hO⟩ := unhide HX
      have HZ := hide hZ
      have HF := hide hF
      have HO := hide hO
      have v0 := hZ.cell 0
      have v1 := hZ.cell 1
      have v2 := hZ.cell 2
      have v3 := hZ.cell 3
      have v4 := hZ.cell 4
      have v5 := hZ.cell 5
      have v6 := hZ.cell 6
      have v7 := hZ.cell 7
      have v8 := hZ.cell 8
      have v9 := hZ.cell 9
      simp at v0 v1 v2 v3 v4 v5 v6 v7 v8 v9
      have y0 := (hF.cell 60).trans (unhide HY0)
      have y1 := (hF.cell 121).trans (unhide HY1)
      clear hZ hF hO HX
      by_cases hlt : k < c
      · obtain ⟨fk, hfk⟩ : ∃ fk, fk = Cal.fits F k := ⟨_, rfl⟩
        have HFK := hide hfk
        clear hfk
        go_wp2_with (first
          | (refine wpList_load_row rfl 43 _ rfl bf rfl 43 C (0, 0) _ (unhide HF) Tryz.underlying43 rfl (by rw [unhide HSZ]; kernel_rfl) ?_
             simp only [Act.put, List.setIfInBounds_toArray, List.set_cons_succ, List.set_cons_zero])
          | (go_at_call 50
             refine (unhide HFT2 k _ hk1 (by omega)).mono ?_
             rintro e w1 ⟨rfl, ho⟩
             rw [← unhide HFK]
             have hZ := (unhide HZ).only ho (by simp)
             have hF := (unhide HF).only ho (by simp)
             have hO := (unhide HO).trans ho
             clear HZ HF HO ho
             have HZ := hide hZ
             have HF := hide hF
             have HO := hide hO
             try clear v0 v1 v2 v3 v4 v5 v6 v7 v8 v9 y0 y1
             have v0 := hZ.cell 0
             have v1 := hZ.cell 1
             have v2 := hZ.cell 2
             have v3 := hZ.cell 3
             have v4 := hZ.cell 4
             have v5 := hZ.cell 5
             have v6 := hZ.cell 6
             have v7 := hZ.cell 7
             have v8 := hZ.cell 8
             have v9 := hZ.cell 9
             simp at v0 v1 v2 v3 v4 v5 v6 v7 v8 v9
             have y0 := (hF.cell 60).trans (unhide HY0)
             have y1 := (hF.cell 121).trans (unhide HY1)
             clear hZ hF hO
             cases fk))
        · go_roundg (gk - 1)
          case rel =>
            refine ⟨⟨unhide HZ, unhide HF, unhide HO⟩, k + 1, by go_num, by omega, by omega, by have := unhide HG; simp only [Hid]; omega, ?_⟩
            intro v h1 h2
            by_cases hv : v < k
            · exact unhide HR v h1 hv
            · rw [show v = k by omega]; exact (unhide HFK).symm
          case measure => have := unhide HG; omega
        · go_ret
          exact ⟨⟨true, rfl, by
            have h := unhide HP2 (by simp) (by simp) (by simp) k hk1 (by have := unhide HCS; omega) (unhide HFK).symm
            simp [h]⟩, unhide HO⟩
      · go_wp2_with (first
          | (go_at_call 45
             try rw [← hw0]
             refine (unhide HCL _).mono ?_
             rintro e w1 ⟨rfl, ho⟩
             try clear hw0
             have hZ := (unhide HZ).only ho (by simp)
             have hF := (unhide HF).only ho (by simp)
             have hO := (unhide HO).trans ho
             clear HZ HF HO ho
             have HZ := hide hZ
             have HF := hide hF
             have HO := hide hO
             try clear v0 v1 v2 v3 v4 v5 v6 v7 v8 v9 y0 y1
             have v0 := hZ.cell 0
             have v1 := hZ.cell 1
             have v2 := hZ.cell 2
             have v3 := hZ.cell 3
             have v4 := hZ.cell 4
             have v5 := hZ.cell 5
             have v6 := hZ.cell 6
             have v7 := hZ.cell 7
             have v8 := hZ.cell 8
             have v9 := hZ.cell 9
             simp at v0 v1 v2 v3 v4 v5 v6 v7 v8 v9
             have y0 := (hF.cell 60).trans (unhide HY0)
             have y1 := (hF.cell 121).trans (unhide HY1)
             clear hZ hF hO)
          | (go_at_call 50
             refine (unhide HFT _ _ rfl).mono ?_
             rintro e w1 ⟨rfl, ho⟩
             have hZ := (unhide HZ).only ho (by simp)
             have hF := (unhide HF).only ho (by simp)
             have hO := (unhide HO).trans ho
             clear HZ HF HO ho
             have HZ := hide hZ
             have HF := hide hF
             have HO := hide hO
             try clear v0 v1 v2 v3 v4 v5 v6 v7 v8 v9 y0 y1
             have v0 := hZ.cell 0
             have v1 := hZ.cell 1
             have v2 := hZ.cell 2
             have v3 := hZ.cell 3
             have v4 := hZ.cell 4
             have v5 := hZ.cell 5
             have v6 := hZ.cell 6
             have v7 := hZ.cell 7
             have v8 := hZ.cell 8
             have v9 := hZ.cell 9
             simp at v0 v1 v2 v3 v4 v5 v6 v7 v8 v9
             have y0 := (hF.cell 60).trans (unhide HY0)
             have y1 := (hF.cell 121).trans (unhide HY1)
             clear hZ hF hO)
          | (go_at_call 51
             refine (unhide HS0 _ _ (by omega)).mono ?_
             rintro e w1 ⟨rfl, ho⟩
             have hZ := (unhide HZ).only ho (by simp)
             have hF := (unhide HF).only ho (by simp)
             have hO := (unhide HO).trans ho
             clear HZ HF HO ho
             have HZ := hide hZ
             have HF := hide hF
             have HO := hide hO
             try clear v0 v1 v2 v3 v4 v5 v6 v7 v8 v9 y0 y1
             have v0 := hZ.cell 0
             have v1 := hZ.cell 1
             have v2 := hZ.cell 2
             have v3 := hZ.cell 3
             have v4 := hZ.cell 4
             have v5 := hZ.cell 5
             have v6 := hZ.cell 6
             have v7 := hZ.cell 7
             have v8 := hZ.cell 8
             have v9 := hZ.cell 9
             simp at v0 v1 v2 v3 v4 v5 v6 v7 v8 v9
             have y0 := (hF.cell 60).trans (unhide HY0)
             have y1 := (hF.cell 121).trans (unhide HY1)
             clear hZ hF hO)
          | (go_at_call 51
             refine (unhide HS1 _ _ (by omega)).mono ?_
             rintro e w1 ⟨rfl, ho⟩
             have hZ := (unhide HZ).only ho (by simp)
             have hF := (unhide HF).only ho (by simp)
             have hO := (unhide HO).trans ho
             clear HZ HF HO ho
             have HZ := hide hZ
             have HF := hide hF
             have HO := hide hO
             try clear v0 v1 v2 v3 v4 v5 v6 v7 v8 v9 y0 y1
             have v0 := hZ.cell 0
             have v1 := hZ.cell 1
             have v2 := hZ.cell 2
             have v3 := hZ.cell 3
             have v4 := hZ.cell 4
             have v5 := hZ.cell 5
             have v6 := hZ.cell 6
             have v7 := hZ.cell 7
             have v8 := hZ.cell 8
             have v9 := hZ.cell 9
             simp at v0 v1 v2 v3 v4 v5 v6 v7 v8 v9
             have y0 := (hF.cell 60).trans (unhide HY0)
             have y1 := (hF.cell 121).trans (unhide HY1)
             clear hZ hF hO)
          | (go_at_call 51
             refine (unhide HS2 _ _ (by omega)).mono ?_
             rintro e w1 ⟨rfl, ho⟩
             have hZ := (unhide HZ).only ho (by simp)
             have hF := (unhide HF).only ho (by simp)
             have hO := (unhide HO).trans ho
             clear HZ HF HO ho
             have HZ := hide hZ
             have HF := hide hF
             have HO := hide hO
             try clear v0 v1 v2 v3 v4 v5 v6 v7 v8 v9 y0 y1
             have v0 := hZ.cell 0
             have v1 := hZ.cell 1
             have v2 := hZ.cell 2
             have v3 := hZ.cell 3
             have v4 := hZ.cell 4
             have v5 := hZ.cell 5
             have v6 := hZ.cell 6
             have v7 := hZ.cell 7
             have v8 := hZ.cell 8
             have v9 := hZ.cell 9
             simp at v0 v1 v2 v3 v4 v5 v6 v7 v8 v9
             have y0 := (hF.cell 60).trans (unhide HY0)
             have y1 := (hF.cell 121).trans (unhide HY1)
             clear hZ hF hO)
          | (refine wpList_load_row rfl 43 _ rfl bf rfl 43 C (0, 0) _ (unhide HF) Tryz.underlying43 rfl (by rw [unhide HSZ]; kernel_rfl) ?_
             simp only [Act.put, List.setIfInBounds_toArray, List.set_cons_succ, List.set_cons_zero]))
        go_ret
        exact ⟨⟨fb, rfl, unhide HP3 (by simp) (by simp) (.inr fun v h1 h2 => unhide HR v h1 (by have := unhide HCS; omega))⟩, unhide HO⟩
end Go.Proofs.YtnnhnihgeheahaaGreatDoor
