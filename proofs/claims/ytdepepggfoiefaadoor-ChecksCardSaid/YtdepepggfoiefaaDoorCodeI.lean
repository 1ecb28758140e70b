/- The program's scanner: field. -/
import Derived.Test.YtdepepggfoiefaaDoorCodeH
set_option linter.unusedSimpArgs false
set_option linter.unusedVariables false
namespace Go.Proofs.YtdepepggfoiefaaDoor
open Go.RowKit

/-- Behind an item: what is left. -/
def LInv (s : ByteArray) (lo hi : Nat) (R : Except Nat (Nat × (Nat → Bool))) (τ : Except Nat Nat) : Prop :=
  (∀ p, τ = .error p → R = .error p) ∧ (∀ k, τ = .ok k → ∃ f h, s.size + 1 - k ≤ f ∧ (byteAt s k = 44 → pItems s lo hi f (k + 1) h = R) ∧ (byteAt s k ≠ 44 → R = .ok (k, h)))

theorem linv_item {s : ByteArray} {lo hi f j : Nat} {h : Nat → Bool} {R : Except Nat (Nat × (Nat → Bool))} (hR : pItems s lo hi f j h = R) (hf : s.size + 2 - j ≤ f) (hj : j ≤ s.size + 1) : LInv s lo hi R (posOf (pItem s lo hi j)) := by
  obtain ⟨f, rfl⟩ : ∃ g, f = g + 1 := ⟨f - 1, by omega⟩
  obtain ⟨va, vb, vn, hval⟩ : ∃ va vb vn, ∀ x, pItem s lo hi j = .ok x → (va, vb, vn) = x.2 := by
    cases hc : pItem s lo hi j with
    | error q => exact ⟨0, 0, 0, fun x hx => by cases hx⟩
    | ok x => exact ⟨x.2.1, x.2.2.1, x.2.2.2, fun y hy => by cases hy; rfl⟩
  obtain ⟨h1, h2⟩ := items_round hR rfl hval
  refine ⟨h1, fun k hk => ?_⟩
  obtain ⟨g1, g2, g3⟩ := h2 k hk
  exact ⟨f, _, by omega, g2, g3⟩

/-- The loop's measure. -/
def lmeas (s : ByteArray) (b : Nat) (w : World) : Nat := if badIn w b = true then 0 else s.size + 1 - posIn w b

set_option maxHeartbeats 1000000 in
theorem c_field (b : Nat) (s : ByteArray) (σ : Except Nat Nat) (lo hi : Nat) (T : TypeId) (w : World) (hb : HoldsC w b T s σ) (hs : s.size ≤ 281474976710656) (hE : Errs w) (hg1 : 1 ≠ b) (hg2 : 2 ≠ b) (hhi : hi ≤ 59) (hlo : lo ≤ 59) :
    Calls Tryd.prog 14 #[.pointer (some ⟨b, 0, none⟩), .agg #[.int .i64 lo, .int .i64 hi]] w (StepSaid b T s (posOf (σ.bind (pField s lo hi))) w) := by
  have hlt := hb.lt
  have hu0 : Blk (w.alloc (.cells #[.int .i64 lo, .int .i64 hi] 55)) w.heap.size #[.int .i64 lo, .int .i64 hi] 55 := Blk.new _ _ _
  have hb0 := hb.alloc (.cells #[.int .i64 lo, .int .i64 hi] 55)
  have ho0 := (Only.refl [b] w).alloc (.cells #[.int .i64 lo, .int .i64 hi] 55)
  have HU0 := hide hu0
  have HB0 := hide hb0
  have HO0 := hide ho0
  have HE := hide hE
  obtain ⟨bu, hbu⟩ : ∃ bu, bu = w.heap.size := ⟨_, rfl⟩
  have hub : bu ≠ b := by omega
  clear hb hE hu0 hb0 ho0
  rcases Bool.eq_false_or_eq_true (tookB s 42 σ) with ht | ht
  · obtain ⟨j, rfl, hby, hts⟩ := tookS_true ht
    have HT := hide ht
    have HTS := hide hts
    have HBY := hide hby
    clear ht hts hby hbu
    go_enter Tryd.func14, Tryd.ntmps14
    go_wp2_with (go_at_call 23; refine (c_took b s (.ok j) 42 42 rfl T _ (unhide HB0) hs (by decide)).mono ?_)
    rintro e w1 ⟨rfl, hb1, ho1⟩
    rw [unhide HTS] at hb1
    rw [unhide HT]
    have HB1 := hide hb1
    have HO1 := hide ((unhide HO0).trans ho1)
    clear hb1 ho1 HB0 HO0 HU0
    go_wp2_with (go_at_call 28; refine (c_step b s _ T _ (unhide HB1) hs ((unhide HE).only (unhide HO1) (by simpa using hg1) (by simpa using hg2)) hg1 hg2).mono ?_)
    rintro e w2 ⟨rfl, hb2, ho2⟩
    have HB2 := hide hb2
    have HO2 := hide ((unhide HO1).trans ho2)
    clear hb2 ho2
    go_wp2
    go_end0
    refine ⟨rfl, ?_, unhide HO2⟩
    have hfin : posOf ((Except.ok (j + 1) : Except Nat Nat).bind (pStep s)) = posOf ((Except.ok j : Except Nat Nat).bind (pField s lo hi)) := by
      show posOf (pStep s (j + 1)) = posOf (pField s lo hi j)
      unfold pField
      rw [if_pos (unhide HBY)]
      cases h2 : pStep s (j + 1) with
      | error q => rfl
      | ok y => rfl
    rw [← hfin]
    exact unhide HB2
  · have hts := tookS_false ht
    obtain ⟨R, hR⟩ : ∃ R, R = σ.bind fun j => pItems s lo hi (s.size + 2 - j) j (fun _ => false) := ⟨_, rfl⟩
    have hfield : posOf (σ.bind (pField s lo hi)) = posOf R := by
      rw [hR]
      cases σ with
      | error p => rfl
      | ok j =>
        have hne : byteAt s j ≠ 42 := by simpa [tookB] using ht
        show posOf (pField s lo hi j) = posOf (pItems s lo hi (s.size + 2 - j) j (fun _ => false))
        unfold pField
        rw [if_neg hne]
        cases h2 : pItems s lo hi (s.size + 2 - j) j (fun _ => false) with
        | error q => rfl
        | ok y => rfl
    have hinv : LInv s lo hi R (posOf (σ.bind (pItem s lo hi))) := by
      rw [hR]
      cases σ with
      | error p => exact ⟨fun q hq => (by cases hq; rfl), fun k hk => by cases hk⟩
      | ok j =>
        obtain ⟨hj, _⟩ := unhide HB0
        exact linv_item rfl (Nat.le_refl _) (by omega)
    have HT := hide ht
    have HTS := hide hts
    have HFI := hide hfield
    have HIN := hide hinv
    clear ht hts hfield hinv hR
    go_enter Tryd.func14, Tryd.ntmps14
    go_wp2_with (go_at_call 23; refine (c_took b s σ 42 42 rfl T _ (unhide HB0) hs (by decide)).mono ?_)
    rintro e w1 ⟨rfl, hb1, ho1⟩
    rw [unhide HTS] at hb1
    rw [unhide HT, ← hbu]
    have hu1 : Blk w1 bu #[.int .i64 lo, .int .i64 hi] 55 := by rw [hbu]; exact (unhide HU0).only ho1 (by simp; omega)
    have HB1 := hide hb1
    have HO1 := hide ((unhide HO0).trans ho1)
    have HU1 := hide hu1
    have u0 := hu1.cell 0
    have u1 := hu1.cell 1
    simp at u0 u1
    clear hb1 ho1 hu1 HB0 HO0 HU0 hbu
    go_wp2_with (go_at_call 29; refine (c_item b s _ lo hi T _ (unhide HB1) hs ((unhide HE).only (unhide HO1) (by simpa using hg1) (by simpa using hg2)) hg1 hg2 hhi hlo).mono ?_)
    rintro e w2 ⟨rfl, hb2, ho2⟩
    have HB2 := hide hb2
    have HO2 := hide ((unhide HO1).trans ho2)
    have HU2 := hide ((unhide HU1).only ho2 (by simpa using hub))
    clear hb2 ho2 HB1 HO1 HU1 u0 u1
    go_wp2_with fail
    go_loopw [] (fun wr => ∃ τ, Hid (HoldsC wr b T s τ ∧ Blk wr bu #[.int .i64 lo, .int .i64 hi] 55 ∧ Only [b] w wr ∧ LInv s lo hi R τ)) (fun wr => lmeas s b wr)
    case atStart => exact ⟨_, unhide HB2, unhide HU2, unhide HO2, unhide HIN⟩
    case round =>
      obtain ⟨τ, HX⟩ := hrel
      obtain ⟨hB, hU, hO, hI⟩ := unhide HX
      have HBr := hide hB
      have HUr := hide hU
      have HOr := hide hO
      clear HB2 HU2 HO2 HIN
      rcases Bool.eq_false_or_eq_true (tookB s 44 τ) with ht | ht
      · obtain ⟨k, rfl, hby, hts⟩ := tookS_true ht
        obtain ⟨f, h, hf, hgo, _⟩ := hI.2 k rfl
        have hkn : k < s.size := by
          rcases Nat.lt_or_ge k s.size with hh | hh
          · exact hh
          · rw [byteAt_out hh] at hby; omega
        have hinv := linv_item (hgo hby) (by omega) (show k + 1 ≤ s.size + 1 by omega)
        have hm0 : lmeas s b wr = s.size + 1 - k := by
          obtain ⟨_, a, hblk⟩ := hB
          simp [lmeas, badIn_of hblk, posIn_of hblk]
        have HM0 := hide hm0
        have HIN := hide hinv
        have HT := hide ht
        have HTS := hide hts
        clear hB hU hO hI HX ht hts hby hgo hinv hm0 hf
        go_wp2_with (go_at_call 23; refine (c_took b s (.ok k) 44 44 rfl T _ (unhide HBr) hs (by decide)).mono ?_)
        rintro e w3 ⟨rfl, hb3, ho3⟩
        rw [unhide HTS] at hb3
        rw [unhide HT]
        have HB3 := hide hb3
        have HO3 := hide ((unhide HOr).trans ho3)
        have hu3 := (unhide HUr).only ho3 (by simpa using hub)
        have HU3 := hide hu3
        have u0 := hu3.cell 0
        have u1 := hu3.cell 1
        simp at u0 u1
        clear hb3 ho3 hu3 HBr HOr HUr
        go_wp2_with (go_at_call 29; refine (c_item b s (.ok (k + 1)) lo hi T _ (unhide HB3) hs ((unhide HE).only (unhide HO3) (by simpa using hg1) (by simpa using hg2)) hg1 hg2 hhi hlo).mono ?_)
        rintro e w4 ⟨rfl, hb4, ho4⟩
        have hb4 : HoldsC w4 b T s (posOf (pItem s lo hi (k + 1))) := hb4
        have hO4 := (unhide HO3).trans ho4
        have hU4 := (unhide HU3).only ho4 (by simpa using hub)
        have hmf : lmeas s b w4 < s.size + 1 - k := by
          obtain ⟨i4, bad4, a4, hi4, hblk4, hok4, herr4⟩ := hb4.place
          simp only [lmeas, badIn_of hblk4, posIn_of hblk4]
          cases bad4
          · cases hc : pItem s lo hi (k + 1) with
            | error q => have := (herr4 q (by rw [hc]; rfl)).1; cases this
            | ok x =>
              have := (hok4 x.1 (by rw [hc]; rfl)).1
              have := pItem_ok hc
              simp
              omega
          · simp
            omega
        have HMF := hide hmf
        have HB4 := hide hb4
        have HO4 := hide hO4
        have HU4 := hide hU4
        clear hb4 ho4 hO4 hU4 hmf u0 u1 HB3 HO3 HU3
        go_wp2
        go_roundw
        case rel => exact ⟨_, unhide HB4, unhide HU4, unhide HO4, unhide HIN⟩
        case measure => rw [unhide HM0]; exact unhide HMF
      · have hts := tookS_false ht
        have hfin : posOf R = τ := by
          cases τ with
          | error p => rw [hI.1 p rfl]; rfl
          | ok k =>
            have hne : byteAt s k ≠ 44 := by simpa [tookB] using ht
            obtain ⟨f, h, _, _, hr⟩ := hI.2 k rfl
            rw [hr hne]; rfl
        have HT := hide ht
        have HTS := hide hts
        have HF := hide hfin
        clear hB hU hO hI HX ht hts hfin
        go_wp2_with (go_at_call 23; refine (c_took b s τ 44 44 rfl T _ (unhide HBr) hs (by decide)).mono ?_)
        rintro e w3 ⟨rfl, hb3, ho3⟩
        rw [unhide HTS] at hb3
        rw [unhide HT]
        go_wp2
        go_end0
        exact ⟨rfl, by rw [unhide HFI, unhide HF]; exact hb3, (unhide HOr).trans ho3⟩
end Go.Proofs.YtdepepggfoiefaaDoor
