/- The program's scanner: field, with the set that it tells. -/
import Derived.Test.YtnnhnihgeheahaaDoorFldA
import Derived.Deep.RegionHeld3
set_option linter.unusedSimpArgs false
set_option linter.unusedVariables false
namespace Go.Proofs.YtnnhnihgeheahaaDoor
open Go.RowKit

/-- Behind an item: what is left; h is what was told. -/
def LInv (s : ByteArray) (lo hi : Nat) (R : Except Nat (Nat × (Nat → Bool))) (τ : Except Nat Nat) (h : Nat → Bool) : Prop :=
  (∀ p, τ = .error p → R = .error p) ∧ (∀ k, τ = .ok k → ∃ f, s.size + 1 - k ≤ f ∧ (byteAt s k = 44 → pItems s lo hi f (k + 1) h = R) ∧ (byteAt s k ≠ 44 → R = .ok (k, h)))

theorem linv_item {s : ByteArray} {lo hi f j va vb vn : Nat} {h : Nat → Bool} {R : Except Nat (Nat × (Nat → Bool))} (hR : pItems s lo hi f j h = R) (hf : s.size + 2 - j ≤ f) (hj : j ≤ s.size + 1)
    (hval : ∀ x, pItem s lo hi j = .ok x → (va, vb, vn) = x.2) : LInv s lo hi R (posOf (pItem s lo hi j)) (fillB h va vb vn) := by
  obtain ⟨f, rfl⟩ : ∃ g, f = g + 1 := ⟨f - 1, by omega⟩
  obtain ⟨h1, h2⟩ := items_round hR rfl hval
  refine ⟨h1, fun k hk => ?_⟩
  obtain ⟨g1, g2, g3⟩ := h2 k hk
  exact ⟨f, by omega, g2, g3⟩

/-- The loop's measure. -/
def lmeas (s : ByteArray) (b : Nat) (w : World) : Nat := if badIn w b = true then 0 else s.size + 1 - posIn w b

/-- What 'field' says. -/
def FieldSaidC (b : Nat) (T : TypeId) (s : ByteArray) (σ : Except Nat Nat) (lo hi : Nat) (w : World) (e : Ending) (w' : World) : Prop :=
  ∃ (st : Bool) (h : Nat → Bool), e = .returned (.agg #[.int .u64 (Cal.nb h : Nat), .bool st]) ∧ HoldsC w' b T s (posOf (σ.bind (pField s lo hi))) ∧ Only [b] w w' ∧ (∀ x, σ.bind (pField s lo hi) = .ok x → (st, h) = x.2)

theorem two_cells {w : World} {b : Nat} {x y : Value} {T : TypeId} (h : Blk w b #[x, y] T) : w.cell? ⟨b, 0, none⟩ = some x ∧ w.cell? ⟨b, 1, none⟩ = some y := ⟨h.cell 0, h.cell 1⟩

theorem two_keep {w : World} {c d : Nat} {x y : Value} (hne : d ≠ c) (h : w.cell? ⟨c, 0, none⟩ = some x ∧ w.cell? ⟨c, 1, none⟩ = some y) (u v : Value) :
    ((w.setCell ⟨d, 0, none⟩ u).setCell ⟨d, 1, none⟩ v).cell? ⟨c, 0, none⟩ = some x ∧ ((w.setCell ⟨d, 0, none⟩ u).setCell ⟨d, 1, none⟩ v).cell? ⟨c, 1, none⟩ = some y := by
  rw [World.cell?_setCell_far _ _ _ _ hne, World.cell?_setCell_far _ _ _ _ hne, World.cell?_setCell_far _ _ _ _ hne, World.cell?_setCell_far _ _ _ _ hne]
  exact h

set_option maxHeartbeats 2000000 in
theorem c_field (b : Nat) (s : ByteArray) (σ : Except Nat Nat) (lo hi : Nat) (T : TypeId) (w : World) (hb : HoldsC w b T s σ) (hs : s.size ≤ 281474976710656) (hE : Errs w) (hg1 : 1 ≠ b) (hg2 : 2 ≠ b) (hhi : hi ≤ 59) (hlo : lo ≤ hi) :
    Calls Tryd.prog 22 #[.pointer (some ⟨b, 0, none⟩), .agg #[.int .i64 lo, .int .i64 hi]] w (FieldSaidC b T s σ lo hi w) := by
  have hlt := hb.lt
  obtain ⟨w0, hw0⟩ : ∃ w0, w0 = (w.alloc (.cells #[.int .i64 lo, .int .i64 hi] 74)).alloc (.cells #[.int .u64 0, .bool false] 36) := ⟨_, rfl⟩
  have hu0 : Blk w0 w.heap.size #[.int .i64 lo, .int .i64 hi] 74 := by rw [hw0]; exact (Blk.new _ _ _).alloc _
  have hr0 : Blk w0 (w.heap.size + 1) #[.int .u64 0, .bool false] 36 := by rw [hw0]; simpa using Blk.new (w.alloc (.cells #[.int .i64 lo, .int .i64 hi] 74)) #[.int .u64 0, .bool false] 36
  have hb0 : HoldsC w0 b T s σ := by rw [hw0]; exact (hb.alloc _).alloc _
  have ho0 : Only [b] w w0 := by rw [hw0]; exact ((Only.refl [b] w).alloc _).alloc _
  have HU0 := hide hu0
  have HR0 := hide hr0
  have HB0 := hide hb0
  have HO0 := hide ho0
  have HE := hide hE
  obtain ⟨bu, hbu⟩ : ∃ bu, bu = w.heap.size := ⟨_, rfl⟩
  have hub : bu ≠ b := by omega
  clear hb hE hu0 hb0 ho0 hr0
  rcases Bool.eq_false_or_eq_true (tookB s 42 σ) with ht | ht
  · obtain ⟨j, rfl, hby, hts⟩ := tookS_true ht
    have HT := hide ht
    have HTS := hide hts
    have HBY := hide hby
    clear ht hts hby
    go_enter Tryd.func22, Tryd.ntmps22
    go_wp2_with (go_at_call 27; rw [← hw0]; refine (c_took b s (.ok j) 42 42 rfl T _ (unhide HB0) hs (by decide)).mono ?_)
    rintro e w1 ⟨rfl, hb1, ho1⟩
    rw [unhide HTS] at hb1
    rw [unhide HT, ← hbu]
    have hu1 : Blk w1 bu #[.int .i64 lo, .int .i64 hi] 74 := by rw [hbu]; exact (unhide HU0).only ho1 (by simp; omega)
    have hr1 : Blk w1 (bu + 1) #[.int .u64 0, .bool false] 36 := by rw [hbu]; exact (unhide HR0).only ho1 (by simp; omega)
    have hbuw : w.heap.size ≤ bu := by omega
    have hub1 : bu + 1 ≠ b := by omega
    have HB1 := hide hb1
    have HO1 := hide ((unhide HO0).trans ho1)
    have HU1 := hide hu1
    have HR1 := hide hr1
    have hk0 := two_cells hu1
    have HK0 := hide hk0
    clear hb1 ho1 hu1 hr1 HB0 HO0 HU0 HR0 hbu hw0 hk0 hlt
    have hE1 := ((unhide HE).only (unhide HO1) (by simpa using hg1) (by simpa using hg2)).drewN 1
    have HE1 := hide hE1
    clear hE1
    go_wp2
    go_region_held3 (fun w' => w'.cell? ⟨bu, 0, none⟩ = some (.int .i64 (lo : Int)) ∧ w'.cell? ⟨bu, 1, none⟩ = some (.int .i64 (hi : Int))) (first | exact unhide HK0 | exact unhide HK1 | exact two_keep (by omega) (unhide HK1) _ _)
      (first
      | (go_at_call 33
         refine (c_step b s (.ok (j + 1)) T _ ?_ hs ?_ hg1 hg2).mono ?_
         · exact unhide HB1
         · exact unhide HE1
         rintro e w2 ⟨vn, rfl, hb2, ho2, hv2, hn1, hn2⟩
         have hu2 := (unhide HU1).drew.only ho2 (by simpa using hub)
         have hr2 := (unhide HR1).drew.only ho2 (by simpa using hub1)
         have HB2 := hide hb2
         have HO2 := hide (((unhide HO1).drew).trans ho2)
         have HV2 := hide hv2
         have HK1 := hide (two_cells hu2)
         have HR2 := hide hr2
         have k0 := (two_cells hu2).1
         have k1 := (two_cells hu2).2
         have r0 := (two_cells hr2).1
         have r1 := (two_cells hr2).2
         have rf := hr2.frozen
         clear hb2 ho2 hv2 hu2 hr2)
      | (go_at_call 32; refine (code_eachOf lo hi vn _ _ _ rfl rfl rfl _ (by omega) (by omega) (by omega) (by omega)).mono ?_; rintro e w5 ⟨rfl, rfl⟩))
    all_goals
      go_wp2
      refine bodyPost_ret (v := .agg #[.int .u64 (Cal.nb (fillB (fun _ => false) lo hi vn) : Nat), .bool true]) (by simp [results, Tryd.results22, go_sem, r0, r1]) rfl ⟨true, _, rfl, ?_, ?_, ?_⟩
      · have hfin : posOf ((Except.ok (j + 1) : Except Nat Nat).bind (pStep s)) = posOf ((Except.ok j : Except Nat Nat).bind (pField s lo hi)) := by
          show posOf (pStep s (j + 1)) = posOf (pField s lo hi j)
          unfold pField
          rw [if_pos (unhide HBY)]
          cases h2 : pStep s (j + 1) with
          | error q => rfl
          | ok y => rfl
        rw [← hfin]
        exact ((unhide HB2).setOther (by simpa using hub1) _).setOther (by simpa using hub1) _
      · exact ((unhide HO2).setNew (by simp; omega) _).setNew (by simp; omega) _
      · intro x hx
        have hq := unhide HV2
        have hx : pField s lo hi j = .ok x := hx
        unfold pField at hx
        rw [if_pos (unhide HBY)] at hx
        cases h2 : pStep s (j + 1) with
        | error q => rw [h2] at hx; cases hx
        | ok y =>
          have := hq y h2
          rw [h2] at hx
          subst this
          cases hx
          rfl
  · have hts := tookS_false ht
    obtain ⟨R, hR⟩ : ∃ R, R = σ.bind fun j => pItems s lo hi (s.size + 2 - j) j (fun _ => false) := ⟨_, rfl⟩
    have hfield : σ.bind (pField s lo hi) = R.bind fun x => .ok (x.1, (false, x.2)) := by
      rw [hR]
      cases σ with
      | error p => rfl
      | ok j =>
        have hne : byteAt s j ≠ 42 := by simpa [tookB] using ht
        show pField s lo hi j = (pItems s lo hi (s.size + 2 - j) j (fun _ => false)).bind _
        unfold pField
        rw [if_neg hne]
    have hinv : ∀ va vb vn, (∀ x, σ.bind (pItem s lo hi) = .ok x → (va, vb, vn) = x.2) → LInv s lo hi R (posOf (σ.bind (pItem s lo hi))) (fillB (fun _ => false) va vb vn) := by
      intro va vb vn hv
      rw [hR]
      cases σ with
      | error p => exact ⟨fun q hq => (by cases hq; rfl), fun k hk => by cases hk⟩
      | ok j =>
        obtain ⟨hj, _⟩ := unhide HB0
        exact linv_item rfl (Nat.le_refl _) (by omega) hv
    have HT := hide ht
    have HTS := hide hts
    have HFI := hide hfield
    have HIN := hide hinv
    clear ht hts hfield hinv hR
    go_enter Tryd.func22, Tryd.ntmps22
    go_wp2_with (go_at_call 27; rw [← hw0]; refine (c_took b s σ 42 42 rfl T _ (unhide HB0) hs (by decide)).mono ?_)
    rintro e w1 ⟨rfl, hb1, ho1⟩
    rw [unhide HTS] at hb1
    rw [unhide HT, ← hbu]
    have hu1 : Blk w1 bu #[.int .i64 lo, .int .i64 hi] 74 := by rw [hbu]; exact (unhide HU0).only ho1 (by simp; omega)
    have hr1 : Blk w1 (bu + 1) #[.int .u64 0, .bool false] 36 := by rw [hbu]; exact (unhide HR0).only ho1 (by simp; omega)
    have hbuw : w.heap.size ≤ bu := by omega
    have hub1 : bu + 1 ≠ b := by omega
    have HB1 := hide hb1
    have HO1 := hide ((unhide HO0).trans ho1)
    have HU1 := hide hu1
    have HR1 := hide hr1
    have u0 := hu1.cell 0
    have u1 := hu1.cell 1
    simp at u0 u1
    clear hb1 ho1 hu1 hr1 HB0 HO0 HU0 HR0 hbu hw0 hlt
    go_wp2_with (go_at_call 34; refine (c_item b s _ lo hi T _ (unhide HB1) hs ((unhide HE).only (unhide HO1) (by simpa using hg1) (by simpa using hg2)) hg1 hg2 hhi hlo).mono ?_)
    rintro e w2 ⟨va, vb, vn, rfl, hb2, ho2, hv2⟩
    obtain ⟨h0, hh0⟩ : ∃ h0, h0 = fillB (fun _ => false) va vb vn := ⟨_, rfl⟩
    have hi2 := unhide HIN va vb vn hv2
    rw [← hh0] at hi2
    rw [← hh0]
    have HB2 := hide hb2
    have HO2 := hide ((unhide HO1).trans ho2)
    have HU2 := hide ((unhide HU1).only ho2 (by simpa using hub))
    have HR2 := hide ((unhide HR1).only ho2 (by simpa using hub1))
    have HI2 := hide hi2
    clear hb2 ho2 HB1 HO1 HU1 HR1 u0 u1 hh0 hi2 hv2 HIN
    go_wp2_with fail
    go_loopw [5] (fun x wr => ∃ (τ : Except Nat Nat) (h : Nat → Bool), x = .int .u64 (Cal.nb h : Nat) ∧ Hid (HoldsC wr b T s τ ∧ Blk wr bu #[.int .i64 lo, .int .i64 hi] 74 ∧ Blk wr (bu + 1) #[.int .u64 0, .bool false] 36 ∧ Only [b] w wr ∧ LInv s lo hi R τ h)) (fun x wr => lmeas s b wr)
    case atStart => exact ⟨_, h0, rfl, unhide HB2, unhide HU2, unhide HR2, unhide HO2, unhide HI2⟩
    case round =>
      obtain ⟨τ, h, rfl, HX⟩ := hrel
      obtain ⟨hB, hU, hRR, hO, hI⟩ := unhide HX
      have HBr := hide hB
      have HUr := hide hU
      have HRr := hide hRR
      have HOr := hide hO
      clear HB2 HU2 HO2 HR2 HI2
      obtain ⟨N, hN⟩ : ∃ N, N = Cal.nb h := ⟨_, rfl⟩
      have hNb := Cal.nb_lt h
      rw [← hN] at hNb ⊢
      have HN := hide hN
      clear hN
      rcases Bool.eq_false_or_eq_true (tookB s 44 τ) with ht | ht
      · obtain ⟨k, rfl, hby, hts⟩ := tookS_true ht
        obtain ⟨f, hf, hgo, _⟩ := hI.2 k rfl
        have hkn : k < s.size := by
          rcases Nat.lt_or_ge k s.size with hh | hh
          · exact hh
          · rw [byteAt_out hh] at hby; omega
        have hinv : ∀ va vb vn, (∀ x, pItem s lo hi (k + 1) = .ok x → (va, vb, vn) = x.2) → LInv s lo hi R (posOf (pItem s lo hi (k + 1))) (fillB h va vb vn) := fun va vb vn hv => linv_item (hgo hby) (by omega) (show k + 1 ≤ s.size + 1 by omega) hv
        have hm0 : lmeas s b wr = s.size + 1 - k := by
          obtain ⟨_, a, hblk⟩ := hB
          simp [lmeas, badIn_of hblk, posIn_of hblk]
        have HM0 := hide hm0
        have HIN := hide hinv
        have HT := hide ht
        have HTS := hide hts
        clear hB hU hRR hO hI HX ht hts hby hgo hinv hm0 hf
        go_wp2_with (go_at_call 27; refine (c_took b s (.ok k) 44 44 rfl T _ (unhide HBr) hs (by decide)).mono ?_)
        rintro e w3 ⟨rfl, hb3, ho3⟩
        rw [unhide HTS] at hb3
        rw [unhide HT]
        have HB3 := hide hb3
        have HO3 := hide ((unhide HOr).trans ho3)
        have hu3 := (unhide HUr).only ho3 (by simpa using hub)
        have hr3 := (unhide HRr).only ho3 (by simpa using hub1)
        have HU3 := hide hu3
        have HR3 := hide hr3
        have u0 := hu3.cell 0
        have u1 := hu3.cell 1
        simp at u0 u1
        clear hb3 ho3 hu3 hr3 HBr HOr HUr HRr
        go_wp2_with (go_at_call 34; refine (c_item b s (.ok (k + 1)) lo hi T _ (unhide HB3) hs ((unhide HE).only (unhide HO3) (by simpa using hg1) (by simpa using hg2)) hg1 hg2 hhi hlo).mono ?_)
        rintro e w4 ⟨va, vb, vn, rfl, hb4, ho4, hv4⟩
        have hb4 : HoldsC w4 b T s (posOf (pItem s lo hi (k + 1))) := hb4
        have hi4 := unhide HIN va vb vn hv4
        have hO4 := (unhide HO3).trans ho4
        have hU4 := (unhide HU3).only ho4 (by simpa using hub)
        have hR4 := (unhide HR3).only ho4 (by simpa using hub1)
        have hor : N ||| Cal.nb (fillB (fun _ => false) va vb vn) = Cal.nb (fillB h va vb vn) := by rw [unhide HN]; exact (Cal.nb_fill h va vb vn).symm
        have hMb := Cal.nb_lt (fillB (fun _ => false) va vb vn)
        obtain ⟨M, hM⟩ : ∃ M, M = Cal.nb (fillB (fun _ => false) va vb vn) := ⟨_, rfl⟩
        rw [← hM] at hor hMb ⊢
        have horI := bits_or_u64_nat N M hNb hMb
        rw [hor] at horI
        have hmf : lmeas s b w4 < s.size + 1 - k := by
          obtain ⟨i4, bad4, a4, hi4, hblk4, hok4, herr4⟩ := hb4.place
          simp only [lmeas, badIn_of hblk4, posIn_of hblk4]
          cases bad4
          · cases hc : pItem s lo hi (k + 1) with
            | error q => have := (herr4 q (by rw [hc]; rfl)).1; cases this
            | ok x =>
              have := (hok4 x.1 (by rw [hc]; rfl)).1
              have := pItem_ok hc
              simp
              omega
          · simp
            omega
        have HMF := hide hmf
        have HB4 := hide hb4
        have HO4 := hide hO4
        have HU4 := hide hU4
        have HR4 := hide hR4
        have HI4 := hide hi4
        have HOI := hide horI
        clear hb4 ho4 hO4 hU4 hR4 hi4 hv4 hmf u0 u1 HB3 HO3 HU3 HR3 hor horI hM HIN
        go_wp2
        go_roundw
        case rel => exact ⟨_, fillB h va vb vn, by rw [unhide HOI], unhide HB4, unhide HU4, unhide HR4, unhide HO4, unhide HI4⟩
        case measure => rw [unhide HM0]; exact unhide HMF
      · have hts := tookS_false ht
        have hfin : (∀ p, τ = .error p → R = .error p) ∧ (∀ k, τ = .ok k → R = .ok (k, h)) := by
          refine ⟨hI.1, fun k hk => ?_⟩
          subst hk
          have hne : byteAt s k ≠ 44 := by simpa [tookB] using ht
          obtain ⟨f, _, _, hr⟩ := hI.2 k rfl
          exact hr hne
        have HT := hide ht
        have HTS := hide hts
        have HF := hide hfin
        clear hB hU hRR hO hI HX ht hts hfin
        go_wp2_with (go_at_call 27; refine (c_took b s τ 44 44 rfl T _ (unhide HBr) hs (by decide)).mono ?_)
        rintro e w3 ⟨rfl, hb3, ho3⟩
        rw [unhide HTS] at hb3
        rw [unhide HT]
        have HB3 := hide hb3
        have HO3 := hide ((unhide HOr).trans ho3)
        have hr3 := (unhide HRr).only ho3 (by simpa using hub1)
        have r0 := (two_cells hr3).1
        have r1 := (two_cells hr3).2
        have rf := hr3.frozen
        clear hb3 ho3 hr3 HBr HOr HUr HRr
        go_wp2
        refine bodyPost_ret (v := .agg #[.int .u64 (N : Int), .bool false]) (by simp [results, Tryd.results22, go_sem, r0, r1]) rfl ⟨false, h, by rw [unhide HN], ?_, ?_, ?_⟩
        · have hp : posOf (σ.bind (pField s lo hi)) = τ := by
            rw [unhide HFI]
            cases τ with
            | error p => rw [(unhide HF).1 p rfl]; rfl
            | ok k => rw [(unhide HF).2 k rfl]; rfl
          rw [hp]
          exact ((unhide HB3).setOther (by simpa using hub1) _).setOther (by simpa using hub1) _
        · exact ((unhide HO3).setNew (by simp; omega) _).setNew (by simp; omega) _
        · intro x hx
          rw [unhide HFI] at hx
          cases τ with
          | error p => rw [(unhide HF).1 p rfl] at hx; cases hx
          | ok k => rw [(unhide HF).2 k rfl] at hx; cases hx; rfl
end Go.Proofs.YtnnhnihgeheahaaDoor
