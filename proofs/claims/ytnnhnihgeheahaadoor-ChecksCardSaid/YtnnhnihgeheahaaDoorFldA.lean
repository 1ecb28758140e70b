/- The program's scanner: step, item, with the sets that they tell. -/
import Derived.Test.YtnnhnihgeheahaaDoorCodeD
import Derived.Test.YtnnhnihgeheahaaDoorBaseG
import Derived.Test.YtnnhnihgeheahaaDoorNumE
set_option linter.unusedSimpArgs false
set_option linter.unusedVariables false
namespace Go.Proofs.YtnnhnihgeheahaaDoor
open Go.RowKit

theorem tookS_false {s : ByteArray} {c : Nat} {σ : Except Nat Nat} (h : tookB s c σ = false) : tookS s c σ = σ := by
  cases σ with
  | error p => rfl
  | ok j => simp [tookB] at h; simp [tookS, h]
theorem tookS_true {s : ByteArray} {c : Nat} {σ : Except Nat Nat} (h : tookB s c σ = true) : ∃ j, σ = .ok j ∧ byteAt s j = c ∧ tookS s c σ = .ok (j + 1) := by
  cases σ with
  | error p => simp [tookB] at h
  | ok j => simp [tookB] at h; exact ⟨j, rfl, h, by simp [tookS, h]⟩

def StepSaid (b : Nat) (T : TypeId) (s : ByteArray) (σ : Except Nat Nat) (w : World) (e : Ending) (w' : World) : Prop :=
  ∃ v : Nat, e = .returned (.int .i64 v) ∧ HoldsC w' b T s (posOf (σ.bind (pStep s))) ∧ Only [b] w w' ∧ (∀ x, σ.bind (pStep s) = .ok x → v = x.2) ∧ 1 ≤ v ∧ v ≤ 99

set_option maxHeartbeats 1000000 in
theorem c_step (b : Nat) (s : ByteArray) (σ : Except Nat Nat) (T : TypeId) (w : World) (hb : HoldsC w b T s σ) (hs : s.size ≤ 281474976710656) (hE : Errs w) (hg1 : 1 ≠ b) (hg2 : 2 ≠ b) :
    Calls Tryd.prog 33 #[.pointer (some ⟨b, 0, none⟩)] w (StepSaid b T s σ w) := by
  have HB := hide hb
  have HE := hide hE
  clear hb hE
  rcases Bool.eq_false_or_eq_true (tookB s 47 σ) with ht | ht
  · obtain ⟨j, rfl, hby, hts⟩ := tookS_true ht
    have HT := hide ht
    have HTS := hide hts
    have HBY := hide hby
    clear ht hts hby
    go_enter Tryd.func33, Tryd.ntmps33
    go_wp2_with (go_at_call 27; refine (c_took b s (.ok j) 47 47 rfl T _ (unhide HB) hs (by decide)).mono ?_)
    rintro e w1 ⟨rfl, hb1, ho1⟩
    rw [unhide HTS] at hb1
    rw [unhide HT]
    have HB1 := hide hb1
    have HO1 := hide ho1
    clear hb1 ho1
    go_wp2_with (go_at_call 29; refine (c_number2 b s _ 1 99 1 99 rfl rfl T _ (unhide HB1) hs ((unhide HE).only (unhide HO1) (by simpa using hg1) (by simpa using hg2)) hg1 hg2 (by decide) (by decide)).mono ?_)
    rintro e w2 ⟨v, rfl, hb2, ho2, hv2, hl2, hl3, hl4⟩
    have HB2 := hide hb2
    have HO2 := hide ((unhide HO1).trans ho2)
    have HV2 := hide hv2
    clear hb2 ho2 hv2
    go_wp2
    go_ret
    have hp : (Except.ok j : Except Nat Nat).bind (pStep s) = (Except.ok (j + 1) : Except Nat Nat).bind (pNum s 1 99) := by
      show pStep s j = _
      unfold pStep
      rw [if_pos (unhide HBY)]
      rfl
    refine ⟨v, rfl, ?_, unhide HO2, ?_, hl3, by omega⟩
    · rw [hp]; exact unhide HB2
    · rw [hp]; exact unhide HV2
  · have hts := tookS_false ht
    have hfin : posOf (σ.bind (pStep s)) = σ ∧ ∀ x, σ.bind (pStep s) = .ok x → 1 = x.2 := by
      cases σ with
      | error p => exact ⟨rfl, fun x hx => by cases hx⟩
      | ok j =>
        have hne : byteAt s j ≠ 47 := by simpa [tookB] using ht
        have hp : (Except.ok j : Except Nat Nat).bind (pStep s) = .ok (j, 1) := by
          show pStep s j = _
          unfold pStep
          rw [if_neg hne]
        rw [hp]
        exact ⟨rfl, fun x hx => by cases hx; rfl⟩
    have HT := hide ht
    have HTS := hide hts
    have HF := hide hfin
    clear ht hts hfin
    go_enter Tryd.func33, Tryd.ntmps33
    go_wp2_with (go_at_call 27; refine (c_took b s σ 47 47 rfl T _ (unhide HB) hs (by decide)).mono ?_)
    rintro e w1 ⟨rfl, hb1, ho1⟩
    rw [unhide HTS] at hb1
    rw [unhide HT]
    have HB1 := hide hb1
    have HO1 := hide ho1
    clear hb1 ho1
    go_wp2
    go_ret
    exact ⟨1, rfl, by rw [(unhide HF).1]; exact unhide HB1, unhide HO1, (unhide HF).2, by omega, by omega⟩

/-- What 'item' says. -/
def ItemSaid (b : Nat) (T : TypeId) (s : ByteArray) (σ : Except Nat Nat) (lo hi : Nat) (w : World) (e : Ending) (w' : World) : Prop :=
  ∃ (va vb vn : Nat), e = .returned (.int .u64 (Cal.nb (fillB (fun _ => false) va vb vn) : Nat)) ∧ HoldsC w' b T s (posOf (σ.bind (pItem s lo hi))) ∧ Only [b] w w' ∧ (∀ x, σ.bind (pItem s lo hi) = .ok x → (va, vb, vn) = x.2)

set_option maxHeartbeats 2000000 in
theorem c_item (b : Nat) (s : ByteArray) (σ : Except Nat Nat) (lo hi : Nat) (T : TypeId) (w : World) (hb : HoldsC w b T s σ) (hs : s.size ≤ 281474976710656) (hE : Errs w) (hg1 : 1 ≠ b) (hg2 : 2 ≠ b) (hhi : hi ≤ 59) (hlo : lo ≤ hi) :
    Calls Tryd.prog 34 #[.pointer (some ⟨b, 0, none⟩), .agg #[.int .i64 lo, .int .i64 hi]] w (ItemSaid b T s σ lo hi w) := by
  have hlt := hb.lt
  have hu0 : Blk (w.alloc (.cells #[.int .i64 lo, .int .i64 hi] 74)) w.heap.size #[.int .i64 lo, .int .i64 hi] 74 := Blk.new _ _ _
  have hb0 := hb.alloc (.cells #[.int .i64 lo, .int .i64 hi] 74)
  have ho0 := (Only.refl [b] w).alloc (.cells #[.int .i64 lo, .int .i64 hi] 74)
  have hE0 := hE.only ho0 (by simpa using hg1) (by simpa using hg2)
  have HU0 := hide hu0
  have HB0 := hide hb0
  have HO0 := hide ho0
  have HE0 := hide hE0
  have HE := hide hE
  clear hb hE hu0 hb0 ho0 hE0
  go_enter Tryd.func34, Tryd.ntmps34
  go_wp2_with (go_at_call 29; refine (c_number2 b s σ lo hi lo hi rfl rfl T _ (unhide HB0) hs (unhide HE0) hg1 hg2 (by omega) (by omega)).mono ?_)
  rintro e w1 ⟨va, rfl, hb1, ho1, hv1, hl1, hl2, hl3⟩
  have hva : va ≤ 59 := by omega
  have HU1 := hide ((unhide HU0).only ho1 (by simp; omega))
  have HO1 := hide ((unhide HO0).trans ho1)
  have HB1 := hide hb1
  have HV1 := hide hv1
  clear hb1 ho1 hv1 HU0 HB0 HO0 HE0
  rcases Bool.eq_false_or_eq_true (tookB s 45 (posOf (σ.bind (pNum s lo hi)))) with ht | ht
  · obtain ⟨k, hk, hby, hts⟩ := tookS_true ht
    have hp1 : ∃ j, σ = .ok j ∧ pNum s lo hi j = .ok (k, va) := by
      cases σ with
      | error p => cases hk
      | ok j =>
        refine ⟨j, rfl, ?_⟩
        cases hc : pNum s lo hi j with
        | error q =>
          have hk' : posOf (pNum s lo hi j) = .ok k := hk
          rw [hc] at hk'; cases hk'
        | ok x =>
          have hk' : posOf (pNum s lo hi j) = .ok k := hk
          rw [hc] at hk'; cases hk'
          rw [unhide HV1 x hc]
    obtain ⟨j, rfl, hp1⟩ := hp1
    have hva : va ≤ hi := (pNum_ok hp1).2.2.1
    have HP1 := hide hp1
    have HBY := hide hby
    have HT := hide ht
    have HTS := hide hts
    clear ht hts hk hby hp1 HV1
    have u1 := (unhide HU1).cell 1
    simp at u1
    go_wp2_with (go_at_call 27; refine (c_took b s _ 45 45 rfl T _ (unhide HB1) hs (by decide)).mono ?_)
    rintro e w2 ⟨rfl, hb2, ho2⟩
    rw [unhide HTS] at hb2
    rw [unhide HT]
    have hu2 := (unhide HU1).only ho2 (by simp; omega)
    have HO2 := hide ((unhide HO1).trans ho2)
    have HB2 := hide hb2
    clear u1
    have u1 := hu2.cell 1
    simp at u1
    clear hb2 ho2 hu2 HU1 HB1 HO1
    go_wp2_with (go_at_call 29; refine (c_number2 b s (.ok (k + 1)) va hi va hi rfl rfl T _ (unhide HB2) hs ((unhide HE).only (unhide HO2) (by simpa using hg1) (by simpa using hg2)) hg1 hg2 (by omega) (by omega)).mono ?_)
    rintro e w3 ⟨vb, rfl, hb3, ho3, hv3, hl4, hl5, hl6⟩
    have hvb : vb ≤ 59 := by omega
    have HO3 := hide ((unhide HO2).trans ho3)
    have HB3 := hide hb3
    have HV3 := hide hv3
    clear hb3 ho3 hv3 u1 HB2 HO2
    go_wp2_with (go_at_call 33; refine (c_step b s _ T _ (unhide HB3) hs ((unhide HE).only (unhide HO3) (by simpa using hg1) (by simpa using hg2)) hg1 hg2).mono ?_)
    rintro e w4 ⟨vn, rfl, hb4, ho4, hv4, hn1, hn2⟩
    have HO4 := hide ((unhide HO3).trans ho4)
    have HB4 := hide hb4
    have HV4 := hide hv4
    clear hb4 ho4 hv4
    go_wp2_with (go_at_call 32; refine (code_eachOf va vb vn _ _ _ rfl rfl rfl _ (by omega) (by omega) (by omega) (by omega)).mono ?_; rintro e w5 ⟨rfl, rfl⟩)
    go_ret
    have hfin : posOf ((posOf ((Except.ok (k + 1) : Except Nat Nat).bind (pNum s va hi))).bind (pStep s)) = posOf ((Except.ok j : Except Nat Nat).bind (pItem s lo hi)) ∧ ∀ x, (Except.ok j : Except Nat Nat).bind (pItem s lo hi) = .ok x → (va, vb, vn) = x.2 := by
      have hq3 := unhide HV3
      have hq4 := unhide HV4
      have e1 : (Except.ok (k + 1) : Except Nat Nat).bind (pNum s va hi) = pNum s va hi (k + 1) := rfl
      have e2 : (Except.ok j : Except Nat Nat).bind (pItem s lo hi) = pItem s lo hi j := rfl
      rw [e1] at hq3 hq4 ⊢
      rw [e2]
      unfold pItem
      rw [unhide HP1]
      simp only [Except.bind]
      rw [if_pos (unhide HBY)]
      cases h2 : pNum s va hi (k + 1) with
      | error q => exact ⟨rfl, fun x hx => by cases hx⟩
      | ok y =>
        have e3 := hq3 y h2
        rw [h2] at hq4
        simp only [posOf, Except.bind] at hq4 ⊢
        cases h3 : pStep s y.1 with
        | error q => exact ⟨rfl, fun x hx => by cases hx⟩
        | ok z =>
          have e4 := hq4 z h3
          subst e3 e4
          exact ⟨rfl, fun x hx => by cases hx; rfl⟩
    refine ⟨va, vb, vn, rfl, ?_, unhide HO4, hfin.2⟩
    rw [← hfin.1]
    exact unhide HB4
  · have hts := tookS_false ht
    have hfin : posOf (σ.bind (pNum s lo hi)) = posOf (σ.bind (pItem s lo hi)) ∧ ∀ x, σ.bind (pItem s lo hi) = .ok x → (va, va, 1) = x.2 := by
      cases σ with
      | error p => exact ⟨rfl, fun x hx => by cases hx⟩
      | ok j =>
        have hq := unhide HV1
        show posOf (pNum s lo hi j) = posOf (pItem s lo hi j) ∧ ∀ x, pItem s lo hi j = .ok x → (va, va, 1) = x.2
        unfold pItem
        cases hc : pNum s lo hi j with
        | error q => exact ⟨rfl, fun x hx => by cases hx⟩
        | ok x =>
          have ht' : tookB s 45 (posOf (pNum s lo hi j)) = false := ht
          rw [hc] at ht'
          have hne : byteAt s x.1 ≠ 45 := by simpa [tookB, posOf, Except.bind] using ht'
          simp only [Except.bind]
          rw [if_neg hne]
          have hx := hq x hc
          subst hx
          exact ⟨rfl, fun y hy => by cases hy; rfl⟩
    have HT := hide ht
    have HTS := hide hts
    have HF := hide hfin
    clear ht hts hfin HV1
    go_wp2_with (go_at_call 27; refine (c_took b s _ 45 45 rfl T _ (unhide HB1) hs (by decide)).mono ?_)
    rintro e w2 ⟨rfl, hb2, ho2⟩
    rw [unhide HTS] at hb2
    rw [unhide HT]
    have HB2 := hide hb2
    have HO2 := hide ((unhide HO1).trans ho2)
    clear hb2 ho2 HB1 HO1
    go_wp2_with (go_at_call 32; refine (code_eachOf va va 1 _ _ _ rfl rfl rfl _ (by omega) (by omega) (by omega) (by omega)).mono ?_; rintro e w5 ⟨rfl, rfl⟩)
    go_ret
    exact ⟨va, va, 1, rfl, by rw [← (unhide HF).1]; exact unhide HB2, unhide HO2, (unhide HF).2⟩
end Go.Proofs.YtnnhnihgeheahaaDoor
