/- The program's scanner: number. -/
import Derived.Test.YtnnhnihgeheahaaDoorCodeC
set_option linter.unusedSimpArgs false
set_option linter.unusedVariables false
namespace Go.Proofs.YtnnhnihgeheahaaDoor
open Go.RowKit

/-- What 'number' says. -/
def NumSaid (b : Nat) (T : TypeId) (s : ByteArray) (σ : Except Nat Nat) (lo hi : Nat) (w : World) (e : Ending) (w' : World) : Prop :=
  ∃ v : Nat, e = .returned (.int .i64 v) ∧ HoldsC w' b T s (posOf (σ.bind (pNum s lo hi))) ∧ Only [b] w w' ∧ (∀ x, σ.bind (pNum s lo hi) = .ok x → v = x.2) ∧ v ≤ 1000000

/-- And its bounds: after a fault it is the least one. -/
def NumSaid2 (b : Nat) (T : TypeId) (s : ByteArray) (σ : Except Nat Nat) (lo hi : Nat) (w : World) (e : Ending) (w' : World) : Prop :=
  ∃ v : Nat, e = .returned (.int .i64 v) ∧ HoldsC w' b T s (posOf (σ.bind (pNum s lo hi))) ∧ Only [b] w w' ∧ (∀ x, σ.bind (pNum s lo hi) = .ok x → v = x.2) ∧ v ≤ 1000000 ∧ lo ≤ v ∧ v ≤ max lo hi

set_option maxHeartbeats 1000000 in
theorem c_number2 (b : Nat) (s : ByteArray) (σ : Except Nat Nat) (lo hi : Nat) (lo' hi' : Int) (e1 : lo' = lo) (e2 : hi' = hi) (T : TypeId) (w : World) (hb : HoldsC w b T s σ) (hs : s.size ≤ 281474976710656)
    (hE : Errs w) (hg1 : 1 ≠ b) (hg2 : 2 ≠ b) (hlo : lo ≤ 1000000) (hhi : hi ≤ 1000000) :
    Calls Tryd.prog 29 #[.pointer (some ⟨b, 0, none⟩), .int .i64 lo', .int .i64 hi'] w (NumSaid2 b T s σ lo hi w) := by
  subst e1 e2
  obtain ⟨i, bad, a, hi', hblk, hok, herr⟩ := hb.place
  have h1 := hblk.cell 1
  simp [rdr] at h1
  have HK := hide hblk
  have HOK := hide hok
  have HER := hide herr
  have HE := hide hE
  -- how many digits are taken
  obtain ⟨kk, hkk⟩ : ∃ kk, kk = if bad then 0 else (digs s i).length := ⟨_, rfl⟩
  have HKK := hide hkk
  clear hb hblk hok herr hE hkk
  go_enter Tryd.func29, Tryd.ntmps29
  go_wp2
  go_loopw [] (fun wr => ∃ k j : Nat, Hid (k ≤ kk ∧ j = i + k ∧ j ≤ s.size ∧ Blk wr b (rdr s j bad a) T ∧ Only [b] w wr)) (fun wr => s.size + 1 - posIn wr b)
  case atStart => exact ⟨0, i, ⟨Nat.zero_le _, rfl, hi', unhide HK, Only.refl _ _⟩⟩
  case round =>
    obtain ⟨k, j, HR⟩ := hrel
    obtain ⟨hk, hj, hjs, hB, hO⟩ := unhide HR
    have h0 := hB.cell 0
    have h1' := hB.cell 1
    have hf := hB.frozen
    simp [rdr] at h0 h1'
    have HB := hide hB
    have HO := hide hO
    have hdg : (!bad && isDig (byteAt s j)) = decide (k < kk) := by
      rw [unhide HKK] at hk ⊢
      cases bad
      · simp only [Bool.not_false, Bool.true_and]
        have := (digs_at (s := s) k (i := i) (by simpa using hk)).1
        rw [← hj] at this
        rw [Bool.eq_iff_iff]
        simpa using this
      · simp
    have HD := hide hdg
    have hji : i ≤ j := by omega
    by_cases hlt : k < kk
    · have hd : decide (k < kk) = true := by simpa using hlt
      have hjlt : j < s.size := by
        rw [hd] at hdg
        obtain ⟨_, h2⟩ : bad = false ∧ isDig (byteAt s j) = true := by simpa using hdg
        rcases Nat.lt_or_ge j s.size with h | h
        · exact h
        · rw [byteAt_out h, isDig_zero] at h2; cases h2
      have HJ := hide hj
      clear hdg hd hj hB hO h1
      go_wp2_with (go_at_call 36; refine (c_atDigit b s j bad a T _ ?_ hs hjs).mono ?_; · exact unhide HB)
      rintro e w1 ⟨rfl, n, rfl⟩
      rw [unhide HD, decide_eq_true hlt]
      go_wp2
      go_roundw
      case rel =>
        refine ⟨k + 1, j + 1, ⟨hlt, by rw [unhide HJ]; omega, hjlt, ?_, ?_⟩⟩
        · simpa [rdr] using ((unhide HB).drewN n).set 1 (.int .i64 ((j : Int) + 1))
        · exact ((unhide HO).drewN n).setCell (by simp) _
      case measure =>
        have := ((unhide HB).drewN n).set 1 (.int .i64 ((j : Int) + 1))
        have this : Blk ((wr.drewN n).setCell ⟨b, 1, none⟩ (.int .i64 ((j : Int) + 1))) b (rdr s (j + 1) bad a) T := by simpa [rdr] using this
        rw [posIn_of this, posIn_of (unhide HB)]
        omega
    · have hd : decide (k < kk) = false := by simpa using hlt
      have hkk : k = kk := by omega
      have HJ := hide hj
      have HKE := hide hkk
      clear hdg hd hj hB hO h1 hkk
      go_wp2_with (go_at_call 36; refine (c_atDigit b s j bad a T _ ?_ hs hjs).mono ?_; · exact unhide HB)
      rintro e w1 ⟨rfl, n, rfl⟩
      rw [unhide HD, decide_eq_false hlt]
      go_wp2
      go_quiet (fail)
      go_wp2_with fail
      have hfacts := run_facts s i j kk bad (by rw [unhide HJ, unhide HKE]) hjs (unhide HKK)
      obtain ⟨r1, r2, r3, r4, r5⟩ := hfacts
      obtain ⟨at1, at2⟩ := atoi_digits (s.extract i j).data.toList r2
      have hls : ∀ r : ByteArray, r.size = kk → (r.data.toList ≠ [] ↔ 0 < kk) := by
        intro r hr
        have : r.data.toList.length = r.size := by simp
        rw [← List.length_pos_iff, this, hr]
      have hl := hls _ r1
      -- what must be shown at the end
      have hfail : (bad = true ∨ digs s i = [] ∨ (1 < (digs s i).length ∧ byteAt s i = 48) ∨ val (digs s i) < lo ∨ hi < val (digs s i)) → ∀ w', Blk w' b (failedC s j bad a i) T →
          HoldsC w' b T s (posOf (σ.bind (pNum s lo hi))) ∧ (∀ x, σ.bind (pNum s lo hi) = .ok x → lo = x.2) := by
        intro hc w' hk
        cases σ with
        | error p =>
          obtain ⟨rfl, rfl⟩ := unhide HER p rfl
          exact ⟨⟨j, hjs, by simpa [failedC] using hk⟩, fun x hx => by cases hx⟩
        | ok i0 =>
          obtain ⟨rfl, rfl⟩ := unhide HOK i0 rfl
          have hp : pNum s lo hi i = .error i := by
            unfold pNum
            rw [if_pos]
            rcases hc with h | h
            · cases h
            · exact h
          simp only [Except.bind, hp, posOf]
          exact ⟨⟨j, hjs, by simpa [failedC] using hk⟩, fun x hx => by cases hx⟩
      have hgood : bad = false → digs s i ≠ [] → ¬ ((1 < (digs s i).length ∧ byteAt s i = 48) ∨ val (digs s i) < lo ∨ hi < val (digs s i)) → kk = (digs s i).length → ∀ w', Blk w' b (rdr s j bad a) T →
          HoldsC w' b T s (posOf (σ.bind (pNum s lo hi))) ∧ (∀ x, σ.bind (pNum s lo hi) = .ok x → val (digs s i) = x.2) := by
        intro hbad hne hc hkl w' hk
        cases σ with
        | error p => have := (unhide HER p rfl).1; rw [hbad] at this; cases this
        | ok i0 =>
          obtain ⟨rfl, rfl⟩ := unhide HOK i0 rfl
          have hp : pNum s lo hi i = .ok (j, val (digs s i)) := by
            unfold pNum
            rw [if_neg, unhide HJ, unhide HKE, hkl]
            rintro (h | h)
            · exact hne h
            · exact hc h
          simp only [Except.bind, hp, posOf]
          exact ⟨⟨hjs, a, hk⟩, fun x hx => by cases hx; rfl⟩
      have H1 := hide r1
      have H3 := hide r3
      have H4 := hide r4
      have H5 := hide r5
      have A1 := hide at1
      have A2 := hide at2
      have HL := hide hl
      have HF := hide hfail
      have HG := hide hgood
      have hEw : Errs (wr.drewN (n + nq)) := (((unhide HE).only (unhide HO) (by simp; omega) (by simp; omega)).drewN (n + nq))
      have HEW := hide hEw
      have hrs : (s.extract i j).size ≤ 281474976710656 := by rw [r1]; have := unhide HJ; have := unhide HKE; omega
      have hbk : Blk (wr.drewN (n + nq)) b (rdr s j bad a) T := (unhide HB).drewN _
      have HBK := hide hbk
      have HOK' := hide ((unhide HO).drewN (n + nq))
      clear r1 r2 r3 r4 r5 at1 at2 hls hl hfail hgood hEw hbk h0 h1' hf HO HB HR HD HE HK
      revert hrs H1 H3 H4 A1 A2 HL
      generalize s.extract i j = r
      intro H1 H3 H4 A1 A2 HL hrs
      refine (c_atoi r _ hrs (unhide HEW)).mono ?_
      rintro e w2 ⟨hbel, v, ev, rfl, hcase⟩
      have hb2 : Blk w2 b (rdr s j bad a) T := (unhide HBK).below hbel (unhide HBK).lt
      have ho2 : Only [b] w w2 := (unhide HOK').trans (Only.of_below _ hbel)
      have HB2 := hide hb2
      have HO2 := hide ho2
      clear hb2 ho2 hbel HEW HBK HOK'
      rcases hcase with ⟨rfl, hv⟩ | ⟨T', N, rfl, hv⟩
      · have hval := unhide A2 v hv
        have hk0 : 0 < kk := (unhide HL).1 hval.1
        obtain ⟨hbad, hkl, hby⟩ := unhide H4 hk0
        have hvv : v = (val (digs s i) : Nat) := by rw [hval.2, unhide H3 hbad]
        have hne : digs s i ≠ [] := fun h => by rw [h] at hkl; simp at hkl; omega
        have hr0 : 0 < r.size := by rw [unhide H1]; exact hk0
        have hby' : r[0].toNat = byteAt s i := by rw [← byteAt_in hr0]; exact hby
        obtain ⟨vv, hvn⟩ : ∃ vv : Nat, vv = val (digs s i) := ⟨_, rfl⟩
        rw [← hvn] at hvv
        subst hvv
        have HVN := hide hvn
        have HBY := hide hby'
        have HBAD := hide hbad
        have HKL := hide hkl
        have HNE := hide hne
        have hrk : (r.size : Int) = kk := by rw [unhide H1]
        have HRK := hide hrk
        have hff : (1 < r.size ∧ r[0].toNat = 48) ∨ vv < lo ∨ hi < vv → (bad = true ∨ digs s i = [] ∨ (1 < (digs s i).length ∧ byteAt s i = 48) ∨ val (digs s i) < lo ∨ hi < val (digs s i)) := by
          rw [hby', unhide H1, hkl, ← hvn]
          exact fun h => .inr (.inr h)
        have hgg : ¬ ((1 < r.size ∧ r[0].toNat = 48) ∨ vv < lo ∨ hi < vv) → ¬ ((1 < (digs s i).length ∧ byteAt s i = 48) ∨ val (digs s i) < lo ∨ hi < val (digs s i)) := by
          rw [hby', unhide H1, hkl, ← hvn]
          exact id
        have HFF := hide hff
        have HGG := hide hgg
        clear hval hbad hkl hby hne hvn hby' hv hrk hff hgg
        go_wp2_with fail
        all_goals first
          | (go_at_call 31
             go_must (
              refine (c_fail b s j bad a i i rfl T _ (unhide HB2)).mono ?_
              rintro e w3 ⟨rfl, hb3, ho3⟩
              go_wp2
              go_ret
              have := unhide HF (unhide HFF (by first | omega | (simp only [beq_iff_eq] at *; omega))) _ hb3
              exact ⟨lo, rfl, this.1, (unhide HO2).trans ho3, this.2, by omega, Nat.le_refl _, Nat.le_max_left _ _⟩))
          | (go_ret
             have hng : ¬ ((1 < r.size ∧ r[0].toNat = 48) ∨ vv < lo ∨ hi < vv) := by first | omega | (simp only [beq_iff_eq, beq_eq_false_iff_ne] at *; omega)
             have := unhide HG (unhide HBAD) (unhide HNE) (unhide HGG hng) (unhide HKL) _ (unhide HB2)
             exact ⟨vv, rfl, this.1, unhide HO2, fun x hx => (by rw [unhide HVN]; exact this.2 x hx), by omega, by omega, by omega⟩)
      · have hc : bad = true ∨ digs s i = [] ∨ (1 < (digs s i).length ∧ byteAt s i = 48) ∨ val (digs s i) < lo ∨ hi < val (digs s i) := by
          by_cases hk0 : kk = 0
          · rcases unhide H5 hk0 with h | h
            · exact .inl h
            · exact .inr (.inl h)
          · obtain ⟨hbad, hkl, hby⟩ := unhide H4 (by omega)
            refine .inr (.inr (.inr (.inr ?_)))
            rcases Nat.lt_or_ge (val (digs s i)) 9223372036854775808 with h | h
            · exact absurd (unhide A1 ((unhide HL).2 (by omega)) (by rw [unhide H3 hbad]; exact h)) (hv _)
            · omega
        have HC := hide hc
        clear hc hv
        go_wp2_with fail
        refine (c_fail b s j bad a i i rfl T _ (unhide HB2)).mono ?_
        rintro e w3 ⟨rfl, hb3, ho3⟩
        go_wp2
        go_ret
        have := unhide HF (unhide HC) _ hb3
        exact ⟨lo, rfl, this.1, (unhide HO2).trans ho3, this.2, by omega, Nat.le_refl _, Nat.le_max_left _ _⟩

theorem c_number (b : Nat) (s : ByteArray) (σ : Except Nat Nat) (lo hi : Nat) (lo' hi' : Int) (e1 : lo' = lo) (e2 : hi' = hi) (T : TypeId) (w : World) (hb : HoldsC w b T s σ) (hs : s.size ≤ 281474976710656)
    (hE : Errs w) (hg1 : 1 ≠ b) (hg2 : 2 ≠ b) (hlo : lo ≤ 1000000) (hhi : hi ≤ 1000000) :
    Calls Tryd.prog 29 #[.pointer (some ⟨b, 0, none⟩), .int .i64 lo', .int .i64 hi'] w (NumSaid b T s σ lo hi w) := by
  refine (c_number2 b s σ lo hi lo' hi' e1 e2 T w hb hs hE hg1 hg2 hlo hhi).mono ?_
  rintro e w' ⟨v, h1, h2, h3, h4, h5, _⟩
  exact ⟨v, h1, h2, h3, h4, h5⟩
end Go.Proofs.YtnnhnihgeheahaaDoor
