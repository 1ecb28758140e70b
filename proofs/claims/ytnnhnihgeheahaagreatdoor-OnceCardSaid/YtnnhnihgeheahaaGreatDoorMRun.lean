/- RunA, RunB, RunC, in one text. -/
import Derived.Test.YtnnhnihgeheahaaGreatDoorMPl
import Derived.Test.YtnnhnihgeheahaaGreatDoorClkA
import Derived.Deep.LoopGhost
import Derived.Test.YtnnhnihgeheahaaGreatDoorRdA
/- The program's clock and plan: nextIn. -/
set_option linter.unusedSimpArgs false
set_option linter.unusedVariables false
namespace Go.Proofs.YtnnhnihgeheahaaGreatDoor
open Go.RowKit

set_option maxHeartbeats 1000000 in
theorem code_ssummer (a b ah : Int) (w : World) : Calls Tryz.prog 101 #[.agg #[.int .i64 a, .int .i64 b, .int .i64 ah]] w fun e w' => e = .returned (.bool (decide (0 < ah))) ∧ Only [] w w' := by
  go_enter Tryz.func101, Tryz.ntmps101
  go_wp2
  go_ret
  exact ⟨rfl, (Only.refl [] w).alloc _⟩

/-- What 'nextIn' and 'nextRun' say, of the standard clock's minutes. -/
def InSaid (z : Zon) (F : Fld) (f t : Int) (w : World) (e : Ending) (w' : World) : Prop :=
  (∃ (x : Int) (ok : Bool), e = .returned (.tuple #[.int .i64 x, .bool ok]) ∧ -200000000 ≤ x ∧ x ≤ 200000000 ∧ Cal.First (Cal.Runs z F) f t x ok) ∧ Only [] w w'

set_option maxRecDepth 4000 in
set_option maxHeartbeats 4000000 in
theorem code_nextIn (z : Zon) (F : Fld) (hz : Cal.Fine z) (hF : F.Good) (s a b ah f t : Int) (su : Bool) (hS : Cal.Str z s a b su) (hah : ah = if su then (z.shift : Int) else 0) (w : World) (hM : Months w) (hB : Bruijn w)
    (hf : a ≤ f) (hft : f < t) (htb : t ≤ b) (hf1 : -840 ≤ f) (ht2 : t ≤ 70000841) (ha : -6000000 ≤ a) (hb : b ≤ 1000000000) :
    Calls Tryz.prog 74 #[zonV z, .agg #[.int .i64 a, .int .i64 b, .int .i64 ah], planV F, .int .i64 f, .int .i64 t] w (InSaid z F f t w) := by
  have hsh := hz.good.shift
  obtain ⟨N0, hN0⟩ : ∃ N, N = Cal.nb F.m.2 := ⟨_, rfl⟩
  obtain ⟨N1, hN1⟩ : ∃ N, N = Cal.nb F.h.2 := ⟨_, rfl⟩
  obtain ⟨N2, hN2⟩ : ∃ N, N = Cal.nb F.d.2 := ⟨_, rfl⟩
  obtain ⟨N3, hN3⟩ : ∃ N, N = Cal.nb F.n.2 := ⟨_, rfl⟩
  obtain ⟨N4, hN4⟩ : ∃ N, N = Cal.nb F.w.2 := ⟨_, rfl⟩
  obtain ⟨s0, hs0⟩ : ∃ s, s = F.m.1 := ⟨_, rfl⟩
  obtain ⟨s1, hs1⟩ : ∃ s, s = F.h.1 := ⟨_, rfl⟩
  obtain ⟨s2, hs2⟩ : ∃ s, s = F.d.1 := ⟨_, rfl⟩
  obtain ⟨s3, hs3⟩ : ∃ s, s = F.n.1 := ⟨_, rfl⟩
  obtain ⟨s4, hs4⟩ : ∃ s, s = F.w.1 := ⟨_, rfl⟩
  have hpv : planV F = .agg (plA N0 N1 N2 N3 N4 s0 s1 s2 s3 s4) := by rw [hN0, hN1, hN2, hN3, hN4, hs0, hs1, hs2, hs3, hs4]; rfl
  obtain ⟨st, hst⟩ : ∃ st, st = Cal.isSet F := ⟨_, rfl⟩
  have hset : ∀ (w' : World), Calls Tryz.prog 100 #[.agg (plA N0 N1 N2 N3 N4 s0 s1 s2 s3 s4)] w' fun e w'' => e = .returned (.bool st) ∧ Only [] w' w'' := by
    intro w'
    have h := code_set F w'
    rw [hpv, ← hst] at h
    exact h
  have hnext : ∀ (x y x' y' : Int) (w' : World), x' = x → y' = y → -3000000 ≤ x → x ≤ 80000000 → -3000000 ≤ y → y ≤ 80000000 → Months w' → Bruijn w' → Calls Tryz.prog 102 #[.agg (plA N0 N1 N2 N3 N4 s0 s1 s2 s3 s4), .int .i64 x', .int .i64 y'] w' (NextSaid F x y w') := by
    intro x y x' y' w' e1 e2 h1 h2 h3 h4 h5 h6
    subst e1 e2
    have h := code_next F hF _ _ w' h5 h6 h1 h2 h3 h4
    rw [hpv] at h
    exact h
  have hsu : su = true → z.shift ≠ 0 := by
    intro h h0
    have := hS.same s hS.lo hS.hi
    rw [h] at this
    unfold Cal.summer at this
    rw [if_pos h0] at this
    cases this
  have hplain := fun x ok => Cal.in_plain hz hS F (f := f) (t := t) (x := x) (ah := ah) (ok := ok) hf htb hah
  obtain ⟨sh, hshe⟩ : ∃ sh, sh = z.shift := ⟨_, rfl⟩
  have hbegin : st = true → su = true → f = a → ∀ x y ok, Cal.First (fun c => Cal.fits F c = true) f (f + sh) y false → Cal.First (fun c => Cal.fits F c = true) (f + ah) (t + ah) x ok → Cal.First (Cal.Runs z F) f t (x - ah) ok := by
    intro h1 h2 h3 x y ok hn hx
    subst h2 h3
    have e : ah = (z.shift : Int) := by rw [hah]; rfl
    rw [e] at hx ⊢
    rw [hshe] at hn
    exact Cal.in_begin hz hS (by rw [← hst]; exact h1) htb hn hx
  have hskip : st = true → su = true → f = a → ∀ y, Cal.First (fun c => Cal.fits F c = true) f (f + sh) y true → Cal.First (Cal.Runs z F) f t f true := by
    intro h1 h2 h3 y hn
    subst h2 h3
    rw [hshe] at hn
    exact Cal.in_skipped hz hS (by rw [← hst]; exact h1) hft hn
  have hend : st = true → su = false → ∀ x m ok, (m = if f ≤ a + sh then a + (sh : Int) else f) → Cal.First (fun c => Cal.fits F c = true) m t x ok → Cal.First (Cal.Runs z F) f t x ok := by
    intro h1 h2 x m ok hm hx
    subst h2
    rw [hshe] at hm
    exact Cal.in_end hz hS (by rw [← hst]; exact h1) hf htb hm hx
  have hsu2 : su = true → sh ≠ 0 := by rw [hshe]; exact hsu
  rw [← hshe] at hah hsh hplain
  rw [hpv]
  have HSET := hide hset
  have HNX := hide hnext
  have HPL := hide hplain
  have HBG := hide hbegin
  have HSK := hide hskip
  have HEN := hide hend
  have HST := hide hst
  have HM := hide hM
  have HB := hide hB
  clear hN0 hN1 hN2 hN3 hN4 hs0 hs1 hs2 hs3 hs4 hpv hset hnext hsu hplain hbegin hskip hend hst hM hB hz hF hS
  obtain ⟨off, sh', ⟨m1, k1, d1, q1⟩, ⟨m2, k2, d2, q2⟩⟩ := z
  simp only at hshe
  subst hshe
  unfold zonV
  obtain ⟨w0, hw0⟩ : ∃ w0, w0 = ((w.alloc (.cells (zonA off sh m1 k1 d1 q1 m2 k2 d2 q2) 79)).alloc (.cells #[.int .i64 a, .int .i64 b, .int .i64 ah] 135)).alloc (.cells (plA N0 N1 N2 N3 N4 s0 s1 s2 s3 s4) 102) := ⟨_, rfl⟩
  have hC0 : Blk w0 w.heap.size (zonA off sh m1 k1 d1 q1 m2 k2 d2 q2) 79 := by rw [hw0]; exact ((Blk.new _ _ _).alloc _).alloc _
  have hS0 : Blk w0 (w.heap.size + 1) #[.int .i64 a, .int .i64 b, .int .i64 ah] 135 := by
    have h := Blk.new (w.alloc (.cells (zonA off sh m1 k1 d1 q1 m2 k2 d2 q2) 79)) #[.int .i64 a, .int .i64 b, .int .i64 ah] 135
    simp only [World.size_alloc] at h
    rw [hw0]; exact h.alloc _
  have hP0 : Blk w0 (w.heap.size + 1 + 1) (plA N0 N1 N2 N3 N4 s0 s1 s2 s3 s4) 102 := by
    have h := Blk.new ((w.alloc (.cells (zonA off sh m1 k1 d1 q1 m2 k2 d2 q2) 79)).alloc (.cells #[.int .i64 a, .int .i64 b, .int .i64 ah] 135)) (plA N0 N1 N2 N3 N4 s0 s1 s2 s3 s4) 102
    simp only [World.size_alloc] at h
    rw [hw0]; exact h
  have hO0 : Only [] w w0 := by rw [hw0]; exact (((Only.refl [] w).alloc _).alloc _).alloc _
  have HC0 := hide hC0
  have HS0 := hide hS0
  have HP0 := hide hP0
  have HO0 := hide hO0
  have HC := hide hC0
  have HS := hide hS0
  have HP := hide hP0
  have HO := hide hO0
  clear hC0 hS0 hP0 hO0 HC0 HS0 HP0 HO0
  unfold zonA plA at hw0
  unfold plA
  unfold plA at HSET HNX
  have hcase : (su = true ∧ ah = (sh : Int) ∧ 1 ≤ sh) ∨ (su = false ∧ ah = 0) := by
    cases su with
    | true => exact .inl ⟨rfl, by rw [hah]; rfl, by have := hsu2 rfl; omega⟩
    | false => exact .inr ⟨rfl, by rw [hah]; rfl⟩
  clear hah hsu2
  cases st
  · have hahb : 0 ≤ ah ∧ ah ≤ 120 := by omega
    clear hcase
    go_enter Tryz.func74, Tryz.ntmps74
    go_wp2_with (first
      | (go_at_call 100
         try rw [← hw0]
         refine (unhide HSET _).mono ?_
         rintro e w1 ⟨rfl, ho⟩
         try clear hw0
         have hC := (unhide HC).only ho (by simp)
         have hS := (unhide HS).only ho (by simp)
         have hP := (unhide HP).only ho (by simp)
         have hO := (unhide HO).trans ho
         clear HC HS HP HO ho
         have HC := hide hC
         have HS := hide hS
         have HP := hide hP
         have HO := hide hO
         try clear c1 t0 t1 t2 u0 u1 u2 u3 u4 u5 u6 u7 u8 u9
         have c1 := hC.cell 1
         have t0 := hS.cell 0
         have t1 := hS.cell 1
         have t2 := hS.cell 2
         have u0 := hP.cell 0
         have u1 := hP.cell 1
         have u2 := hP.cell 2
         have u3 := hP.cell 3
         have u4 := hP.cell 4
         have u5 := hP.cell 5
         have u6 := hP.cell 6
         have u7 := hP.cell 7
         have u8 := hP.cell 8
         have u9 := hP.cell 9
         simp [zonA] at c1
         simp at t0 t1 t2
         simp [plA] at u0 u1 u2 u3 u4 u5 u6 u7 u8 u9
         clear hC hS hP hO)
      | (go_at_call 102
         refine (unhide HNX (f + ah) (t + ah) _ _ _ (by omega) (by omega) (by omega) (by omega) (by omega) (by omega) ((unhide HM).only (unhide HO) (by simp)) ((unhide HB).only (unhide HO) (by simp))).mono ?_
         rintro e w1 ⟨⟨x, ok, rfl, hx1, hx2, hx⟩, ho⟩
         have HX := hide hx
         clear hx
         have hC := (unhide HC).only ho (by simp)
         have hS := (unhide HS).only ho (by simp)
         have hP := (unhide HP).only ho (by simp)
         have hO := (unhide HO).trans ho
         clear HC HS HP HO ho
         have HC := hide hC
         have HS := hide hS
         have HP := hide hP
         have HO := hide hO
         try clear c1 t0 t1 t2 u0 u1 u2 u3 u4 u5 u6 u7 u8 u9
         have c1 := hC.cell 1
         have t0 := hS.cell 0
         have t1 := hS.cell 1
         have t2 := hS.cell 2
         have u0 := hP.cell 0
         have u1 := hP.cell 1
         have u2 := hP.cell 2
         have u3 := hP.cell 3
         have u4 := hP.cell 4
         have u5 := hP.cell 5
         have u6 := hP.cell 6
         have u7 := hP.cell 7
         have u8 := hP.cell 8
         have u9 := hP.cell 9
         simp [zonA] at c1
         simp at t0 t1 t2
         simp [plA] at u0 u1 u2 u3 u4 u5 u6 u7 u8 u9
         clear hC hS hP hO))
    go_ret2
    exact ⟨⟨x - ah, ok, ret_ib (by omega) rfl, by omega, by omega, unhide HPL x ok (.inl (unhide HST).symm) (unhide HX)⟩, unhide HO⟩
  · rcases hcase with ⟨rfl, rfl, hsh1⟩ | ⟨rfl, rfl⟩
    · have HD : Hid (decide ((0 : Int) < (sh : Int)) = true) := by simp only [Hid, decide_eq_true_eq]; omega
      by_cases hfa : f = a
      · have hfi : (f == a) = true := by rw [beq_iff_eq]; exact hfa
        have HFA := hide hfa
        clear hfa
        go_enter Tryz.func74, Tryz.ntmps74
        go_wp2_with (first
          | (go_at_call 100
             try rw [← hw0]
             refine (unhide HSET _).mono ?_
             rintro e w1 ⟨rfl, ho⟩
             try clear hw0
             have hC := (unhide HC).only ho (by simp)
             have hS := (unhide HS).only ho (by simp)
             have hP := (unhide HP).only ho (by simp)
             have hO := (unhide HO).trans ho
             clear HC HS HP HO ho
             have HC := hide hC
             have HS := hide hS
             have HP := hide hP
             have HO := hide hO
             try clear c1 t0 t1 t2 u0 u1 u2 u3 u4 u5 u6 u7 u8 u9
             have c1 := hC.cell 1
             have t0 := hS.cell 0
             have t1 := hS.cell 1
             have t2 := hS.cell 2
             have u0 := hP.cell 0
             have u1 := hP.cell 1
             have u2 := hP.cell 2
             have u3 := hP.cell 3
             have u4 := hP.cell 4
             have u5 := hP.cell 5
             have u6 := hP.cell 6
             have u7 := hP.cell 7
             have u8 := hP.cell 8
             have u9 := hP.cell 9
             simp [zonA] at c1
             simp at t0 t1 t2
             simp [plA] at u0 u1 u2 u3 u4 u5 u6 u7 u8 u9
             clear hC hS hP hO)
          | (go_at_call 101
             refine (code_ssummer a b _ _).mono ?_
             rintro e w1 ⟨rfl, ho⟩
             rw [unhide HD]
             have hC := (unhide HC).only ho (by simp)
             have hS := (unhide HS).only ho (by simp)
             have hP := (unhide HP).only ho (by simp)
             have hO := (unhide HO).trans ho
             clear HC HS HP HO ho
             have HC := hide hC
             have HS := hide hS
             have HP := hide hP
             have HO := hide hO
             try clear c1 t0 t1 t2 u0 u1 u2 u3 u4 u5 u6 u7 u8 u9
             have c1 := hC.cell 1
             have t0 := hS.cell 0
             have t1 := hS.cell 1
             have t2 := hS.cell 2
             have u0 := hP.cell 0
             have u1 := hP.cell 1
             have u2 := hP.cell 2
             have u3 := hP.cell 3
             have u4 := hP.cell 4
             have u5 := hP.cell 5
             have u6 := hP.cell 6
             have u7 := hP.cell 7
             have u8 := hP.cell 8
             have u9 := hP.cell 9
             simp [zonA] at c1
             simp at t0 t1 t2
             simp [plA] at u0 u1 u2 u3 u4 u5 u6 u7 u8 u9
             clear hC hS hP hO)
          | (go_at_call 102
             refine (unhide HNX f (f + sh) _ _ _ (by omega) (by omega) (by omega) (by omega) (by omega) (by omega) ((unhide HM).only (unhide HO) (by simp)) ((unhide HB).only (unhide HO) (by simp))).mono ?_
             rintro e w1 ⟨⟨y, oks, rfl, hy1, hy2, hy⟩, ho⟩
             have HY := hide hy
             clear hy
             have hC := (unhide HC).only ho (by simp)
             have hS := (unhide HS).only ho (by simp)
             have hP := (unhide HP).only ho (by simp)
             have hO := (unhide HO).trans ho
             clear HC HS HP HO ho
             have HC := hide hC
             have HS := hide hS
             have HP := hide hP
             have HO := hide hO
             try clear c1 t0 t1 t2 u0 u1 u2 u3 u4 u5 u6 u7 u8 u9
             have c1 := hC.cell 1
             have t0 := hS.cell 0
             have t1 := hS.cell 1
             have t2 := hS.cell 2
             have u0 := hP.cell 0
             have u1 := hP.cell 1
             have u2 := hP.cell 2
             have u3 := hP.cell 3
             have u4 := hP.cell 4
             have u5 := hP.cell 5
             have u6 := hP.cell 6
             have u7 := hP.cell 7
             have u8 := hP.cell 8
             have u9 := hP.cell 9
             simp [zonA] at c1
             simp at t0 t1 t2
             simp [plA] at u0 u1 u2 u3 u4 u5 u6 u7 u8 u9
             clear hC hS hP hO
             cases oks)
          | (go_at_call 102
             refine (unhide HNX (f + sh) (t + sh) _ _ _ (by omega) (by omega) (by omega) (by omega) (by omega) (by omega) ((unhide HM).only (unhide HO) (by simp)) ((unhide HB).only (unhide HO) (by simp))).mono ?_
             rintro e w1 ⟨⟨x, ok, rfl, hx1, hx2, hx⟩, ho⟩
             have HX := hide hx
             clear hx
             have hC := (unhide HC).only ho (by simp)
             have hS := (unhide HS).only ho (by simp)
             have hP := (unhide HP).only ho (by simp)
             have hO := (unhide HO).trans ho
             clear HC HS HP HO ho
             have HC := hide hC
             have HS := hide hS
             have HP := hide hP
             have HO := hide hO
             try clear c1 t0 t1 t2 u0 u1 u2 u3 u4 u5 u6 u7 u8 u9
             have c1 := hC.cell 1
             have t0 := hS.cell 0
             have t1 := hS.cell 1
             have t2 := hS.cell 2
             have u0 := hP.cell 0
             have u1 := hP.cell 1
             have u2 := hP.cell 2
             have u3 := hP.cell 3
             have u4 := hP.cell 4
             have u5 := hP.cell 5
             have u6 := hP.cell 6
             have u7 := hP.cell 7
             have u8 := hP.cell 8
             have u9 := hP.cell 9
             simp [zonA] at c1
             simp at t0 t1 t2
             simp [plA] at u0 u1 u2 u3 u4 u5 u6 u7 u8 u9
             clear hC hS hP hO))
        all_goals
          go_ret2
          first
            | exact ⟨⟨x - sh, ok, ret_ib (by omega) rfl, by omega, by omega, unhide HBG (by simp) (by simp) (unhide HFA) x y ok (unhide HY) (unhide HX)⟩, unhide HO⟩
            | exact ⟨⟨f, true, rfl, by omega, by omega, unhide HSK (by simp) (by simp) (unhide HFA) y (unhide HY)⟩, unhide HO⟩
      · have hfi : (f == a) = false := by rw [beq_eq_false_iff_ne]; exact hfa
        go_enter Tryz.func74, Tryz.ntmps74
        go_wp2_with (first
          | (go_at_call 100
             try rw [← hw0]
             refine (unhide HSET _).mono ?_
             rintro e w1 ⟨rfl, ho⟩
             try clear hw0
             have hC := (unhide HC).only ho (by simp)
             have hS := (unhide HS).only ho (by simp)
             have hP := (unhide HP).only ho (by simp)
             have hO := (unhide HO).trans ho
             clear HC HS HP HO ho
             have HC := hide hC
             have HS := hide hS
             have HP := hide hP
             have HO := hide hO
             try clear c1 t0 t1 t2 u0 u1 u2 u3 u4 u5 u6 u7 u8 u9
             have c1 := hC.cell 1
             have t0 := hS.cell 0
             have t1 := hS.cell 1
             have t2 := hS.cell 2
             have u0 := hP.cell 0
             have u1 := hP.cell 1
             have u2 := hP.cell 2
             have u3 := hP.cell 3
             have u4 := hP.cell 4
             have u5 := hP.cell 5
             have u6 := hP.cell 6
             have u7 := hP.cell 7
             have u8 := hP.cell 8
             have u9 := hP.cell 9
             simp [zonA] at c1
             simp at t0 t1 t2
             simp [plA] at u0 u1 u2 u3 u4 u5 u6 u7 u8 u9
             clear hC hS hP hO)
          | (go_at_call 101
             refine (code_ssummer a b _ _).mono ?_
             rintro e w1 ⟨rfl, ho⟩
             rw [unhide HD]
             have hC := (unhide HC).only ho (by simp)
             have hS := (unhide HS).only ho (by simp)
             have hP := (unhide HP).only ho (by simp)
             have hO := (unhide HO).trans ho
             clear HC HS HP HO ho
             have HC := hide hC
             have HS := hide hS
             have HP := hide hP
             have HO := hide hO
             try clear c1 t0 t1 t2 u0 u1 u2 u3 u4 u5 u6 u7 u8 u9
             have c1 := hC.cell 1
             have t0 := hS.cell 0
             have t1 := hS.cell 1
             have t2 := hS.cell 2
             have u0 := hP.cell 0
             have u1 := hP.cell 1
             have u2 := hP.cell 2
             have u3 := hP.cell 3
             have u4 := hP.cell 4
             have u5 := hP.cell 5
             have u6 := hP.cell 6
             have u7 := hP.cell 7
             have u8 := hP.cell 8
             have u9 := hP.cell 9
             simp [zonA] at c1
             simp at t0 t1 t2
             simp [plA] at u0 u1 u2 u3 u4 u5 u6 u7 u8 u9
             clear hC hS hP hO)
          | (go_at_call 102
             refine (unhide HNX (f + sh) (t + sh) _ _ _ (by omega) (by omega) (by omega) (by omega) (by omega) (by omega) ((unhide HM).only (unhide HO) (by simp)) ((unhide HB).only (unhide HO) (by simp))).mono ?_
             rintro e w1 ⟨⟨x, ok, rfl, hx1, hx2, hx⟩, ho⟩
             have HX := hide hx
             clear hx
             have hC := (unhide HC).only ho (by simp)
             have hS := (unhide HS).only ho (by simp)
             have hP := (unhide HP).only ho (by simp)
             have hO := (unhide HO).trans ho
             clear HC HS HP HO ho
             have HC := hide hC
             have HS := hide hS
             have HP := hide hP
             have HO := hide hO
             try clear c1 t0 t1 t2 u0 u1 u2 u3 u4 u5 u6 u7 u8 u9
             have c1 := hC.cell 1
             have t0 := hS.cell 0
             have t1 := hS.cell 1
             have t2 := hS.cell 2
             have u0 := hP.cell 0
             have u1 := hP.cell 1
             have u2 := hP.cell 2
             have u3 := hP.cell 3
             have u4 := hP.cell 4
             have u5 := hP.cell 5
             have u6 := hP.cell 6
             have u7 := hP.cell 7
             have u8 := hP.cell 8
             have u9 := hP.cell 9
             simp [zonA] at c1
             simp at t0 t1 t2
             simp [plA] at u0 u1 u2 u3 u4 u5 u6 u7 u8 u9
             clear hC hS hP hO))
        go_ret2
        exact ⟨⟨x - sh, ok, ret_ib (by omega) rfl, by omega, by omega, unhide HPL x ok (.inr (.inl ⟨by simp, by omega⟩)) (unhide HX)⟩, unhide HO⟩
    · have HD : Hid (decide ((0 : Int) < 0) = false) := rfl
      obtain ⟨m, hm⟩ : ∃ m : Int, m = if f ≤ a + sh then a + (sh : Int) else f := ⟨_, rfl⟩
      have hmb : f ≤ m ∧ m ≤ f + 120 := by rw [hm]; split <;> omega
      have hmm : (f ≤ a + sh ∧ m = a + sh) ∨ (a + sh < f ∧ m = f) := by
        by_cases h : f ≤ a + (sh : Int)
        · rw [if_pos h] at hm; exact .inl ⟨h, hm⟩
        · rw [if_neg h] at hm; exact .inr ⟨by omega, hm⟩
      have HMM := hide hm
      clear hm
      rcases hmm with ⟨h1, h2⟩ | ⟨h1, h2⟩
      all_goals
        have HM2 := hide h2
        clear h2
        go_enter Tryz.func74, Tryz.ntmps74
        go_wp2_with (first
          | (go_at_call 100
             try rw [← hw0]
             refine (unhide HSET _).mono ?_
             rintro e w1 ⟨rfl, ho⟩
             try clear hw0
             have hC := (unhide HC).only ho (by simp)
             have hS := (unhide HS).only ho (by simp)
             have hP := (unhide HP).only ho (by simp)
             have hO := (unhide HO).trans ho
             clear HC HS HP HO ho
             have HC := hide hC
             have HS := hide hS
             have HP := hide hP
             have HO := hide hO
             try clear c1 t0 t1 t2 u0 u1 u2 u3 u4 u5 u6 u7 u8 u9
             have c1 := hC.cell 1
             have t0 := hS.cell 0
             have t1 := hS.cell 1
             have t2 := hS.cell 2
             have u0 := hP.cell 0
             have u1 := hP.cell 1
             have u2 := hP.cell 2
             have u3 := hP.cell 3
             have u4 := hP.cell 4
             have u5 := hP.cell 5
             have u6 := hP.cell 6
             have u7 := hP.cell 7
             have u8 := hP.cell 8
             have u9 := hP.cell 9
             simp [zonA] at c1
             simp at t0 t1 t2
             simp [plA] at u0 u1 u2 u3 u4 u5 u6 u7 u8 u9
             clear hC hS hP hO)
          | (go_at_call 101
             refine (code_ssummer a b _ _).mono ?_
             rintro e w1 ⟨rfl, ho⟩
             rw [unhide HD]
             have hC := (unhide HC).only ho (by simp)
             have hS := (unhide HS).only ho (by simp)
             have hP := (unhide HP).only ho (by simp)
             have hO := (unhide HO).trans ho
             clear HC HS HP HO ho
             have HC := hide hC
             have HS := hide hS
             have HP := hide hP
             have HO := hide hO
             try clear c1 t0 t1 t2 u0 u1 u2 u3 u4 u5 u6 u7 u8 u9
             have c1 := hC.cell 1
             have t0 := hS.cell 0
             have t1 := hS.cell 1
             have t2 := hS.cell 2
             have u0 := hP.cell 0
             have u1 := hP.cell 1
             have u2 := hP.cell 2
             have u3 := hP.cell 3
             have u4 := hP.cell 4
             have u5 := hP.cell 5
             have u6 := hP.cell 6
             have u7 := hP.cell 7
             have u8 := hP.cell 8
             have u9 := hP.cell 9
             simp [zonA] at c1
             simp at t0 t1 t2
             simp [plA] at u0 u1 u2 u3 u4 u5 u6 u7 u8 u9
             clear hC hS hP hO)
          | (go_at_call 102
             refine (unhide HNX m t _ _ _ (by have := unhide HM2; omega) (by omega) (by omega) (by omega) (by omega) (by omega) ((unhide HM).only (unhide HO) (by simp)) ((unhide HB).only (unhide HO) (by simp))).mono ?_
             rintro e w1 ⟨⟨x, ok, rfl, hx1, hx2, hx⟩, ho⟩
             have HX := hide hx
             clear hx
             have hC := (unhide HC).only ho (by simp)
             have hS := (unhide HS).only ho (by simp)
             have hP := (unhide HP).only ho (by simp)
             have hO := (unhide HO).trans ho
             clear HC HS HP HO ho
             have HC := hide hC
             have HS := hide hS
             have HP := hide hP
             have HO := hide hO
             try clear c1 t0 t1 t2 u0 u1 u2 u3 u4 u5 u6 u7 u8 u9
             have c1 := hC.cell 1
             have t0 := hS.cell 0
             have t1 := hS.cell 1
             have t2 := hS.cell 2
             have u0 := hP.cell 0
             have u1 := hP.cell 1
             have u2 := hP.cell 2
             have u3 := hP.cell 3
             have u4 := hP.cell 4
             have u5 := hP.cell 5
             have u6 := hP.cell 6
             have u7 := hP.cell 7
             have u8 := hP.cell 8
             have u9 := hP.cell 9
             simp [zonA] at c1
             simp at t0 t1 t2
             simp [plA] at u0 u1 u2 u3 u4 u5 u6 u7 u8 u9
             clear hC hS hP hO))
        all_goals
          go_ret2
          exact ⟨⟨x, ok, ret_ib (by omega) rfl, by omega, by omega, unhide HEN (by simp) (by simp) x m ok (unhide HMM) (unhide HX)⟩, unhide HO⟩
end Go.Proofs.YtnnhnihgeheahaaGreatDoor

/- The program's clock and plan: nextRun. -/
set_option linter.unusedSimpArgs false
set_option linter.unusedVariables false
namespace Go.Proofs.YtnnhnihgeheahaaGreatDoor
open Go.RowKit

/-- What 'nextRun' says. -/
def RunSaid (z : Zon) (F : Fld) (f t : Int) (w : World) (e : Ending) (w' : World) : Prop :=
  (∃ (x : Int) (ok : Bool), e = .returned (.tuple #[.int .i64 x, .bool ok]) ∧ (ok = false → x = 0) ∧ Cal.First (fun m => Cal.Runs z F (m + z.offset)) f t x ok) ∧ Only [] w w'

theorem run_none {z : Zon} {F : Fld} {f t u : Int} (h : ∀ v, f + z.offset ≤ v → v < u → v < t + z.offset → ¬ Cal.Runs z F v) (hu : t + z.offset ≤ u) : Cal.First (fun m => Cal.Runs z F (m + z.offset)) f t 0 false :=
  Cal.First.of_none fun v h1 h2 => h (v + z.offset) (by omega) (by omega) (by omega)
theorem run_found {z : Zon} {F : Fld} {f t u mn x : Int} (h : ∀ v, f + z.offset ≤ v → v < u → v < t + z.offset → ¬ Cal.Runs z F v) (hu : f + z.offset ≤ u) (hm : mn ≤ t + z.offset) (hx : Cal.First (Cal.Runs z F) u mn x true) :
    Cal.First (fun m => Cal.Runs z F (m + z.offset)) f t (x - z.offset) true := by
  obtain ⟨h1, h2, h3, h4⟩ := hx.1 rfl
  refine ⟨fun _ => ⟨by omega, by omega, by simp only; rw [show x - z.offset + z.offset = x by omega]; exact h3, fun v g1 g2 => ?_⟩, fun e => by cases e⟩
  by_cases hv : v + z.offset < u
  · exact h _ (by omega) hv (by omega)
  · exact h4 _ (by omega) (by omega)
theorem run_on {z : Zon} {F : Fld} {f t u b mn x : Int} (h : ∀ v, f + z.offset ≤ v → v < u → v < t + z.offset → ¬ Cal.Runs z F v) (hm : (t + z.offset ≤ b ∧ mn = t + z.offset) ∨ (b ≤ t + z.offset ∧ mn = b)) (hx : Cal.First (Cal.Runs z F) u mn x false) :
    ∀ v, f + z.offset ≤ v → v < b → v < t + z.offset → ¬ Cal.Runs z F v := by
  intro v g1 g2 g3
  by_cases hv : v < u
  · exact h v g1 hv g3
  · exact hx.none v (by omega) (by omega)

set_option maxRecDepth 4000 in
set_option maxHeartbeats 4000000 in
theorem code_nextRun (z : Zon) (F : Fld) (hz : Cal.Fine z) (hF : F.Good) (f t : Int) (w : World) (hM : Months w) (hB : Bruijn w) (hf : 0 ≤ f) (hft : f ≤ t) (ht : t ≤ 70000001) :
    Calls Tryz.prog 49 #[zonV z, planV F, .int .i64 f, .int .i64 t] w (RunSaid z F f t w) := by
  have hoff := hz.good.offset
  obtain ⟨N0, hN0⟩ : ∃ N, N = Cal.nb F.m.2 := ⟨_, rfl⟩
  obtain ⟨N1, hN1⟩ : ∃ N, N = Cal.nb F.h.2 := ⟨_, rfl⟩
  obtain ⟨N2, hN2⟩ : ∃ N, N = Cal.nb F.d.2 := ⟨_, rfl⟩
  obtain ⟨N3, hN3⟩ : ∃ N, N = Cal.nb F.n.2 := ⟨_, rfl⟩
  obtain ⟨N4, hN4⟩ : ∃ N, N = Cal.nb F.w.2 := ⟨_, rfl⟩
  obtain ⟨s0, hs0⟩ : ∃ s, s = F.m.1 := ⟨_, rfl⟩
  obtain ⟨s1, hs1⟩ : ∃ s, s = F.h.1 := ⟨_, rfl⟩
  obtain ⟨s2, hs2⟩ : ∃ s, s = F.d.1 := ⟨_, rfl⟩
  obtain ⟨s3, hs3⟩ : ∃ s, s = F.n.1 := ⟨_, rfl⟩
  obtain ⟨s4, hs4⟩ : ∃ s, s = F.w.1 := ⟨_, rfl⟩
  have hpv : planV F = .agg (plA N0 N1 N2 N3 N4 s0 s1 s2 s3 s4) := by rw [hN0, hN1, hN2, hN3, hN4, hs0, hs1, hs2, hs3, hs4]; rfl
  have hnone := fun u => run_none (z := z) (F := F) (f := f) (t := t) (u := u)
  have hfound := fun u mn x => run_found (z := z) (F := F) (f := f) (t := t) (u := u) (mn := mn) (x := x)
  have hon := fun u b mn x => run_on (z := z) (F := F) (f := f) (t := t) (u := u) (b := b) (mn := mn) (x := x)
  obtain ⟨off, sh, ⟨m1, k1, d1, q1⟩, ⟨m2, k2, d2, q2⟩⟩ := z
  have hzv : zonV ⟨off, sh, ⟨m1, k1, d1, q1⟩, ⟨m2, k2, d2, q2⟩⟩ = .agg (zonA off sh m1 k1 d1 q1 m2 k2 d2 q2) := rfl
  obtain ⟨zz, hzz⟩ : ∃ zz : Zon, zz = ⟨off, sh, ⟨m1, k1, d1, q1⟩, ⟨m2, k2, d2, q2⟩⟩ := ⟨_, rfl⟩
  rw [← hzz] at hz hzv hnone hfound hon
  rw [← hzz]
  have hzo : zz.offset = off := by rw [hzz]
  rw [hzo] at hnone hfound hon
  have hst : ∀ (s : Int) (w' : World), Months w' → -840 ≤ s → s ≤ 70000840 → Calls Tryz.prog 67 #[.agg (zonA off sh m1 k1 d1 q1 m2 k2 d2 q2), .int .i64 s] w' (StretchSaid zz s w') := by
    intro s w' h1 h2 h3
    have h := code_stretchAt zz s w' h1 hz h2 h3
    rw [hzv] at h
    exact h
  have hin : ∀ (s a b ah u mn mn' : Int) (su : Bool) (w' : World), Cal.Str zz s a b su → (ah = if su then (zz.shift : Int) else 0) → Months w' → Bruijn w' → mn' = mn → a ≤ u → u < mn → mn ≤ b → -840 ≤ u → mn ≤ 70000841 → -6000000 ≤ a → b ≤ 1000000000 →
      Calls Tryz.prog 74 #[.agg (zonA off sh m1 k1 d1 q1 m2 k2 d2 q2), .agg #[.int .i64 a, .int .i64 b, .int .i64 ah], .agg (plA N0 N1 N2 N3 N4 s0 s1 s2 s3 s4), .int .i64 u, .int .i64 mn'] w' (InSaid zz F u mn w') := by
    intro s a b ah u mn mn' su w' g1 g2 g3 g4 g5 g6 g7 g8 g9 g10 g11 g12
    subst g5
    have h := code_nextIn zz F hz hF s a b ah u mn' su g1 g2 w' g3 g4 g6 g7 g8 g9 g10 g11 g12
    rw [hzv, hpv] at h
    exact h
  rw [hzv, hpv]
  have HST := hide hst
  have HIN := hide hin
  have HNO := hide hnone
  have HFO := hide hfound
  have HON := hide hon
  have HM := hide hM
  have HB := hide hB
  have HZO := hide hzo
  clear hN0 hN1 hN2 hN3 hN4 hs0 hs1 hs2 hs3 hs4 hpv hnone hfound hon hst hin hM hB hz hF hzz hzv hzo
  simp only at hoff
  obtain ⟨w0, hw0⟩ : ∃ w0, w0 = (w.alloc (.cells (zonA off sh m1 k1 d1 q1 m2 k2 d2 q2) 79)).alloc (.cells (plA N0 N1 N2 N3 N4 s0 s1 s2 s3 s4) 102) := ⟨_, rfl⟩
  have hC0 : Blk w0 w.heap.size (zonA off sh m1 k1 d1 q1 m2 k2 d2 q2) 79 := by rw [hw0]; exact (Blk.new _ _ _).alloc _
  have hP0 : Blk w0 (w.heap.size + 1) (plA N0 N1 N2 N3 N4 s0 s1 s2 s3 s4) 102 := by
    have h := Blk.new (w.alloc (.cells (zonA off sh m1 k1 d1 q1 m2 k2 d2 q2) 79)) (plA N0 N1 N2 N3 N4 s0 s1 s2 s3 s4) 102
    simp only [World.size_alloc] at h
    rw [hw0]; exact h
  have hO0 : Only [] w w0 := by rw [hw0]; exact ((Only.refl [] w).alloc _).alloc _
  have HC := hide hC0
  have HP := hide hP0
  have HO := hide hO0
  clear hC0 hP0 hO0
  unfold zonA plA at hw0
  unfold zonA plA
  unfold zonA at HST
  unfold zonA plA at HIN
  obtain ⟨fo, hfo⟩ : ∃ fo, fo = f + off := ⟨_, rfl⟩
  obtain ⟨to, hto⟩ : ∃ to, to = t + off := ⟨_, rfl⟩
  have hfb : -840 ≤ fo ∧ fo ≤ to ∧ to ≤ 70000841 := by omega
  rw [← hfo, ← hto] at HNO HFO HON
  go_enter Tryz.func49, Tryz.ntmps49
  go_wp2
  go_quiet (fail)
  go_wp2_with fail
  rw [← hw0, ← hfo, ← hto]
  obtain ⟨bc, hbc⟩ : ∃ bc, bc = w.heap.size := ⟨_, rfl⟩
  obtain ⟨bp, hbp⟩ : ∃ bp, bp = bc + 1 := ⟨_, rfl⟩
  rw [← hbc] at HC HP
  rw [← hbp] at HP
  rw [← hbc, ← hbp]
  have HFO1 := hide hfo
  clear hw0 hbc hbp hfo hto
  go_loopg [10] 1001000000 (fun g x wr => Hid (Blk wr bc (zonA off sh m1 k1 d1 q1 m2 k2 d2 q2) 79 ∧ Blk wr bp (plA N0 N1 N2 N3 N4 s0 s1 s2 s3 s4) 102 ∧ Only [] w wr) ∧ ∃ u : Int, x = .int .i64 u ∧ fo ≤ u ∧ u ≤ 1000000000 ∧ Hid (1000001000 ≤ u + g) ∧ Hid (∀ v, fo ≤ v → v < u → v < to → ¬ Cal.Runs zz F v))
  case atStart => exact ⟨⟨(unhide HC).drewN _, (unhide HP).drewN _, (unhide HO).drewN _⟩, fo, rfl, by omega, by omega, by simp only [Hid]; omega, fun v h1 h2 => by omega⟩
  case round =>
    obtain ⟨HX, u, rfl, hu1, hu2, HG, HR⟩ := hrel
    obtain ⟨hC, hP, hO⟩ := unhide HX
    have HCr := hide hC
    have HPr := hide hP
    have HOr := hide hO
    have HMr := hide ((unhide HM).only hO (by simp))
    have HBr := hide ((unhide HB).only hO (by simp))
    have v0 := hC.cell 0
    have v1 := hC.cell 1
    have v2 := hC.cell 2
    have v3 := hC.cell 3
    have v4 := hC.cell 4
    have v5 := hC.cell 5
    have v6 := hC.cell 6
    have v7 := hC.cell 7
    have v8 := hC.cell 8
    have v9 := hC.cell 9
    have u0 := hP.cell 0
    have u1 := hP.cell 1
    have u2 := hP.cell 2
    have u3 := hP.cell 3
    have u4 := hP.cell 4
    have u5 := hP.cell 5
    have u6 := hP.cell 6
    have u7 := hP.cell 7
    have u8 := hP.cell 8
    have u9 := hP.cell 9
    simp [zonA] at v0 v1 v2 v3 v4 v5 v6 v7 v8 v9
    simp [plA] at u0 u1 u2 u3 u4 u5 u6 u7 u8 u9
    clear hC hP hO HX HC HP HO
    by_cases hlt : u < to
    · go_wp2_with (first
        | (go_at_call 67
           refine (unhide HST u _ (unhide HMr) (by omega) (by omega)).mono ?_
           rintro e w1 ⟨⟨a, b, ah, su, rfl, hS, hah, ha, hb⟩, ho1⟩
           have hSlo := hS.lo
           have hShi := hS.hi
           obtain ⟨mn, hmn⟩ : ∃ mn, mn = if to ≤ b then to else b := ⟨_, rfl⟩
           have hmn2 : (to ≤ b ∧ mn = to) ∨ (b ≤ to ∧ mn = b) := by
             by_cases h : to ≤ b
             · rw [if_pos h] at hmn; exact .inl ⟨h, hmn⟩
             · rw [if_neg h] at hmn; exact .inr ⟨by omega, hmn⟩
           have hmnb : u < mn ∧ mn ≤ b ∧ mn ≤ to := by omega
           have HMN := hide hmn2
           have HS := hide hS
           have HAH := hide hah
           have hC1 := (unhide HCr).only ho1 (by simp)
           have hP1 := (unhide HPr).only ho1 (by simp)
           have hO1 := (unhide HOr).trans ho1
           have hM1 := (unhide HMr).only ho1 (by simp)
           have hB1 := (unhide HBr).only ho1 (by simp)
           have HC1 := hide (fun o => hC1.alloc o)
           have HP1 := hide (fun o => hP1.alloc o)
           have HO1 := hide (fun o => hO1.alloc o)
           have HM1 := hide (fun o => hM1.alloc o)
           have HB1 := hide (fun o => hB1.alloc o)
           have HS1 := hide (Blk.new w1 #[.int .i64 a, .int .i64 b, .int .i64 ah] 135)
           clear v0 v1 v2 v3 v4 v5 v6 v7 v8 v9 u0 u1 u2 u3 u4 u5 u6 u7 u8 u9
           have v0 : ∀ o, (w1.alloc o).cell? ⟨bc, 0, none⟩ = some (.int .i64 off) := fun o => (hC1.alloc o).cell 0
           have v1 : ∀ o, (w1.alloc o).cell? ⟨bc, 1, none⟩ = some (.int .i64 (sh : Int)) := fun o => (hC1.alloc o).cell 1
           have v2 : ∀ o, (w1.alloc o).cell? ⟨bc, 2, none⟩ = some (.int .i64 (m1 : Int)) := fun o => (hC1.alloc o).cell 2
           have v3 : ∀ o, (w1.alloc o).cell? ⟨bc, 3, none⟩ = some (.int .i64 (k1 : Int)) := fun o => (hC1.alloc o).cell 3
           have v4 : ∀ o, (w1.alloc o).cell? ⟨bc, 4, none⟩ = some (.int .i64 (d1 : Int)) := fun o => (hC1.alloc o).cell 4
           have v5 : ∀ o, (w1.alloc o).cell? ⟨bc, 5, none⟩ = some (.int .i64 (q1 : Int)) := fun o => (hC1.alloc o).cell 5
           have v6 : ∀ o, (w1.alloc o).cell? ⟨bc, 6, none⟩ = some (.int .i64 (m2 : Int)) := fun o => (hC1.alloc o).cell 6
           have v7 : ∀ o, (w1.alloc o).cell? ⟨bc, 7, none⟩ = some (.int .i64 (k2 : Int)) := fun o => (hC1.alloc o).cell 7
           have v8 : ∀ o, (w1.alloc o).cell? ⟨bc, 8, none⟩ = some (.int .i64 (d2 : Int)) := fun o => (hC1.alloc o).cell 8
           have v9 : ∀ o, (w1.alloc o).cell? ⟨bc, 9, none⟩ = some (.int .i64 (q2 : Int)) := fun o => (hC1.alloc o).cell 9
           have u0 : ∀ o, (w1.alloc o).cell? ⟨bp, 0, none⟩ = some (.int .u64 (N0 : Int)) := fun o => (hP1.alloc o).cell 0
           have u1 : ∀ o, (w1.alloc o).cell? ⟨bp, 1, none⟩ = some (.bool s0) := fun o => (hP1.alloc o).cell 1
           have u2 : ∀ o, (w1.alloc o).cell? ⟨bp, 2, none⟩ = some (.int .u64 (N1 : Int)) := fun o => (hP1.alloc o).cell 2
           have u3 : ∀ o, (w1.alloc o).cell? ⟨bp, 3, none⟩ = some (.bool s1) := fun o => (hP1.alloc o).cell 3
           have u4 : ∀ o, (w1.alloc o).cell? ⟨bp, 4, none⟩ = some (.int .u64 (N2 : Int)) := fun o => (hP1.alloc o).cell 4
           have u5 : ∀ o, (w1.alloc o).cell? ⟨bp, 5, none⟩ = some (.bool s2) := fun o => (hP1.alloc o).cell 5
           have u6 : ∀ o, (w1.alloc o).cell? ⟨bp, 6, none⟩ = some (.int .u64 (N3 : Int)) := fun o => (hP1.alloc o).cell 6
           have u7 : ∀ o, (w1.alloc o).cell? ⟨bp, 7, none⟩ = some (.bool s3) := fun o => (hP1.alloc o).cell 7
           have u8 : ∀ o, (w1.alloc o).cell? ⟨bp, 8, none⟩ = some (.int .u64 (N4 : Int)) := fun o => (hP1.alloc o).cell 8
           have u9 : ∀ o, (w1.alloc o).cell? ⟨bp, 9, none⟩ = some (.bool s4) := fun o => (hP1.alloc o).cell 9
           clear hmn hmn2 hS hah hC1 hP1 hO1 hM1 hB1 ho1 HCr HPr HOr HMr HBr)
        | (go_at_call 74
           refine (unhide HIN u a b ah u mn _ su _ (unhide HS) (unhide HAH) (unhide HM1 _) (unhide HB1 _) (by have := unhide HMN; omega) (by omega) (by omega) (by omega) (by omega) (by omega) (by omega) (by omega)).mono ?_
           rintro e w2 ⟨⟨x, ok, rfl, hx1, hx2, hx⟩, ho2⟩
           have HXX := hide hx
           have hC2 := (unhide HC1 _).only ho2 (by simp)
           have hP2 := (unhide HP1 _).only ho2 (by simp)
           have hO2 := (unhide HO1 _).trans ho2
           have hS2 := (unhide HS1).only ho2 (by simp)
           have HC2 := hide hC2
           have HP2 := hide hP2
           have HO2 := hide hO2
           have r0 := hS2.cell 0
           have r1 := hS2.cell 1
           have r2 := hS2.cell 2
           simp at r0 r1 r2
           clear v0 v1 v2 v3 v4 v5 v6 v7 v8 v9 u0 u1 u2 u3 u4 u5 u6 u7 u8 u9
           have v0 := hC2.cell 0
           have v1 := hC2.cell 1
           have v2 := hC2.cell 2
           have v3 := hC2.cell 3
           have v4 := hC2.cell 4
           have v5 := hC2.cell 5
           have v6 := hC2.cell 6
           have v7 := hC2.cell 7
           have v8 := hC2.cell 8
           have v9 := hC2.cell 9
           have u0 := hP2.cell 0
           have u1 := hP2.cell 1
           have u2 := hP2.cell 2
           have u3 := hP2.cell 3
           have u4 := hP2.cell 4
           have u5 := hP2.cell 5
           have u6 := hP2.cell 6
           have u7 := hP2.cell 7
           have u8 := hP2.cell 8
           have u9 := hP2.cell 9
           simp [zonA] at v0 v1 v2 v3 v4 v5 v6 v7 v8 v9
           simp [plA] at u0 u1 u2 u3 u4 u5 u6 u7 u8 u9
           clear hx hC2 hP2 hO2 hS2 ho2 HC1 HP1 HO1 HM1 HB1 HS1
           cases ok))
      · go_roundg (gk - 1)
        case rel =>
          refine ⟨⟨unhide HC2, unhide HP2, unhide HO2⟩, b, rfl, by omega, hb, ?_, unhide HON u b mn x (unhide HR) (unhide HMN) (unhide HXX)⟩
          have := unhide HG
          simp only [Hid]
          omega
        case measure => have := unhide HG; omega
      · go_ret2
        exact ⟨⟨x - off, true, rfl, fun h => (by cases h), by rw [unhide HZO]; exact unhide HFO u mn x (unhide HR) hu1 (by omega) (unhide HXX)⟩, unhide HO2⟩
    · go_wp2
      go_ret2
      exact ⟨⟨0, false, rfl, fun _ => rfl, by rw [unhide HZO]; exact unhide HNO u (unhide HR) (by omega)⟩, unhide HOr⟩
end Go.Proofs.YtnnhnihgeheahaaGreatDoor

/- The program's Runs and Next. -/
set_option linter.unusedSimpArgs false
set_option linter.unusedVariables false
namespace Go.Proofs.YtnnhnihgeheahaaGreatDoor
open Go.RowKit

set_option maxHeartbeats 400000 in
theorem code_inRange (m : Int) (w : World) : Calls Tryz.prog 35 #[.int .i64 m] w fun e w' => e = .returned (.bool (decide (0 ≤ m) && decide (m ≤ 70000000))) ∧ w' = w := by
  by_cases h1 : 0 ≤ m <;> by_cases h2 : m ≤ 70000000
  all_goals
    go_enter Tryz.func35, Tryz.ntmps35
    go_wp2
    go_ret
    exact ⟨ret_bool (by simp [h1, h2]), rfl⟩

/-- What fields that are read keep to. -/
theorem pStep_ge {s : ByteArray} {i : Nat} {x : Nat × Nat} (h : pStep s i = .ok x) : 1 ≤ x.2 := by
  unfold pStep at h
  split at h
  · exact (pNum_ok h).2.1
  · cases h; exact Nat.le_refl _
theorem bind_ok' {α β : Type} {x : Except Nat α} {f : α → Except Nat β} {b : β} (h : x.bind f = .ok b) : ∃ a, x = .ok a ∧ f a = .ok b := by
  cases x with
  | error q => cases h
  | ok a => exact ⟨a, rfl, h⟩
theorem pItem_vals {s : ByteArray} {lo hi i : Nat} {x : Nat × (Nat × Nat × Nat)} (h : pItem s lo hi i = .ok x) : lo ≤ x.2.1 ∧ x.2.1 ≤ x.2.2.1 ∧ x.2.2.1 ≤ hi ∧ 1 ≤ x.2.2.2 := by
  unfold pItem at h
  obtain ⟨y, hy, h⟩ := bind_ok' h
  have g := pNum_ok hy
  split at h
  · obtain ⟨v, hv, h⟩ := bind_ok' h
    obtain ⟨u, hu, h⟩ := bind_ok' h
    have g2 := pNum_ok hv
    have g3 := pStep_ge hu
    cases h
    exact ⟨g.2.1, g2.2.1, g2.2.2.1, g3⟩
  · cases h
    exact ⟨g.2.1, Nat.le_refl _, g.2.2.1, Nat.le_refl _⟩
/-- A set within bounds, and not empty. -/
def Within (lo hi : Nat) (h : Nat → Bool) : Prop := (∀ k, h k = true → lo ≤ k ∧ k ≤ hi) ∧ ∃ k, h k = true
theorem fill_within {lo hi a b n : Nat} {h : Nat → Bool} (hh : ∀ k, h k = true → lo ≤ k ∧ k ≤ hi) (h1 : lo ≤ a) (h2 : a ≤ b) (h3 : b ≤ hi) (h4 : 1 ≤ n) (h5 : hi < 60) : Within lo hi (fillB h a b n) := by
  refine ⟨fun k hk => ?_, a, ?_⟩
  · unfold fillB at hk
    simp only [Bool.or_eq_true, Bool.and_eq_true, decide_eq_true_eq] at hk
    rcases hk with hk | hk
    · exact hh k hk
    · omega
  · unfold fillB
    simp
    omega
theorem pItems_within {s : ByteArray} {lo hi : Nat} (h5 : hi < 60) : ∀ (f i : Nat) (h : Nat → Bool) (x : Nat × (Nat → Bool)), (∀ k, h k = true → lo ≤ k ∧ k ≤ hi) → pItems s lo hi f i h = .ok x → Within lo hi x.2 := by
  intro f
  induction f with
  | zero => intro i h x _ hx; cases hx
  | succ f ih =>
    intro i h x hh hx
    unfold pItems at hx
    obtain ⟨t, ht, hx⟩ := bind_ok' hx
    have g := pItem_vals ht
    have g2 := fill_within hh g.1 g.2.1 g.2.2.1 g.2.2.2 h5
    split at hx
    · exact ih _ _ x g2.1 hx
    · cases hx; exact g2
theorem pField_within {s : ByteArray} {lo hi i : Nat} {x : Nat × (Bool × (Nat → Bool))} (h5 : hi < 60) (hlo : lo ≤ hi) (h : pField s lo hi i = .ok x) : Within lo hi x.2.2 := by
  unfold pField at h
  split at h
  · obtain ⟨z, hz, h⟩ := bind_ok' h
    cases h
    exact fill_within (fun k hk => (Bool.false_ne_true hk).elim) (Nat.le_refl _) hlo (Nat.le_refl _) (pStep_ge hz) h5
  · obtain ⟨y, hy, h⟩ := bind_ok' h
    cases h
    exact pItems_within h5 _ _ _ y (fun k hk => (Bool.false_ne_true hk).elim) hy
theorem pFields_good {s : ByteArray} {F : Fld} (h : pFields s = .ok F) : F.Good := by
  unfold pFields at h
  obtain ⟨a, ha, h⟩ := bind_ok' h
  obtain ⟨_, _, h⟩ := bind_ok' h
  obtain ⟨b, hb, h⟩ := bind_ok' h
  obtain ⟨_, _, h⟩ := bind_ok' h
  obtain ⟨c, _, h⟩ := bind_ok' h
  obtain ⟨_, _, h⟩ := bind_ok' h
  obtain ⟨d, _, h⟩ := bind_ok' h
  obtain ⟨_, _, h⟩ := bind_ok' h
  obtain ⟨e, _, h⟩ := bind_ok' h
  have g1 := pField_within (by decide) (by decide) ha
  have g2 := pField_within (by decide) (by decide) hb
  split at h
  · cases h
  · cases h
    exact ⟨fun k hk => (g1.1 k hk).2, g1.2, fun k hk => (g2.1 k hk).2⟩

/-- What Runs answers: the error; and with none whether the job runs. -/
def runN (z f : ByteArray) (m : Int) : Nat := if (checkN z f).1 ≠ 0 then (checkN z f).1 else if m < 0 ∨ 70000000 < m then 4 else 0
def RunsSaid (z f : ByteArray) (m : Int) (w : World) (e : Ending) (w' : World) : Prop :=
  Only [] w w' ∧ ∃ b : Bool, e = .returned (.tuple #[.bool b, .int .i64 (runN z f m : Nat)]) ∧ (runN z f m ≠ 0 → b = false) ∧ (runN z f m = 0 → ∃ zn F, pZone z = .ok zn ∧ pFields f = .ok F ∧ (b = true ↔ Cal.Runs zn F (m + zn.offset)))
theorem ret_bi {a b : Bool} {c d : Int} (h1 : a = b) (h2 : c = d) : Ending.returned (.tuple #[.bool a, .int .i64 c]) = .returned (.tuple #[.bool b, .int .i64 d]) := by rw [h1, h2]

theorem first_one {p : Int → Prop} {m x : Int} {ok : Bool} (h : Cal.First p m (m + 1) x ok) : ok = true ↔ p m := by
  constructor
  · intro e
    obtain ⟨h1, h2, h3, _⟩ := h.1 e
    rw [show m = x by omega]; exact h3
  · intro hp
    cases ok with
    | true => rfl
    | false => exact absurd hp (h.none m (Int.le_refl _) (by omega))

set_option maxRecDepth 4000 in
set_option maxHeartbeats 4000000 in
theorem c_Runs (z f : ByteArray) (m : Int) (w : World) (hz : z.size ≤ 281474976710656) (hf : f.size ≤ 281474976710656) (hE : Errs w) (hT : Tab w) (hM : Months w) (hB : Bruijn w) :
    Calls Tryz.prog 19 #[.string z, .string f, .int .i64 m] w (RunsSaid z f m w) := by
  have HE := hide hE
  have HT := hide hT
  have HM := hide hM
  have HB := hide hB
  clear hE hT hM hB
  obtain ⟨n0, hn0⟩ : ∃ n0, n0 = (checkN z f).1 := ⟨_, rfl⟩
  have hN : runN z f m = if n0 ≠ 0 then n0 else if m < 0 ∨ 70000000 < m then 4 else 0 := by rw [hn0]; rfl
  have HN0 := hide hn0
  have HN := hide hN
  clear hn0 hN
  by_cases h0 : n0 = 0
  · by_cases hr : 0 ≤ m ∧ m ≤ 70000000
    · obtain ⟨hr1, hr2⟩ := hr
      have hNN : runN z f m = 0 := by rw [unhide HN, if_neg (by omega), if_neg (by omega)]
      have HNN := hide hNN
      clear hNN
      go_enter Tryz.func19, Tryz.ntmps19
      go_wp2_with (first
        | (go_at_call 48
           refine (c_read2 z f _ hz hf (unhide HE) (unhide HT)).mono ?_
           rintro e w1 ⟨hbel, zn, F, n, p, rfl, hc, hok⟩
           have hn : n = 0 := by have := unhide HN0; rw [hc] at this; simp only at this; omega
           subst hn
           obtain ⟨hzn, hFn⟩ := hok rfl
           have HZN := hide hzn
           have HFN := hide hFn
           have ho := Only.of_below [] hbel
           have HO := hide (fun o o' => (ho.alloc o).alloc o')
           have hrn : ∀ (w' : World), Months w' → Bruijn w' → Calls Tryz.prog 49 #[.agg (zonC zn), .agg (planC F), .int .i64 m, .int .i64 (m + 1)] w' (RunSaid zn F m (m + 1) w') := fun w' h1 h2 => code_nextRun zn F (pZone_fine hzn) (pFields_good hFn) m (m + 1) w' h1 h2 hr1 (by omega) (by omega)
           unfold zonC planC at hrn
           have HRN := hide hrn
           unfold zonV planV planC
           clear hbel hc hok ho hzn hFn hrn)
        | (go_at_call 35
           refine (code_inRange m _).mono ?_
           rintro e w2 ⟨rfl, rfl⟩
           rw [decide_eq_true hr1, decide_eq_true hr2])
        | (go_at_call 49
           refine (unhide HRN _ ((unhide HM).only (unhide HO _ _) (by simp)) ((unhide HB).only (unhide HO _ _) (by simp))).mono ?_
           rintro e w2 ⟨⟨x, ok, rfl, hx0, hx⟩, ho2⟩
           have HX := hide hx
           have HX0 := hide hx0
           have HO2 := hide ((unhide HO _ _).trans ho2)
           clear hx hx0 ho2))
      go_ret2
      exact ⟨unhide HO2, ok, ret_bi rfl (by rw [unhide HNN]; rfl), fun h => absurd (unhide HNN) h, fun _ => ⟨zn, F, unhide HZN, unhide HFN, first_one (p := fun k => Cal.Runs zn F (k + zn.offset)) (unhide HX)⟩⟩
    · have hNN : runN z f m = 4 := by rw [unhide HN, if_neg (by omega), if_pos (by omega)]
      have HNN := hide hNN
      have HRI : Hid ((decide (0 ≤ m) && decide (m ≤ 70000000)) = false) := by
        simp only [Hid, Bool.and_eq_false_iff, decide_eq_false_iff_not]; omega
      clear hNN hr
      go_enter Tryz.func19, Tryz.ntmps19
      go_wp2_with (first
        | (go_at_call 48
           refine (c_read2 z f _ hz hf (unhide HE) (unhide HT)).mono ?_
           rintro e w1 ⟨hbel, zn, F, n, p, rfl, hc, hok⟩
           have hn : n = n0 := by have := unhide HN0; rw [hc] at this; simp only at this; omega
           subst hn
           have ho := Only.of_below [] hbel
           have HO := hide (fun o o' => (ho.alloc o).alloc o')
           unfold zonV planV planC
           clear hbel hc hok ho)
        | (go_at_call 35
           refine (code_inRange m _).mono ?_
           rintro e w2 ⟨rfl, rfl⟩
           rw [unhide HRI]))
      go_ret2
      exact ⟨unhide HO _ _, false, ret_bi rfl (by rw [unhide HNN]; rfl), fun _ => rfl, fun h => by rw [unhide HNN] at h; cases h⟩
  · have hNN : runN z f m = n0 := by rw [unhide HN, if_pos h0]
    have HNN := hide hNN
    have h0i : ((n0 : Int) != 0) = true := by rw [bne_iff_ne]; omega
    clear hNN
    go_enter Tryz.func19, Tryz.ntmps19
    go_wp2_with (first
        | (go_at_call 48
           refine (c_read2 z f _ hz hf (unhide HE) (unhide HT)).mono ?_
           rintro e w1 ⟨hbel, zn, F, n, p, rfl, hc, hok⟩
           have hn : n = n0 := by have := unhide HN0; rw [hc] at this; simp only at this; omega
           subst hn
           have ho := Only.of_below [] hbel
           have HO := hide (fun o o' => (ho.alloc o).alloc o')
           unfold zonV planV planC
           clear hbel hc hok ho))
    go_ret2
    exact ⟨unhide HO _ _, false, ret_bi rfl (by rw [unhide HNN]), fun _ => rfl, fun h => absurd ((unhide HNN).symm.trans h) h0⟩

/-- What Next answers. -/
def NextsSaid (z f : ByteArray) (m : Int) (w : World) (e : Ending) (w' : World) : Prop :=
  Only [] w w' ∧ ∃ (x : Int) (n : Nat), e = .returned (.tuple #[.int .i64 x, .int .i64 (n : Int)]) ∧ (runN z f m ≠ 0 → x = 0 ∧ n = runN z f m) ∧
    (runN z f m = 0 → ∃ zn F, pZone z = .ok zn ∧ pFields f = .ok F ∧ ((n = 0 ∧ Cal.First (fun k => Cal.Runs zn F (k + zn.offset)) m 70000001 x true) ∨ (n = 5 ∧ x = 0 ∧ Cal.First (fun k => Cal.Runs zn F (k + zn.offset)) m 70000001 0 false)))

set_option maxRecDepth 4000 in
set_option maxHeartbeats 4000000 in
theorem c_Next (z f : ByteArray) (m : Int) (w : World) (hz : z.size ≤ 281474976710656) (hf : f.size ≤ 281474976710656) (hE : Errs w) (hT : Tab w) (hM : Months w) (hB : Bruijn w) :
    Calls Tryz.prog 28 #[.string z, .string f, .int .i64 m] w (NextsSaid z f m w) := by
  have HE := hide hE
  have HT := hide hT
  have HM := hide hM
  have HB := hide hB
  clear hE hT hM hB
  obtain ⟨n0, hn0⟩ : ∃ n0, n0 = (checkN z f).1 := ⟨_, rfl⟩
  have hN : runN z f m = if n0 ≠ 0 then n0 else if m < 0 ∨ 70000000 < m then 4 else 0 := by rw [hn0]; rfl
  have HN0 := hide hn0
  have HN := hide hN
  clear hn0 hN
  by_cases h0 : n0 = 0
  · by_cases hr : 0 ≤ m ∧ m ≤ 70000000
    · obtain ⟨hr1, hr2⟩ := hr
      have hNN : runN z f m = 0 := by rw [unhide HN, if_neg (by omega), if_neg (by omega)]
      have HNN := hide hNN
      clear hNN
      go_enter Tryz.func28, Tryz.ntmps28
      go_wp2_with (first
        | (go_at_call 48
           refine (c_read2 z f _ hz hf (unhide HE) (unhide HT)).mono ?_
           rintro e w1 ⟨hbel, zn, F, n, p, rfl, hc, hok⟩
           have hn : n = 0 := by have := unhide HN0; rw [hc] at this; simp only at this; omega
           subst hn
           obtain ⟨hzn, hFn⟩ := hok rfl
           have HZN := hide hzn
           have HFN := hide hFn
           have ho := Only.of_below [] hbel
           have HO := hide (fun o o' => (ho.alloc o).alloc o')
           have hrn : ∀ (w' : World), Months w' → Bruijn w' → Calls Tryz.prog 49 #[.agg (zonC zn), .agg (planC F), .int .i64 m, .int .i64 70000001] w' (RunSaid zn F m 70000001 w') := fun w' h1 h2 => code_nextRun zn F (pZone_fine hzn) (pFields_good hFn) m 70000001 w' h1 h2 hr1 (by omega) (by omega)
           unfold zonC planC at hrn
           have HRN := hide hrn
           unfold zonV planV planC
           clear hbel hc hok ho hzn hFn hrn)
        | (go_at_call 35
           refine (code_inRange m _).mono ?_
           rintro e w2 ⟨rfl, rfl⟩
           rw [decide_eq_true hr1, decide_eq_true hr2])
        | (go_at_call 49
           refine (unhide HRN _ ((unhide HM).only (unhide HO _ _) (by simp)) ((unhide HB).only (unhide HO _ _) (by simp))).mono ?_
           rintro e w2 ⟨⟨x, ok, rfl, hx0, hx⟩, ho2⟩
           have HX := hide hx
           have HX0 := hide hx0
           have HO2 := hide ((unhide HO _ _).trans ho2)
           clear hx hx0 ho2
           cases ok))
      · go_ret2
        have hx := unhide HX
        rw [unhide HX0 (by simp)] at hx
        exact ⟨unhide HO2, 0, 5, rfl, fun h => absurd (unhide HNN) h, fun _ => ⟨zn, F, unhide HZN, unhide HFN, .inr ⟨rfl, rfl, hx⟩⟩⟩
      · go_ret2
        exact ⟨unhide HO2, x, 0, rfl, fun h => absurd (unhide HNN) h, fun _ => ⟨zn, F, unhide HZN, unhide HFN, .inl ⟨rfl, unhide HX⟩⟩⟩
    · have hNN : runN z f m = 4 := by rw [unhide HN, if_neg (by omega), if_pos (by omega)]
      have HNN := hide hNN
      have HRI : Hid ((decide (0 ≤ m) && decide (m ≤ 70000000)) = false) := by
        simp only [Hid, Bool.and_eq_false_iff, decide_eq_false_iff_not]; omega
      clear hNN hr
      go_enter Tryz.func28, Tryz.ntmps28
      go_wp2_with (first
        | (go_at_call 48
           refine (c_read2 z f _ hz hf (unhide HE) (unhide HT)).mono ?_
           rintro e w1 ⟨hbel, zn, F, n, p, rfl, hc, hok⟩
           have hn : n = n0 := by have := unhide HN0; rw [hc] at this; simp only at this; omega
           subst hn
           have ho := Only.of_below [] hbel
           have HO := hide (fun o o' => (ho.alloc o).alloc o')
           unfold zonV planV planC
           clear hbel hc hok ho)
        | (go_at_call 35
           refine (code_inRange m _).mono ?_
           rintro e w2 ⟨rfl, rfl⟩
           rw [unhide HRI]))
      go_ret2
      exact ⟨unhide HO _ _, 0, 4, rfl, fun _ => ⟨rfl, (unhide HNN).symm⟩, fun h => by rw [unhide HNN] at h; cases h⟩
  · have hNN : runN z f m = n0 := by rw [unhide HN, if_pos h0]
    have HNN := hide hNN
    have h0i : ((n0 : Int) != 0) = true := by rw [bne_iff_ne]; omega
    clear hNN
    go_enter Tryz.func28, Tryz.ntmps28
    go_wp2_with (first
        | (go_at_call 48
           refine (c_read2 z f _ hz hf (unhide HE) (unhide HT)).mono ?_
           rintro e w1 ⟨hbel, zn, F, n, p, rfl, hc, hok⟩
           have hn : n = n0 := by have := unhide HN0; rw [hc] at this; simp only at this; omega
           subst hn
           have ho := Only.of_below [] hbel
           have HO := hide (fun o o' => (ho.alloc o).alloc o')
           unfold zonV planV planC
           clear hbel hc hok ho))
    go_ret2
    exact ⟨unhide HO _ _, 0, _, rfl, fun _ => ⟨rfl, (unhide HNN).symm⟩, fun h => absurd ((unhide HNN).symm.trans h) h0⟩
end Go.Proofs.YtnnhnihgeheahaaGreatDoor
