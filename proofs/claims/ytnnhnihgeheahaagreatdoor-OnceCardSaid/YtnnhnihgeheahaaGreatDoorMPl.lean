/- PlA, PlB, PlC, in one text. -/
import Derived.Test.YtnnhnihgeheahaaGreatDoorNumA
import Derived.Test.YtnnhnihgeheahaaGreatDoorMStr
import Derived.Test.YtnnhnihgeheahaaGreatDoorFldC
import Derived.Test.YtnnhnihgeheahaaGreatDoorMCal
import Derived.Deep.RegionHeld3
import Derived.Deep.LoopGhost
import Derived.WalkMore
/- The program's plan: set, fitsDay, timeFrom. -/
set_option linter.unusedSimpArgs false
set_option linter.unusedVariables false
namespace Go.Proofs.YtnnhnihgeheahaaGreatDoor
open Go.RowKit

/-- What fields that are read keep to. -/
structure Fld.Good (F : Fld) : Prop where
  mlt : ∀ k, F.m.2 k = true → k ≤ 59
  mne : ∃ k, F.m.2 k = true
  hlt : ∀ k, F.h.2 k = true → k ≤ 23

/-- The first time of a day from one on that fits. -/
def Cal.TimeSaid (F : Fld) (T x : Nat) (ok : Bool) : Prop := (ok = true → T ≤ x ∧ x < 1440 ∧ Cal.fitsTime F x = true ∧ ∀ u, T ≤ u → u < x → Cal.fitsTime F u = false) ∧ (ok = false → ∀ u, T ≤ u → u < 1440 → Cal.fitsTime F u = false)

theorem time_here {F : Fld} (hF : F.Good) {T m : Nat} (hT : T < 1440) (hh : F.h.2 (T / 60) = true) (hm : Cal.Least F.m.2 (T % 60) m true) : Cal.TimeSaid F T (T / 60 * 60 + m) true := by
  obtain ⟨h1, h2, h3, h4⟩ := hm.1 rfl
  have h5 := hF.mlt m h3
  refine ⟨fun _ => ⟨by omega, by omega, ?_, fun u g1 g2 => ?_⟩, fun e => by cases e⟩
  · unfold Cal.fitsTime
    rw [show (T / 60 * 60 + m) % 60 = m by omega, show (T / 60 * 60 + m) / 60 = T / 60 by omega, h3, hh]
    rfl
  · unfold Cal.fitsTime
    rw [h4 (u % 60) (by omega) (by omega)]
    rfl
theorem time_later {F : Fld} (hF : F.Good) {T H m0 : Nat} {left ok0 : Bool} (hT : T < 1440) (hno : F.h.2 (T / 60) = false ∨ ∃ m, Cal.Least F.m.2 (T % 60) m false) (hH : Cal.Least F.h.2 (T / 60 + 1) H left) (hm : Cal.Least F.m.2 0 m0 ok0) :
    Cal.TimeSaid F T (H * 60 + m0) left := by
  have hhere : ∀ u, T ≤ u → u / 60 = T / 60 → Cal.fitsTime F u = false := by
    intro u g1 g2
    unfold Cal.fitsTime
    rcases hno with h | ⟨m, h⟩
    · rw [g2, h]; simp
    · rw [h.2 rfl (u % 60) (by omega) (by omega)]; rfl
  obtain ⟨k0, hk0⟩ := hF.mne
  have hok : ok0 = true := by
    cases ok0 with
    | true => rfl
    | false => have := hm.2 rfl k0 (Nat.zero_le _) (by have := hF.mlt k0 hk0; omega); rw [hk0] at this; cases this
  obtain ⟨m1, m2, m3, m4⟩ := hm.1 hok
  have m5 := hF.mlt m0 m3
  refine ⟨fun e => ?_, fun e u g1 g2 => ?_⟩
  · obtain ⟨h1, h2, h3, h4⟩ := hH.1 e
    have h5 := hF.hlt H h3
    refine ⟨by omega, by omega, ?_, fun u g1 g2 => ?_⟩
    · unfold Cal.fitsTime
      rw [show (H * 60 + m0) % 60 = m0 by omega, show (H * 60 + m0) / 60 = H by omega, h3, m3]
      rfl
    · by_cases c1 : u / 60 = T / 60
      · exact hhere u g1 c1
      · unfold Cal.fitsTime
        by_cases c2 : u / 60 = H
        · rw [m4 (u % 60) (Nat.zero_le _) (by omega)]; rfl
        · rw [h4 (u / 60) (by omega) (by omega)]; simp
  · by_cases c1 : u / 60 = T / 60
    · exact hhere u g1 c1
    · unfold Cal.fitsTime
      rw [hH.2 e (u / 60) (by omega) (by omega)]; simp

/-- The table that TrailingZeros64 reads. -/
def Bruijn (w : World) : Prop := TabAt 6 Lib.deBruijn64tab w
theorem Bruijn.only {w w' : World} (h : Bruijn w) {l : List Nat} (k : Only l w w') (h1 : 6 ∉ l) : Bruijn w' := fun j hj => by
  have := h j hj
  rw [← this]
  exact cell_only k (cell_lt this) h1
theorem Bruijn.alloc {w : World} (h : Bruijn w) (o : Obj) : Bruijn (w.alloc o) := h.only ((Only.refl [] w).alloc o) (by simp)

set_option maxRecDepth 2000 in
set_option maxHeartbeats 1000000 in
theorem code_set (F : Fld) (w : World) : Calls Tryz.prog 100 #[planV F] w fun e w' => e = .returned (.bool (Cal.isSet F)) ∧ Only [] w w' := by
  obtain ⟨⟨sm, hm⟩, ⟨sh, hh⟩, ⟨sd, hd⟩, ⟨sn, hn⟩, ⟨sw, hw⟩⟩ := F
  unfold planV planC Cal.isSet
  simp only
  cases sm <;> cases sh
  all_goals
    go_enter Tryz.func100, Tryz.ntmps100
    go_wp2
    try (go_quiet (fail); go_wp2)
    go_ret
    exact ⟨rfl, by first | exact (Only.refl [] w).alloc _ | exact ((Only.refl [] w).alloc _).drewN _⟩

theorem code_hasR (h : Nat → Bool) (n : Nat) (x n' : Int) (v : Bool) (e0 : x = Cal.nb h) (e1 : n' = n) (ev : v = h n) (w : World) (hn : n < 64) :
    Calls Tryz.prog 167 #[.int .u64 x, .int .i64 n'] w fun e w' => e = .returned (.bool v) ∧ w' = w := by
  subst ev; exact code_has h n x n' e0 e1 w hn

set_option maxRecDepth 2000 in
set_option maxHeartbeats 2000000 in
theorem code_fitsDay (F : Fld) (d k : Nat) (d' k' : Int) (e1 : d' = d) (e2 : k' = k) (w : World) (hd : d < 64) (hk : k < 64) : Calls Tryz.prog 168 #[planV F, .int .i64 d', .int .i64 k'] w
    fun e w' => e = .returned (.bool (if F.d.1 = false ∧ F.w.1 = false then F.d.2 d || F.w.2 k else F.d.2 d && F.w.2 k)) ∧ Only [] w w' := by
  subst e1 e2
  obtain ⟨⟨sm, hm⟩, ⟨sh, hh⟩, ⟨sd, fd⟩, ⟨sn, hn⟩, ⟨sw, fw⟩⟩ := F
  unfold planV planC
  simp only
  obtain ⟨ND, hND⟩ : ∃ ND, ND = Cal.nb fd := ⟨_, rfl⟩
  obtain ⟨NW, hNW⟩ : ∃ NW, NW = Cal.nb fw := ⟨_, rfl⟩
  rw [← hND, ← hNW]
  have HND := hide hND
  have HNW := hide hNW
  obtain ⟨bd, hbd⟩ : ∃ bd, bd = fd d := ⟨_, rfl⟩
  obtain ⟨bw, hbw⟩ : ∃ bw, bw = fw k := ⟨_, rfl⟩
  rw [← hbd, ← hbw]
  have HBD := hide hbd
  have HBW := hide hbw
  clear hND hNW hbd hbw
  cases sd <;> cases sw <;> cases bd <;> cases bw
  all_goals
    go_enter Tryz.func168, Tryz.ntmps168
    go_wp2
    go_quiet (first
      | (go_at_call 167; exact Calls.quiet_of_same (code_hasR fd d _ _ _ (by rw [← unhide HND]) (by rfl) (unhide HBD) _ hd))
      | (go_at_call 167; exact Calls.quiet_of_same (code_hasR fw k _ _ _ (by rw [← unhide HNW]) (by rfl) (unhide HBW) _ hk)))
    go_wp2
    go_ret
    exact ⟨ret_bool (by simp), ((Only.refl [] _).alloc _).drewN _⟩

/-- What 'timeFrom' says. -/
def TimeSaidC (F : Fld) (T : Nat) (w : World) (e : Ending) (w' : World) : Prop := (∃ (x : Nat) (ok : Bool), e = .returned (.tuple #[.int .i64 (x : Int), .bool ok]) ∧ x ≤ 20000 ∧ Cal.TimeSaid F T x ok) ∧ Only [] w w'

set_option maxRecDepth 2000 in
set_option maxHeartbeats 2000000 in
theorem code_timeFrom (F : Fld) (hF : F.Good) (T : Nat) (T' : Int) (e1 : T' = T) (w : World) (hT : T < 1440) (hB : Bruijn w) : Calls Tryz.prog 141 #[planV F, .int .i64 T'] w (TimeSaidC F T w) := by
  subst e1
  have hhere := fun m => time_here hF (T := T) (m := m) hT
  have hlater := fun H m0 left ok0 => time_later hF (T := T) (H := H) (m0 := m0) (left := left) (ok0 := ok0) hT
  have HB0 := hide (hB.alloc (.cells (planC F) 102))
  obtain ⟨⟨sm, fm⟩, ⟨sh, fh⟩, ⟨sd, fd⟩, ⟨sn, fn⟩, ⟨sw, fw⟩⟩ := F
  unfold planV planC
  unfold planC at HB0
  simp only at *
  obtain ⟨NM, hNM⟩ : ∃ NM, NM = Cal.nb fm := ⟨_, rfl⟩
  obtain ⟨NH, hNH⟩ : ∃ NH, NH = Cal.nb fh := ⟨_, rfl⟩
  rw [← hNM, ← hNH] at HB0
  rw [← hNM, ← hNH]
  have HNM := hide hNM
  have HNH := hide hNH
  obtain ⟨q, hq⟩ : ∃ q, q = T / 60 := ⟨_, rfl⟩
  obtain ⟨r, hr⟩ : ∃ r, r = T % 60 := ⟨_, rfl⟩
  have hqi : (T : Int) / 60 = q := by omega
  have hri : (T : Int) % 60 = r := by omega
  have hqi2 : (T : Int).tdiv 60 = q := by rw [Int.tdiv_eq_ediv_of_nonneg (by omega)]; omega
  have hri2 : (T : Int).tmod 60 = r := by rw [Int.tmod_eq_emod_of_nonneg (by omega)]; omega
  have hqb : q ≤ 23 ∧ r ≤ 59 := by omega
  rw [← hq, ← hr] at hhere hlater
  obtain ⟨bh, hbh⟩ : ∃ bh, bh = fh q := ⟨_, rfl⟩
  have HBH := hide hbh
  have HHE := hide hhere
  have HLA := hide hlater
  clear hNM hNH hB hF hbh hhere hlater hq hr
  cases bh
  · go_enter Tryz.func141, Tryz.ntmps141
    go_wp2_with (first
      | (go_at_call 167; refine (code_has fh q _ _ (by rw [← unhide HNH]) (by omega) _ (by omega)).mono ?_; rintro e w1 ⟨rfl, rfl⟩; rw [← unhide HBH])
      | (go_at_call 169; refine (code_from fh (q + 1) _ _ (by rw [← unhide HNH]) (by omega) _ (by omega) (unhide HB0)).mono ?_; rintro e w1 ⟨⟨H, left, rfl, hHb, hH⟩, rfl⟩
         have HH := hide hH
         clear hH)
      | (go_at_call 169; refine (code_from fm 0 _ _ (by rw [← unhide HNM]) (by omega) _ (by omega) (unhide HB0)).mono ?_; rintro e w1 ⟨⟨m0, ok0, rfl, hmb, hm⟩, rfl⟩
         have HM := hide hm
         clear hm))
    go_ret2
    exact ⟨⟨H * 60 + m0, left, ret_ib (by omega) rfl, by omega, unhide HLA H m0 left ok0 (.inl (unhide HBH).symm) (unhide HH) (unhide HM)⟩, (Only.refl [] w).alloc _⟩
  · go_enter Tryz.func141, Tryz.ntmps141
    go_wp2_with (first
      | (go_at_call 167; refine (code_has fh q _ _ (by rw [← unhide HNH]) (by omega) _ (by omega)).mono ?_; rintro e w1 ⟨rfl, rfl⟩; rw [← unhide HBH])
      | (go_at_call 169; refine (code_from fm r _ _ (by rw [← unhide HNM]) (by omega) _ (by omega) (unhide HB0)).mono ?_; rintro e w1 ⟨⟨m, okm, rfl, hmb, hm⟩, rfl⟩
         have HM1 := hide hm
         clear hm
         cases okm)
      | (go_at_call 169; refine (code_from fh (q + 1) _ _ (by rw [← unhide HNH]) (by omega) _ (by omega) (unhide HB0)).mono ?_; rintro e w1 ⟨⟨H, left, rfl, hHb, hH⟩, rfl⟩
         have HH := hide hH
         clear hH)
      | (go_at_call 169; refine (code_from fm 0 _ _ (by rw [← unhide HNM]) (by omega) _ (by omega) (unhide HB0)).mono ?_; rintro e w1 ⟨⟨m0, ok0, rfl, hmb0, hm⟩, rfl⟩
         have HM := hide hm
         clear hm))
    all_goals
      go_ret2
      first
        | exact ⟨⟨H * 60 + m0, left, ret_ib (by omega) rfl, by omega, unhide HLA H m0 left ok0 (.inr ⟨m, unhide HM1⟩) (unhide HH) (unhide HM)⟩, (Only.refl [] w).alloc _⟩
        | exact ⟨⟨q * 60 + m, true, ret_ib (by omega) rfl, by omega, unhide HHE m (unhide HBH).symm (unhide HM1)⟩, (Only.refl [] w).alloc _⟩
end Go.Proofs.YtnnhnihgeheahaaGreatDoor

/- The program's plan: nextDay. -/
set_option linter.unusedSimpArgs false
set_option linter.unusedVariables false
namespace Go.Proofs.YtnnhnihgeheahaaGreatDoor
open Go.RowKit

/-- What 'nextDay' says: days are counted from 1960. -/
def DaySaid (F : Fld) (a b : Nat) (e : Ending) : Prop :=
  (∃ x : Nat, e = .returned (.tuple #[.int .i64 ((x : Int) - 3653), .bool true]) ∧ a ≤ x ∧ x < b ∧ Cal.fitsDay F x = true ∧ ∀ u, a ≤ u → u < x → Cal.fitsDay F u = false) ∨
  (e = .returned (.tuple #[.int .i64 0, .bool false]) ∧ ∀ u, a ≤ u → u < b → Cal.fitsDay F u = false)

theorem Is.later {D n m k u : Nat} (h : Cal.Is D n m k) (h1 : D ≤ u) (h2 : u < D - k + Cal.ml (1960 + n) (m + 1)) : Cal.Is u n m (k + (u - D)) := by
  obtain ⟨g1, g2, g3⟩ := h
  exact ⟨by omega, by omega, g3⟩
theorem plan_no_month {F : Fld} {D n m k : Nat} (h : Cal.Is D n m k) (hm : F.n.2 (m + 1) = false) : ∀ u, D ≤ u → u < D - k + Cal.ml (1960 + n) (m + 1) → Cal.fitsDay F u = false := by
  intro u h1 h2
  rw [Cal.fitsDay_eq (Is.later h h1 h2)]
  unfold Cal.dayOk
  rw [hm]; rfl

def plA (N0 N1 N2 N3 N4 : Nat) (s0 s1 s2 s3 s4 : Bool) : Array Value := #[.int .u64 N0, .bool s0, .int .u64 N1, .bool s1, .int .u64 N2, .bool s2, .int .u64 N3, .bool s3, .int .u64 N4, .bool s4]

/-- What a region holds that hands the plan on. -/
abbrev PS (w : World) (b : Nat) (N0 N1 N2 N3 N4 : Nat) (s0 s1 s2 s3 s4 : Bool) (w' : World) : Prop :=
  (w'.cell? ⟨b, 0, none⟩ = some (.int .u64 (N0 : Int)) ∧ w'.cell? ⟨b, 1, none⟩ = some (.bool s0) ∧ w'.cell? ⟨b, 2, none⟩ = some (.int .u64 (N1 : Int)) ∧ w'.cell? ⟨b, 3, none⟩ = some (.bool s1) ∧ w'.cell? ⟨b, 4, none⟩ = some (.int .u64 (N2 : Int)) ∧ w'.cell? ⟨b, 5, none⟩ = some (.bool s2) ∧ w'.cell? ⟨b, 6, none⟩ = some (.int .u64 (N3 : Int)) ∧ w'.cell? ⟨b, 7, none⟩ = some (.bool s3) ∧ w'.cell? ⟨b, 8, none⟩ = some (.int .u64 (N4 : Int)) ∧ w'.cell? ⟨b, 9, none⟩ = some (.bool s4)) ∧ Hid (Only [] w w')
theorem PS.of {w w' : World} {b : Nat} {N0 N1 N2 N3 N4 : Nat} {s0 s1 s2 s3 s4 : Bool} {T : TypeId} (h : Blk w' b (plA N0 N1 N2 N3 N4 s0 s1 s2 s3 s4) T) (ho : Only [] w w') : PS w b N0 N1 N2 N3 N4 s0 s1 s2 s3 s4 w' :=
  ⟨⟨h.cell 0, h.cell 1, h.cell 2, h.cell 3, h.cell 4, h.cell 5, h.cell 6, h.cell 7, h.cell 8, h.cell 9⟩, ho⟩
theorem PS.next {w w' w1 : World} {b : Nat} {N0 N1 N2 N3 N4 : Nat} {s0 s1 s2 s3 s4 : Bool} (h : PS w b N0 N1 N2 N3 N4 s0 s1 s2 s3 s4 w') (ho : Only [] w' w1) : PS w b N0 N1 N2 N3 N4 s0 s1 s2 s3 s4 w1 := by
  obtain ⟨⟨u0, u1, u2, u3, u4, u5, u6, u7, u8, u9⟩, HO⟩ := h
  exact ⟨⟨cell_keep ho u0, cell_keep ho u1, cell_keep ho u2, cell_keep ho u3, cell_keep ho u4, cell_keep ho u5, cell_keep ho u6, cell_keep ho u7, cell_keep ho u8, cell_keep ho u9⟩, (unhide HO).trans ho⟩

set_option maxRecDepth 4000 in
set_option maxHeartbeats 4000000 in
theorem code_nextDay (F : Fld) (A B : Nat) (a' b' : Int) (e1 : a' = (A : Int) - 3653) (e2 : b' = (B : Int) - 3653) (w : World) (hM : Months w) (hA1 : 600 ≤ A) (hA2 : A ≤ 60000) (hB1 : 600 ≤ B) (hB2 : B ≤ 60000) :
    Calls Tryz.prog 140 #[planV F, .int .i64 a', .int .i64 b'] w fun e w' => DaySaid F A B e ∧ Only [] w w' := by
  subst e1 e2
  obtain ⟨N0, hN0⟩ : ∃ N, N = Cal.nb F.m.2 := ⟨_, rfl⟩
  obtain ⟨N1, hN1⟩ : ∃ N, N = Cal.nb F.h.2 := ⟨_, rfl⟩
  obtain ⟨N2, hN2⟩ : ∃ N, N = Cal.nb F.d.2 := ⟨_, rfl⟩
  obtain ⟨N3, hN3⟩ : ∃ N, N = Cal.nb F.n.2 := ⟨_, rfl⟩
  obtain ⟨N4, hN4⟩ : ∃ N, N = Cal.nb F.w.2 := ⟨_, rfl⟩
  obtain ⟨s0, hs0⟩ : ∃ s, s = F.m.1 := ⟨_, rfl⟩
  obtain ⟨s1, hs1⟩ : ∃ s, s = F.h.1 := ⟨_, rfl⟩
  obtain ⟨s2, hs2⟩ : ∃ s, s = F.d.1 := ⟨_, rfl⟩
  obtain ⟨s3, hs3⟩ : ∃ s, s = F.n.1 := ⟨_, rfl⟩
  obtain ⟨s4, hs4⟩ : ∃ s, s = F.w.1 := ⟨_, rfl⟩
  have hpv : planV F = .agg (plA N0 N1 N2 N3 N4 s0 s1 s2 s3 s4) := by rw [hN0, hN1, hN2, hN3, hN4, hs0, hs1, hs2, hs3, hs4]; rfl
  have hp0 : Blk (w.alloc (.cells (plA N0 N1 N2 N3 N4 s0 s1 s2 s3 s4) 102)) w.heap.size (plA N0 N1 N2 N3 N4 s0 s1 s2 s3 s4) 102 := Blk.new _ _ _
  have ho0 := (Only.refl [] w).alloc (.cells (plA N0 N1 N2 N3 N4 s0 s1 s2 s3 s4) 102)
  have HP0 := hide hp0
  have HO0 := hide ho0
  have HM := hide hM
  have HN3 := hide hN3
  rw [hpv]
  have HPV := hide hpv
  obtain ⟨bp, hbp⟩ : ∃ bp, bp = w.heap.size := ⟨_, rfl⟩
  rw [← hbp] at HP0
  clear hp0 ho0 hM hN0 hN1 hN2 hN3 hN4 hs0 hs1 hs2 hs3 hs4 hpv
  unfold plA
  unfold plA at HO0
  go_enter Tryz.func140, Tryz.ntmps140
  go_wp2_with fail
  go_step3
  go_wp2_with fail
  go_step3
  go_wp2_with fail
  rw [← hbp]
  clear hbp
  go_loopg [8] (61000 - A) (fun g x wr => ∃ D : Nat, D + g = 61000 ∧ A ≤ D ∧ D ≤ 60100 ∧ x = .int .i64 ((D : Int) - 3653) ∧ Hid (∀ u, A ≤ u → u < D → Cal.fitsDay F u = false) ∧ Hid (Blk wr bp (plA N0 N1 N2 N3 N4 s0 s1 s2 s3 s4) 102 ∧ Only [] w wr))
  case atStart => exact ⟨A, by omega, Nat.le_refl _, by omega, rfl, fun u h1 h2 => by omega, unhide HP0, unhide HO0⟩
  case round =>
    obtain ⟨D, hDg, hD1, hD2, rfl, HI, HX⟩ := hrel
    obtain ⟨hP, hO⟩ := unhide HX
    have HPr := hide hP
    have HOr := hide hO
    have HMr := hide ((unhide HM).only hO (by simp))
    clear hP hO HX HP0 HO0
    by_cases hlt : D < B
    · go_wp2_with (first
        | (go_at_call 62
           refine (code_dateOf D _ (by rfl) _ (unhide HMr) (by omega) (by omega)).mono ?_
           rintro e w1 ⟨n, m, k, hn, hIs, rfl, ho1⟩
           obtain ⟨L, hL⟩ : ∃ L, L = Cal.ml (1960 + n) (m + 1) := ⟨_, rfl⟩
           have hLb := Cal.ml_bd (1960 + n) (m + 1)
           have hkL := hIs.2.1
           have hm12 := hIs.2.2
           have hkD : k ≤ D := by have := hIs.1; omega
           rw [← hL] at hLb hkL
           have HL := hide hL
           have HIS := hide hIs
           unfold dateC
           have hP1 := (unhide HPr).only ho1 (by simp)
           have HPd := hide (fun o => hP1.alloc o)
           have HOd := hide (fun o => ((unhide HOr).trans ho1).alloc o)
           have HMd := hide (fun o => ((unhide HMr).only ho1 (by simp)).alloc o)
           have u6 : ∀ o, (w1.alloc o).cell? ⟨bp, 6, none⟩ = some (.int .u64 (N3 : Int)) := fun o => (hP1.alloc o).cell 6
           obtain ⟨bm, hbm⟩ : ∃ bm, bm = F.n.2 (m + 1) := ⟨_, rfl⟩
           have HBM := hide hbm
           clear hP1 hbm
           clear hL hIs ho1 HPr HOr HMr)
        | (go_at_call 92
           refine (code_monthLength (1960 + n) m _ _ (by omega) (by omega) _ (unhide HMd _) (by omega) (by omega)).mono ?_
           rintro e w2 ⟨rfl, rfl⟩
           rw [← unhide HL])
        | (go_at_call 167
           refine (code_has F.n.2 (m + 1) _ _ (by rw [← unhide HN3]) (by omega) _ (by omega)).mono ?_
           rintro e w2 ⟨rfl, rfl⟩
           rw [← unhide HBM]
           cases bm))
      · go_roundg (61000 - (D - k + L))
        case rel =>
          refine ⟨D - k + L, by omega, by omega, by omega, by go_num, ?_, unhide HPd _, unhide HOd _⟩
          intro u h1 h2
          by_cases hu : u < D
          · exact unhide HI u h1 hu
          · exact plan_no_month (unhide HIS) (unhide HBM).symm u (by omega) (by rw [← unhide HL]; exact h2)
        case measure => omega
      · clear u6
        go_loopg [8] (61000 - D) (fun g x wr => ∃ d : Nat, d + g = 61000 ∧ D ≤ d ∧ d ≤ D - k + L ∧ x = .int .i64 ((d : Int) - 3653) ∧ Hid (∀ u, A ≤ u → u < d → Cal.fitsDay F u = false) ∧ Hid (Blk wr bp (plA N0 N1 N2 N3 N4 s0 s1 s2 s3 s4) 102 ∧ Only [] w wr))
        case atStart => exact ⟨D, by omega, Nat.le_refl _, by omega, rfl, unhide HI, unhide HPd _, unhide HOd _⟩
        case round =>
          obtain ⟨d, hdg, hd1, hd2, rfl, HJ, HX⟩ := hrel
          obtain ⟨hP, hO⟩ := unhide HX
          have HPi := hide hP
          have HOi := hide hO
          clear hP hO HX HPd HOd HMd
          by_cases hlt2 : d < B
          · by_cases hov : d = D - k + L
            · have hovi : (((d : Int) - 3653) == (D : Int) - 3653 - (k + 1) + 1 + L) = true := by rw [beq_iff_eq]; omega
              go_wp2
              go_roundg (61000 - d)
              case rel => exact ⟨d, by omega, by omega, by omega, rfl, unhide HJ, unhide HPi, unhide HOi⟩
              case measure => omega
            · have hovi : (((d : Int) - 3653) == (D : Int) - 3653 - (k + 1) + 1 + L) = false := by rw [beq_eq_false_iff_ne]; omega
              obtain ⟨wd, hwd⟩ : ∃ wd, wd = (d + 5) % 7 := ⟨_, rfl⟩
              have hwdi : (wd : Int) = ((d : Int) - 3653 + 4) % 7 := by omega
              have hwdb : wd ≤ 6 := by omega
              obtain ⟨bv, hbv⟩ : ∃ bv, bv = if F.d.1 = false ∧ F.w.1 = false then F.d.2 (k + (d - D) + 1) || F.w.2 wd else F.d.2 (k + (d - D) + 1) && F.w.2 wd := ⟨_, rfl⟩
              have hfit : Cal.fitsDay F d = bv := by
                rw [Cal.fitsDay_eq (Is.later (unhide HIS) hd1 (by rw [← unhide HL]; omega)), hbv, hwd]
                unfold Cal.dayOk
                rw [← unhide HBM]
                rfl
              have hfd : ∀ (d' : Int) (w' : World), d' = ((k + (d - D) + 1 : Nat) : Int) → Calls Tryz.prog 168 #[.agg #[.int .u64 (N0 : Int), .bool s0, .int .u64 (N1 : Int), .bool s1, .int .u64 (N2 : Int), .bool s2, .int .u64 (N3 : Int), .bool s3, .int .u64 (N4 : Int), .bool s4], .int .i64 d', .int .i64 (wd : Int)] w' fun e w'' => e = .returned (.bool bv) ∧ Only [] w' w'' := by
                intro d' w' hd'
                have h := code_fitsDay F (k + (d - D) + 1) wd d' wd hd' rfl w' (by omega) (by omega)
                rw [unhide HPV, ← hbv] at h
                exact h
              have HFD := hide hfd
              have HFT := hide hfit
              clear hfd
              have HWI := hide hwdi
              clear hbv hfit hwdi hwd
              have hk0 : PS wr bp N0 N1 N2 N3 N4 s0 s1 s2 s3 s4 wr.drew := PS.of (unhide HPi).drew (Only.refl [] wr).drew
              have HK0 := hide hk0
              clear hk0
              go_wp2
              go_region_held3 (fun w' => (w'.cell? ⟨bp, 0, none⟩ = some (.int .u64 (N0 : Int)) ∧ w'.cell? ⟨bp, 1, none⟩ = some (.bool s0) ∧ w'.cell? ⟨bp, 2, none⟩ = some (.int .u64 (N1 : Int)) ∧ w'.cell? ⟨bp, 3, none⟩ = some (.bool s1) ∧ w'.cell? ⟨bp, 4, none⟩ = some (.int .u64 (N2 : Int)) ∧ w'.cell? ⟨bp, 5, none⟩ = some (.bool s2) ∧ w'.cell? ⟨bp, 6, none⟩ = some (.int .u64 (N3 : Int)) ∧ w'.cell? ⟨bp, 7, none⟩ = some (.bool s3) ∧ w'.cell? ⟨bp, 8, none⟩ = some (.int .u64 (N4 : Int)) ∧ w'.cell? ⟨bp, 9, none⟩ = some (.bool s4)) ∧ Hid (Only [] wr w')) (first | exact unhide HK0 | exact unhide HK1)
                (first
                | (go_at_call 66
                   refine (code_weekdayOfR ((d : Int) - 3653) _ (wd : Int) (by omega) (unhide HWI) _ (by omega) (by omega)).mono ?_
                   rintro e w3 ⟨rfl, rfl⟩)
                | (go_at_call 168
                   refine (unhide HFD _ _ (by simp only [IntKind.wrap_i64]; omega)).mono ?_
                   rintro e w3 ⟨rfl, hc3⟩
                   have HK1 := hide (PS.next (w := wr) (b := bp) (N0 := N0) (N1 := N1) (N2 := N2) (N3 := N3) (N4 := N4) (s0 := s0) (s1 := s1) (s2 := s2) (s3 := s3) (s4 := s4) (by assumption) hc3)
                   clear hc3))
              all_goals
                have hO4 := (unhide HK1).2
                have HP4 := hide ((unhide HPi).only (unhide hO4) (by simp))
                have HO4 := hide ((unhide HOi).trans (unhide hO4))
                clear hO4 HK1 HK0 HPi HOi
                cases bv
                · go_wp2
                  go_roundg (61000 - (d + 1))
                  case rel =>
                    refine ⟨d + 1, by omega, by omega, by omega, by go_num, ?_, unhide HP4, unhide HO4⟩
                    intro u h1 h2
                    by_cases hu : u < d
                    · exact unhide HJ u h1 hu
                    · rw [show u = d by omega]; exact unhide HFT
                  case measure => omega
                · go_wp2
                  try rw [Exit.noGoto_ret]
                  go_ret2
                  exact ⟨.inl ⟨d, rfl, by omega, hlt2, unhide HFT, unhide HJ⟩, unhide HO4⟩
          · go_wp2
            go_roundg (61000 - d)
            case rel => exact ⟨d, by omega, by omega, by omega, rfl, unhide HJ, unhide HPi, unhide HOi⟩
            case measure => omega
    · go_wp2
      try rw [Exit.noGoto_ret]
      go_ret2
      exact ⟨.inr ⟨rfl, fun u h1 h2 => unhide HI u h1 (by omega)⟩, unhide HOr⟩
end Go.Proofs.YtnnhnihgeheahaaGreatDoor

/- The program's plan: next. -/
set_option linter.unusedSimpArgs false
set_option linter.unusedVariables false
namespace Go.Proofs.YtnnhnihgeheahaaGreatDoor
open Go.RowKit
namespace Cal

theorem fits_no_day {F : Fld} {u : Int} {D : Nat} (h : (u + 5260320).toNat / 1440 = D) (hd : fitsDay F D = false) : fits F u = false := by
  unfold fits; rw [h, hd]; simp
theorem fits_no_time {F : Fld} {u : Int} {T : Nat} (h : (u + 5260320).toNat % 1440 = T) (ht : fitsTime F T = false) : fits F u = false := by
  unfold fits; rw [h, ht]; rfl
theorem fits_at {F : Fld} {u : Int} {D T : Nat} (h1 : (u + 5260320).toNat / 1440 = D) (h2 : (u + 5260320).toNat % 1440 = T) (hd : fitsDay F D = true) (ht : fitsTime F T = true) : fits F u = true := by
  unfold fits; rw [h1, h2, hd, ht]; rfl

theorem not_fits {F : Fld} {u : Int} (h : fits F u = false) : ¬ (fun c => fits F c = true) u := by simp [h]

/-- Days that do not fit are passed over. -/
theorem pass_days {F : Fld} {a : Int} (ha : -3000000 ≤ a) {D1 D2 : Nat} (h1 : ∀ u, a ≤ u → u < ((D1 : Int) - 3653) * 1440 → fits F u = false) (h2 : ∀ d, D1 ≤ d → d < D2 → fitsDay F d = false) :
    ∀ u, a ≤ u → u < ((D2 : Int) - 3653) * 1440 → fits F u = false := by
  intro u hu hu2
  by_cases h : u < ((D1 : Int) - 3653) * 1440
  · exact h1 u hu h
  · exact fits_no_day (D := (u + 5260320).toNat / 1440) rfl (h2 _ (by omega) (by omega))
theorem pass_times {F : Fld} {a : Int} (ha : -3000000 ≤ a) {D T x : Nat} (h1 : ∀ u, a ≤ u → u < ((D : Int) - 3653) * 1440 → fits F u = false) (hT : (T : Int) = if a ≤ ((D : Int) - 3653) * 1440 then 0 else a - ((D : Int) - 3653) * 1440) (ht : TimeSaid F T x false) :
    ∀ u, a ≤ u → u < ((D + 1 : Nat) - 3653 : Int) * 1440 → fits F u = false := by
  intro u hu hu2
  by_cases h : u < ((D : Int) - 3653) * 1440
  · exact h1 u hu h
  · refine fits_no_time (T := (u + 5260320).toNat % 1440) rfl (ht.2 rfl _ ?_ (by omega))
    split at hT <;> omega
theorem found_time {F : Fld} {a b : Int} (ha : -3000000 ≤ a) {D T x : Nat} (h1 : ∀ u, a ≤ u → u < ((D : Int) - 3653) * 1440 → fits F u = false) (hT : (T : Int) = if a ≤ ((D : Int) - 3653) * 1440 then 0 else a - ((D : Int) - 3653) * 1440) (ht : TimeSaid F T x true)
    (hD : fitsDay F D = true) (hD2 : 600 ≤ D) : First (fun c => fits F c = true) a b (((D : Int) - 3653) * 1440 + x) (decide (((D : Int) - 3653) * 1440 + x < b)) := by
  obtain ⟨t1, t2, t3, t4⟩ := ht.1 rfl
  have hax : a ≤ ((D : Int) - 3653) * 1440 + x := by split at hT <;> omega
  have hno : ∀ u, a ≤ u → u < ((D : Int) - 3653) * 1440 + x → fits F u = false := by
    intro u hu hu2
    by_cases h : u < ((D : Int) - 3653) * 1440
    · exact h1 u hu h
    · refine fits_no_time (T := (u + 5260320).toNat % 1440) rfl (t4 _ ?_ (by omega))
      split at hT <;> omega
  by_cases hb : ((D : Int) - 3653) * 1440 + x < b
  · rw [decide_eq_true hb]
    exact ⟨fun _ => ⟨hax, hb, fits_at (D := D) (T := x) (by omega) (by omega) hD t3, fun u h2 h3 => not_fits (hno u h2 h3)⟩, fun e => by cases e⟩
  · rw [decide_eq_false hb]
    exact First.of_none fun u h2 h3 => not_fits (hno u h2 (by omega))
theorem none_days {F : Fld} {a b : Int} (ha : -3000000 ≤ a) {E : Nat} (hE : (E : Int) = (b - 1) / 1440 + 3654) (h1 : ∀ u, a ≤ u → u < ((E : Int) - 3653) * 1440 → fits F u = false) : First (fun c => fits F c = true) a b 0 false :=
  First.of_none fun u h2 h3 => not_fits (h1 u h2 (by omega))
end Cal

/-- What 'nextDay' says, by letters. -/
def DaySaid2 (F : Fld) (a b : Nat) (x : Int) (ok : Bool) : Prop :=
  (ok = true ∧ ∃ D : Nat, x = (D : Int) - 3653 ∧ a ≤ D ∧ D < b ∧ Cal.fitsDay F D = true ∧ ∀ u, a ≤ u → u < D → Cal.fitsDay F u = false) ∨ (ok = false ∧ x = 0 ∧ ∀ u, a ≤ u → u < b → Cal.fitsDay F u = false)
theorem DaySaid.two {F : Fld} {a b : Nat} {e : Ending} (h : DaySaid F a b e) : ∃ (x : Int) (ok : Bool), e = .returned (.tuple #[.int .i64 x, .bool ok]) ∧ DaySaid2 F a b x ok := by
  rcases h with ⟨D, rfl, h1, h2, h3, h4⟩ | ⟨rfl, h4⟩
  · exact ⟨_, true, rfl, .inl ⟨rfl, D, rfl, h1, h2, h3, h4⟩⟩
  · exact ⟨_, false, rfl, .inr ⟨rfl, rfl, h4⟩⟩

/-- What 'next' says. -/
def NextSaid (F : Fld) (a b : Int) (w : World) (e : Ending) (w' : World) : Prop :=
  (∃ (x : Int) (ok : Bool), e = .returned (.tuple #[.int .i64 x, .bool ok]) ∧ -100000000 ≤ x ∧ x ≤ 100000000 ∧ Cal.First (fun c => Cal.fits F c = true) a b x ok) ∧ Only [] w w'

set_option maxRecDepth 4000 in
set_option maxHeartbeats 4000000 in
theorem code_next (F : Fld) (hF : F.Good) (a b : Int) (w : World) (hM : Months w) (hB : Bruijn w) (ha1 : -3000000 ≤ a) (ha2 : a ≤ 80000000) (hb1 : -3000000 ≤ b) (hb2 : b ≤ 80000000) :
    Calls Tryz.prog 102 #[planV F, .int .i64 a, .int .i64 b] w (NextSaid F a b w) := by
  obtain ⟨N0, hN0⟩ : ∃ N, N = Cal.nb F.m.2 := ⟨_, rfl⟩
  obtain ⟨N1, hN1⟩ : ∃ N, N = Cal.nb F.h.2 := ⟨_, rfl⟩
  obtain ⟨N2, hN2⟩ : ∃ N, N = Cal.nb F.d.2 := ⟨_, rfl⟩
  obtain ⟨N3, hN3⟩ : ∃ N, N = Cal.nb F.n.2 := ⟨_, rfl⟩
  obtain ⟨N4, hN4⟩ : ∃ N, N = Cal.nb F.w.2 := ⟨_, rfl⟩
  obtain ⟨s0, hs0⟩ : ∃ s, s = F.m.1 := ⟨_, rfl⟩
  obtain ⟨s1, hs1⟩ : ∃ s, s = F.h.1 := ⟨_, rfl⟩
  obtain ⟨s2, hs2⟩ : ∃ s, s = F.d.1 := ⟨_, rfl⟩
  obtain ⟨s3, hs3⟩ : ∃ s, s = F.n.1 := ⟨_, rfl⟩
  obtain ⟨s4, hs4⟩ : ∃ s, s = F.w.1 := ⟨_, rfl⟩
  have hpv : planV F = .agg (plA N0 N1 N2 N3 N4 s0 s1 s2 s3 s4) := by rw [hN0, hN1, hN2, hN3, hN4, hs0, hs1, hs2, hs3, hs4]; rfl
  have hp0 : Blk (w.alloc (.cells (plA N0 N1 N2 N3 N4 s0 s1 s2 s3 s4) 102)) w.heap.size (plA N0 N1 N2 N3 N4 s0 s1 s2 s3 s4) 102 := Blk.new _ _ _
  have ho0 := (Only.refl [] w).alloc (.cells (plA N0 N1 N2 N3 N4 s0 s1 s2 s3 s4) 102)
  obtain ⟨A, hA⟩ : ∃ A, A = (a + 5260320).toNat / 1440 := ⟨_, rfl⟩
  obtain ⟨E, hE⟩ : ∃ E, E = (b - 1 + 5260320).toNat / 1440 + 1 := ⟨_, rfl⟩
  have hAi : a / 1440 = (A : Int) - 3653 := by omega
  have hEi : (b - 1) / 1440 = (E : Int) - 3654 := by omega
  have hAb : 600 ≤ A ∧ A ≤ 60000 ∧ 600 ≤ E ∧ E ≤ 60000 := by omega
  have hday : ∀ (x y : Int) (D : Nat) (w' : World), 600 ≤ D → D ≤ 60000 → x = (D : Int) - 3653 → y = (E : Int) - 3653 → Months w' → Calls Tryz.prog 140 #[.agg (plA N0 N1 N2 N3 N4 s0 s1 s2 s3 s4), .int .i64 x, .int .i64 y] w' fun e w'' => DaySaid F D E e ∧ Only [] w' w'' := by
    intro x y D w' h1 h2 h3 h4 h5
    have h := code_nextDay F D E x y h3 h4 w' h5 h1 h2 hAb.2.2.1 hAb.2.2.2
    rw [hpv] at h
    exact h
  have htime : ∀ (x : Int) (T : Nat) (w' : World), T < 1440 → x = (T : Int) → Bruijn w' → Calls Tryz.prog 141 #[.agg (plA N0 N1 N2 N3 N4 s0 s1 s2 s3 s4), .int .i64 x] w' (TimeSaidC F T w') := by
    intro x T w' h1 h2 h3
    have h := code_timeFrom F hF T x h2 w' h1 h3
    rw [hpv] at h
    exact h
  have HDAY := hide hday
  have HTIME := hide htime
  have HP0 := hide hp0
  have HO0 := hide ho0
  have HM := hide hM
  have HB := hide hB
  have HAI := hide hAi
  have HEI := hide hEi
  rw [hpv]
  obtain ⟨bp, hbp⟩ : ∃ bp, bp = w.heap.size := ⟨_, rfl⟩
  rw [← hbp] at HP0
  clear hp0 ho0 hM hB hN0 hN1 hN2 hN3 hN4 hs0 hs1 hs2 hs3 hs4 hpv hA hE hAi hEi hday htime hF
  unfold plA
  unfold plA at HO0 HDAY HTIME
  have hk0 : PS w bp N0 N1 N2 N3 N4 s0 s1 s2 s3 s4 (w.alloc (.cells (plA N0 N1 N2 N3 N4 s0 s1 s2 s3 s4) 102)).drew := PS.of (unhide HP0).drew (unhide HO0).drew
  have HK0 := hide hk0
  clear hk0
  go_enter Tryz.func102, Tryz.ntmps102
  go_wp2_with (go_at_call 60; refine (code_floorDiv' (b - 1) 1440 _ _ (by omega) (by omega) _ (by omega) (by omega) (by omega) (by omega)).mono ?_; rintro e w1 ⟨rfl, rfl⟩; rw [unhide HEI])
  rw [← hbp]
  clear hbp
  go_region_held3 (fun w' => (w'.cell? ⟨bp, 0, none⟩ = some (.int .u64 (N0 : Int)) ∧ w'.cell? ⟨bp, 1, none⟩ = some (.bool s0) ∧ w'.cell? ⟨bp, 2, none⟩ = some (.int .u64 (N1 : Int)) ∧ w'.cell? ⟨bp, 3, none⟩ = some (.bool s1) ∧ w'.cell? ⟨bp, 4, none⟩ = some (.int .u64 (N2 : Int)) ∧ w'.cell? ⟨bp, 5, none⟩ = some (.bool s2) ∧ w'.cell? ⟨bp, 6, none⟩ = some (.int .u64 (N3 : Int)) ∧ w'.cell? ⟨bp, 7, none⟩ = some (.bool s3) ∧ w'.cell? ⟨bp, 8, none⟩ = some (.int .u64 (N4 : Int)) ∧ w'.cell? ⟨bp, 9, none⟩ = some (.bool s4)) ∧ Hid (Only [] w w')) (first | exact unhide HK0 | exact unhide HK1)
    (first
    | (go_at_call 60; refine (code_floorDiv' a 1440 _ _ (by omega) (by omega) _ (by omega) (by omega) (by omega) (by omega)).mono ?_; rintro e w1 ⟨rfl, rfl⟩; rw [unhide HAI])
    | (go_at_call 140
       refine (unhide HDAY _ _ A _ (by omega) (by omega) (by rfl) (by first | omega | (simp only [IntKind.wrap_i64]; omega)) ((unhide HM).only (unhide (unhide HK0).2) (by simp))).mono ?_
       rintro e w1 ⟨hsaid, hc1⟩
       have HK1 := hide (PS.next (w := w) (b := bp) (N0 := N0) (N1 := N1) (N2 := N2) (N3 := N3) (N4 := N4) (s0 := s0) (s1 := s1) (s2 := s2) (s3 := s3) (s4 := s4) (by assumption) hc1)
       have HP1 := hide ((unhide HP0).drew.only hc1 (by simp))
       obtain ⟨xd, okd, he, hsaid2⟩ := hsaid.two
       clear hsaid
       subst he
       have HSD := hide hsaid2
       clear hc1 hsaid2))
  have HO1 := hide (unhide (unhide HK1).2)
  clear HK0 HK1 HP0 HO0
  go_wp2_with fail
  go_loopg [9, 10] 61000 (fun g x9 x10 wr => Hid (Blk wr bp (plA N0 N1 N2 N3 N4 s0 s1 s2 s3 s4) 102 ∧ Only [] w wr) ∧ ∃ (x : Int) (ok : Bool), x9 = .int .i64 x ∧ x10 = .bool ok ∧ Hid ((ok = true ∧ ∃ D : Nat, x = (D : Int) - 3653 ∧ 61000 ≤ D + g ∧ A ≤ D ∧ D < E ∧ Cal.fitsDay F D = true ∧ ∀ u, a ≤ u → u < ((D : Int) - 3653) * 1440 → Cal.fits F u = false) ∨ (ok = false ∧ ∀ u, a ≤ u → u < ((E : Int) - 3653) * 1440 → Cal.fits F u = false)))
  case atStart =>
    have hA0 : ∀ u, a ≤ u → u < ((A : Int) - 3653) * 1440 → Cal.fits F u = false := fun u h1 h2 => by have := unhide HAI; omega
    refine ⟨⟨unhide HP1, unhide HO1⟩, xd, okd, rfl, rfl, ?_⟩
    rcases unhide HSD with ⟨h0, D, h1, h2, h3, h4, h5⟩ | ⟨h0, h1, h2⟩
    · exact .inl ⟨h0, D, h1, by omega, h2, h3, h4, Cal.pass_days ha1 hA0 h5⟩
    · exact .inr ⟨h0, Cal.pass_days ha1 hA0 h2⟩
  case round =>
    obtain ⟨HX, x, ok, rfl, rfl, HR⟩ := hrel
    obtain ⟨hP, hO⟩ := unhide HX
    have HPr := hide hP
    have HOr := hide hO
    have HMr := hide ((unhide HM).only hO (by simp))
    have HBr := hide ((unhide HB).only hO (by simp))
    have u0 := hP.cell 0
    have u1 := hP.cell 1
    have u2 := hP.cell 2
    have u3 := hP.cell 3
    have u4 := hP.cell 4
    have u5 := hP.cell 5
    have u6 := hP.cell 6
    have u7 := hP.cell 7
    have u8 := hP.cell 8
    have u9 := hP.cell 9
    simp [plA] at u0 u1 u2 u3 u4 u5 u6 u7 u8 u9
    clear hP hO HX HP1 HO1 HSD
    rcases unhide HR with ⟨rfl, D, rfl, hDg, hD1, hD2, hD3, hD4⟩ | ⟨rfl, hD4⟩
    · have hDb : 600 ≤ D ∧ D ≤ 60000 := by omega
      obtain ⟨T, hT⟩ : ∃ T : Nat, (T : Int) = if a ≤ ((D : Int) - 3653) * 1440 then 0 else a - ((D : Int) - 3653) * 1440 := ⟨(a - ((D : Int) - 3653) * 1440).toNat, by split <;> omega⟩
      have hTb : T < 1440 := by
        have := unhide HAI
        split at hT <;> omega
      have HTT := hide hT
      have HD3 := hide hD3
      have HD4 := hide hD4
      clear hT hD3 hD4 HR
      go_wp2_with (first
        | (go_at_call 141
           refine (unhide HTIME _ T _ hTb (by have := unhide HTT; split at this <;> first | omega | (simp only [IntKind.wrap_i64]; omega)) (unhide HBr)).mono ?_
           rintro e w2 ⟨⟨xt, left, rfl, hxt, ht⟩, ho2⟩
           have HT2 := hide ht
           have hP2 := (unhide HPr).only ho2 (by simp)
           have HP2 := hide hP2
           have HO2 := hide ((unhide HOr).trans ho2)
           have HM2 := hide ((unhide HMr).only ho2 (by simp))
           clear u0 u1 u2 u3 u4 u5 u6 u7 u8 u9
           have u0 := hP2.cell 0
           have u1 := hP2.cell 1
           have u2 := hP2.cell 2
           have u3 := hP2.cell 3
           have u4 := hP2.cell 4
           have u5 := hP2.cell 5
           have u6 := hP2.cell 6
           have u7 := hP2.cell 7
           have u8 := hP2.cell 8
           have u9 := hP2.cell 9
           simp [plA] at u0 u1 u2 u3 u4 u5 u6 u7 u8 u9
           clear ht ho2 hP2 HPr HOr HMr HBr
           cases left)
        | (go_at_call 140
           refine (unhide HDAY _ _ (D + 1) _ (by omega) (by omega) (by omega) (by omega) (unhide HM2)).mono ?_
           rintro e w3 ⟨hsaid, hc3⟩
           obtain ⟨xd2, okd2, he, hsaid2⟩ := hsaid.two
           clear hsaid
           subst he
           have HSD2 := hide hsaid2
           have HP3 := hide ((unhide HP2).only hc3 (by simp))
           have HO3 := hide ((unhide HO2).trans hc3)
           clear hc3 hsaid2 HP2 HO2))
      · have hpass := Cal.pass_times ha1 (unhide HD4) (unhide HTT) (unhide HT2)
        have HPA := hide hpass
        clear hpass
        go_roundg (gk - 1)
        case rel =>
          refine ⟨⟨unhide HP3, unhide HO3⟩, xd2, okd2, rfl, rfl, ?_⟩
          rcases unhide HSD2 with ⟨h0, D2, h1, h2, h3, h4, h5⟩ | ⟨h0, h1, h2⟩
          · exact .inl ⟨h0, D2, h1, by omega, by omega, h3, h4, Cal.pass_days ha1 (unhide HPA) h5⟩
          · exact .inr ⟨h0, Cal.pass_days ha1 (unhide HPA) h2⟩
        case measure => omega
      · go_ret2
        exact ⟨⟨_, _, rfl, by omega, by omega, Cal.found_time ha1 (unhide HD4) (unhide HTT) (unhide HT2) (unhide HD3) hDb.1⟩, unhide HO2⟩
    · have HD4 := hide hD4
      clear hD4 HR
      go_wp2
      go_ret2
      exact ⟨⟨0, false, rfl, by omega, by omega, Cal.none_days ha1 (by have := unhide HEI; omega) (unhide HD4)⟩, unhide HOr⟩
end Go.Proofs.YtnnhnihgeheahaaGreatDoor
