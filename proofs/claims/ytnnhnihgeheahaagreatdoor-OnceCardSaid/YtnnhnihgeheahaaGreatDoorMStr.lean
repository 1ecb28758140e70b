/- ZonGood, Str, Fit, in one text. -/
import Derived.Test.YtnnhnihgeheahaaGreatDoorRefT
import Derived.Test.YtnnhnihgeheahaaGreatDoorBaseJ
import Derived.Test.YtnnhnihgeheahaaGreatDoorRefU
import Derived.Test.YtnnhnihgeheahaaGreatDoorBit
/- What a zone that is read keeps to. -/
set_option linter.unusedSimpArgs false
set_option linter.unusedVariables false
namespace Go.Proofs.YtnnhnihgeheahaaGreatDoor

theorem bind_ok {α β : Type} {x : Except Nat α} {f : α → Except Nat β} {b : β} (h : x.bind f = .ok b) : ∃ a, x = .ok a ∧ f a = .ok b := by
  cases x with
  | error q => cases h
  | ok a => exact ⟨a, rfl, h⟩
theorem pClock_ok {s : ByteArray} {lo hi p i : Nat} {x : Nat × Nat} (h : pClock s lo hi p i = .ok x) : lo ≤ x.2 ∧ x.2 ≤ hi := by
  unfold pClock at h
  obtain ⟨a, _, h⟩ := bind_ok h
  obtain ⟨j, _, h⟩ := bind_ok h
  obtain ⟨b, _, h⟩ := bind_ok h
  split at h
  · cases h
  · cases h
    simp only
    omega
theorem pRule_ok {s : ByteArray} {i : Nat} {x : Nat × Rul} (h : pRule s i = .ok x) : x.2.Good := by
  unfold pRule at h
  obtain ⟨m, hm, h⟩ := bind_ok h
  obtain ⟨_, _, h⟩ := bind_ok h
  obtain ⟨k, hk, h⟩ := bind_ok h
  obtain ⟨_, _, h⟩ := bind_ok h
  obtain ⟨d, hd, h⟩ := bind_ok h
  obtain ⟨_, _, h⟩ := bind_ok h
  obtain ⟨t, ht, h⟩ := bind_ok h
  cases h
  have h1 := pNum_ok hm
  have h2 := pNum_ok hk
  have h3 := pNum_ok hd
  have h4 := pClock_ok ht
  exact ⟨⟨h1.2.1, h1.2.2.1⟩, ⟨h2.2.1, h2.2.2.1⟩, h3.2.2.1, h4⟩
theorem pZone_good {s : ByteArray} {z : Zon} (h : pZone s = .ok z) : z.Good := by
  unfold pZone at h
  obtain ⟨o, ho, h⟩ := bind_ok h
  have hoff : -840 ≤ o.2 ∧ o.2 ≤ 840 := by
    unfold pOffset at ho
    split at ho
    · obtain ⟨x, hx, ho⟩ := bind_ok ho
      cases ho
      have := pClock_ok hx
      simp only
      omega
    · obtain ⟨_, _, ho⟩ := bind_ok ho
      obtain ⟨x, hx, ho⟩ := bind_ok ho
      cases ho
      have := pClock_ok hx
      simp only
      omega
  split at h
  · obtain ⟨y, hy, h⟩ := bind_ok h
    cases h
    unfold pRules at hy
    obtain ⟨_, _, hy⟩ := bind_ok hy
    obtain ⟨sh, hsh, hy⟩ := bind_ok hy
    obtain ⟨_, _, hy⟩ := bind_ok hy
    obtain ⟨a, ha, hy⟩ := bind_ok hy
    obtain ⟨_, _, hy⟩ := bind_ok hy
    obtain ⟨b, hb, hy⟩ := bind_ok hy
    split at hy
    · cases hy
    · split at hy
      · cases hy
      · cases hy
        exact ⟨hoff, (pNum_ok hsh).2.2.1, fun _ => ⟨pRule_ok ha, pRule_ok hb⟩⟩
  · cases h
    exact ⟨hoff, Nat.zero_le _, fun h => absurd rfl h⟩

/-- The fields that Locals hands to Check. -/
def stars : ByteArray := ⟨#[42, 32, 42, 32, 42, 32, 42, 32, 42]⟩
theorem stars_ok : ∃ F, pFields stars = .ok F := ⟨_, rfl⟩
theorem check_stars (z : ByteArray) : checkN z stars = if 100 < z.size then (1, 0) else match pZone z with
    | .error q => (2, q)
    | .ok _ => (0, 0) := by
  obtain ⟨F, hF⟩ := stars_ok
  unfold checkN
  have hs : ¬ 100 < stars.size := by decide
  by_cases h : 100 < z.size
  · rw [if_pos (.inl h), if_pos h]
  · rw [if_neg (by omega), if_neg h]
    cases pZone z with
    | error q => rfl
    | ok a => rw [hF]
end Go.Proofs.YtnnhnihgeheahaaGreatDoor

/- Plain: the clock's turns; stretches between them. -/
set_option linter.unusedSimpArgs false
set_option linter.unusedVariables false
namespace Go.Proofs.YtnnhnihgeheahaaGreatDoor
namespace Cal

/-- A zone whose rules have different months. -/
structure Fine (z : Zon) : Prop where
  good : z.Good
  months : z.shift ≠ 0 → z.beg.month ≠ z.fin.month

/-- The first minute of the n-th year behind 1960, by the standard clock. -/
def Y (n : Nat) : Int := ((yd n : Int) - 3653) * 1440
def tA (z : Zon) (n : Nat) : Int := ruleMin n z.beg
def tB (z : Zon) (n : Nat) : Int := ruleMin n z.fin - z.shift
def tP (z : Zon) (n : Nat) : Int := if tA z n ≤ tB z n then tA z n else tB z n
def tQ (z : Zon) (n : Nat) : Int := if tA z n ≤ tB z n then tB z n else tA z n
def north (z : Zon) : Bool := decide (z.beg.month < z.fin.month)

theorem ruleDay_in (n : Nat) (r : Rul) (hr : r.Good) : yd n + md (1960 + n) (r.month - 1) ≤ ruleDay n r ∧ ruleDay n r < yd n + md (1960 + n) r.month := by
  obtain ⟨⟨hm1, hm2⟩, ⟨hk1, hk2⟩, hd1, ⟨ht1, ht2⟩⟩ := hr
  have hL := ml_bd (1960 + n) r.month
  have h4 : late n r ≤ 34 := by unfold late; omega
  have e : md (1960 + n) r.month = md (1960 + n) (r.month - 1) + ml (1960 + n) r.month := by
    obtain ⟨k, hk⟩ : ∃ k, r.month = k + 1 := ⟨r.month - 1, by omega⟩
    rw [hk]; rfl
  unfold ruleDay first
  rw [e]
  split <;> omega
theorem ruleDay_year (n : Nat) (r : Rul) (hr : r.Good) : yd n ≤ ruleDay n r ∧ ruleDay n r + 1 ≤ yd (n + 1) := by
  have h := ruleDay_in n r hr
  have h2 := md_mono (1960 + n) hr.month.2
  rw [md_12] at h2
  have e : yd (n + 1) = yd n + yl (1960 + n) := rfl
  omega
theorem ruleDay_lt (n : Nat) (r q : Rul) (hr : r.Good) (hq : q.Good) (h : r.month < q.month) : ruleDay n r + 1 ≤ ruleDay n q := by
  have h1 := ruleDay_in n r hr
  have h2 := ruleDay_in n q hq
  have h3 := md_mono (1960 + n) (show r.month ≤ q.month - 1 by omega)
  omega

theorem turns_bd {z : Zon} (hz : Fine z) (h0 : z.shift ≠ 0) (n : Nat) : Y n ≤ tP z n ∧ tP z n + 121 ≤ tQ z n ∧ tQ z n + 121 ≤ Y (n + 1) ∧ (tA z n ≤ tB z n ↔ z.beg.month < z.fin.month) := by
  obtain ⟨hb, he⟩ := hz.good.rules h0
  have hs := hz.good.shift
  have hmn := hz.months h0
  have h1 := ruleDay_year n _ hb
  have h2 := ruleDay_year n _ he
  have t1 := hb.time
  have t2 := he.time
  unfold tP tQ tA tB ruleMin Y
  rcases Nat.lt_or_ge z.beg.month z.fin.month with h | h
  · have h3 := ruleDay_lt n _ _ hb he h
    rw [if_pos (by omega), if_pos (by omega)]
    refine ⟨by omega, by omega, by omega, iff_of_true (by omega) h⟩
  · have h3 := ruleDay_lt n _ _ he hb (by omega)
    rw [if_neg (by omega), if_neg (by omega)]
    refine ⟨by omega, by omega, by omega, iff_of_false (by omega) (by omega)⟩

theorem yr_of {n : Nat} {s : Int} (h1 : Y n ≤ s) (h2 : s < Y (n + 1)) : yr ((s + 5260320).toNat / 1440) = n := by
  unfold Y at h1 h2
  exact yr_eq ⟨by omega, by omega⟩

theorem summer_in {z : Zon} (hz : Fine z) (h0 : z.shift ≠ 0) {n : Nat} {s : Int} (h1 : Y n ≤ s) (h2 : s < Y (n + 1)) : summer z s = (decide (tP z n ≤ s ∧ s < tQ z n) == north z) := by
  obtain ⟨g1, g2, g3, g4⟩ := turns_bd hz h0 n
  unfold summer
  rw [if_neg h0, yr_of h1 h2]
  unfold summerAt north
  by_cases hm : z.beg.month < z.fin.month
  · have hab := g4.2 hm
    have e1 : tP z n = tA z n := by unfold tP; rw [if_pos hab]
    have e2 : tQ z n = tB z n := by unfold tQ; rw [if_pos hab]
    rw [if_pos hm, e1, e2, decide_eq_true hm]
    show (decide (tA z n ≤ s) && decide (s < tB z n)) = _
    by_cases a : tA z n ≤ s <;> by_cases b : s < tB z n <;> simp [a, b]
  · have hab : ¬ tA z n ≤ tB z n := fun h => hm (g4.1 h)
    have e1 : tP z n = tB z n := by unfold tP; rw [if_neg hab]
    have e2 : tQ z n = tA z n := by unfold tQ; rw [if_neg hab]
    rw [e1, e2] at g2
    rw [if_neg hm, e1, e2, decide_eq_false hm]
    show (decide (tA z n ≤ s) || decide (s < tB z n)) = _
    by_cases a : tA z n ≤ s <;> by_cases b : s < tB z n <;> simp [a, b] <;> omega

/-- The stretch of a minute s of the standard clock: from a on, up to b (left out). -/
structure Str (z : Zon) (s a b : Int) (su : Bool) : Prop where
  lo : a ≤ s
  hi : s < b
  same : ∀ u, a ≤ u → u < b → summer z u = su
  back : z.shift ≠ 0 → ∀ u, a - 121 ≤ u → u < a → summer z u = !su

theorem mid_in {z : Zon} (hz : Fine z) (h0 : z.shift ≠ 0) {n : Nat} {u : Int} (h1 : tP z n ≤ u) (h2 : u < tQ z n) : summer z u = north z := by
  obtain ⟨g1, g2, g3, g4⟩ := turns_bd hz h0 n
  rw [summer_in hz h0 (n := n) (by omega) (by omega), decide_eq_true ⟨h1, h2⟩]
  cases north z <;> rfl
theorem out_in {z : Zon} (hz : Fine z) (h0 : z.shift ≠ 0) {n : Nat} {u : Int} (h1 : tQ z n ≤ u) (h2 : u < tP z (n + 1)) : summer z u = !north z := by
  obtain ⟨g1, g2, g3, g4⟩ := turns_bd hz h0 n
  obtain ⟨k1, k2, k3, k4⟩ := turns_bd hz h0 (n + 1)
  by_cases h : u < Y (n + 1)
  · rw [summer_in hz h0 (n := n) (by omega) h, decide_eq_false (by omega)]
    cases north z <;> rfl
  · rw [summer_in hz h0 (n := n + 1) (by omega) (by omega), decide_eq_false (by omega)]
    cases north z <;> rfl

theorem str_mid {z : Zon} (hz : Fine z) (h0 : z.shift ≠ 0) {n : Nat} {s : Int} (hn : 1 ≤ n) (h1 : tP z n ≤ s) (h2 : s < tQ z n) : Str z s (tP z n) (tQ z n) (north z) := by
  obtain ⟨m, rfl⟩ : ∃ m, n = m + 1 := ⟨n - 1, by omega⟩
  obtain ⟨g1, g2, g3, g4⟩ := turns_bd hz h0 m
  obtain ⟨k1, k2, k3, k4⟩ := turns_bd hz h0 (m + 1)
  exact ⟨h1, h2, fun u hu hv => mid_in hz h0 hu hv, fun _ u hu hv => out_in hz h0 (n := m) (by omega) hv⟩
theorem str_out {z : Zon} (hz : Fine z) (h0 : z.shift ≠ 0) {n : Nat} {s : Int} (h1 : tQ z n ≤ s) (h2 : s < tP z (n + 1)) : Str z s (tQ z n) (tP z (n + 1)) (!north z) := by
  obtain ⟨g1, g2, g3, g4⟩ := turns_bd hz h0 n
  refine ⟨h1, h2, fun u hu hv => out_in hz h0 hu hv, fun _ u hu hv => ?_⟩
  rw [Bool.not_not]
  exact mid_in hz h0 (n := n) (by omega) hv
theorem str_none {z : Zon} (h0 : z.shift = 0) {s a b : Int} (h1 : a ≤ s) (h2 : s < b) : Str z s a b false :=
  ⟨h1, h2, fun u _ _ => by unfold summer; rw [if_pos h0], fun h => absurd h0 h⟩

theorem turn_bd {z : Zon} (hz : Fine z) (h0 : z.shift ≠ 0) (n : Nat) (hn : n ≤ 201) : (-6000000 ≤ tP z n ∧ tP z n ≤ 1000000000) ∧ (-6000000 ≤ tQ z n ∧ tQ z n ≤ 1000000000) := by
  obtain ⟨g1, g2, g3, g4⟩ := turns_bd hz h0 n
  have h1 := yd_le (n + 1)
  unfold Y at g1 g3
  omega
end Cal

theorem pZone_fine {s : ByteArray} {z : Zon} (h : pZone s = .ok z) : Cal.Fine z := by
  refine ⟨pZone_good h, fun h0 => ?_⟩
  unfold pZone at h
  obtain ⟨o, ho, h⟩ := bind_ok h
  split at h
  · obtain ⟨y, hy, h⟩ := bind_ok h
    cases h
    unfold pRules at hy
    obtain ⟨_, _, hy⟩ := bind_ok hy
    obtain ⟨sh, hsh, hy⟩ := bind_ok hy
    obtain ⟨_, _, hy⟩ := bind_ok hy
    obtain ⟨a, ha, hy⟩ := bind_ok hy
    obtain ⟨_, _, hy⟩ := bind_ok hy
    obtain ⟨b, hb, hy⟩ := bind_ok hy
    split at hy
    · cases hy
    · split at hy
      · cases hy
      · rename_i hne
        cases hy
        exact hne
  · cases h
    exact absurd rfl h0
end Go.Proofs.YtnnhnihgeheahaaGreatDoor

/- Plain: what fits, what runs; sets as bits. -/
set_option linter.unusedSimpArgs false
set_option linter.unusedVariables false
namespace Go.Proofs.YtnnhnihgeheahaaGreatDoor
namespace Cal

/-- A day's date: its year, month, day, counted from 0 (the year from 1960). -/
noncomputable def dt (D : Nat) : Nat × Nat × Nat := Classical.epsilon fun p => Is D p.1 p.2.1 p.2.2
theorem dt_eq {D n m k : Nat} (h : Is D n m k) : dt D = (n, m, k) := by
  have h2 := Classical.epsilon_spec (p := fun p : Nat × Nat × Nat => Is D p.1 p.2.1 p.2.2) ⟨(n, m, k), h⟩
  obtain ⟨a, b, c⟩ := Is.unique h2 h
  exact Prod.ext a (Prod.ext b c)
def dayOk (F : Fld) (m k D : Nat) : Bool := F.n.2 (m + 1) && (if F.d.1 = false ∧ F.w.1 = false then F.d.2 (k + 1) || F.w.2 ((D + 5) % 7) else F.d.2 (k + 1) && F.w.2 ((D + 5) % 7))
noncomputable def fitsDay (F : Fld) (D : Nat) : Bool := dayOk F (dt D).2.1 (dt D).2.2 D
theorem fitsDay_eq {F : Fld} {D n m k : Nat} (h : Is D n m k) : fitsDay F D = dayOk F m k D := by unfold fitsDay; rw [dt_eq h]
def fitsTime (F : Fld) (T : Nat) : Bool := F.m.2 (T % 60) && F.h.2 (T / 60)
noncomputable def fits (F : Fld) (c : Int) : Bool := fitsTime F ((c + 5260320).toNat % 1440) && fitsDay F ((c + 5260320).toNat / 1440)
def isSet (F : Fld) : Bool := !F.m.1 && !F.h.1
noncomputable def ahead (z : Zon) (s : Int) : Int := if summer z s then (z.shift : Int) else 0
/-- A job runs at a minute s of the standard clock. -/
def Runs (z : Zon) (F : Fld) (s : Int) : Prop :=
  (isSet F = false ∧ fits F (s + ahead z s) = true) ∨
  (isSet F = true ∧ ((summer z s = true ∧ summer z (s - 1) = false ∧ ∃ k, s ≤ k ∧ k < s + z.shift ∧ fits F k = true) ∨ (¬ (summer z s = false ∧ summer z (s - z.shift) = true) ∧ fits F (s + ahead z s) = true)))

/-- x is the first from one on, up to another one (left out), at which p; or there is none. -/
def First (p : Int → Prop) (a b x : Int) (ok : Bool) : Prop := (ok = true → a ≤ x ∧ x < b ∧ p x ∧ ∀ u, a ≤ u → u < x → ¬ p u) ∧ (ok = false → ∀ u, a ≤ u → u < b → ¬ p u)
theorem First.none {p : Int → Prop} {a b x : Int} (h : First p a b x false) : ∀ u, a ≤ u → u < b → ¬ p u := h.2 rfl
theorem First.of_none {p : Int → Prop} {a b x : Int} (h : ∀ u, a ≤ u → u < b → ¬ p u) : First p a b x false := ⟨fun e => (by cases e), fun _ => h⟩
theorem First.step {p : Int → Prop} {a b c x : Int} {ok : Bool} (h : ∀ u, a ≤ u → u < b → ¬ p u) (hab : a ≤ b) (k : First p b c x ok) : First p a c x ok := by
  refine ⟨fun e => ?_, fun e u h1 h2 => ?_⟩
  · obtain ⟨k1, k2, k3, k4⟩ := k.1 e
    refine ⟨by omega, k2, k3, fun u h1 h2 => ?_⟩
    by_cases hu : u < b
    · exact h u h1 hu
    · exact k4 u (by omega) h2
  · by_cases hu : u < b
    · exact h u h1 hu
    · exact k.2 e u (by omega) h2
theorem First.wide {p : Int → Prop} {a b c x : Int} (h : First p a b x true) (hbc : b ≤ c) : First p a c x true := by
  obtain ⟨k1, k2, k3, k4⟩ := h.1 rfl
  exact ⟨fun _ => ⟨k1, by omega, k3, k4⟩, fun e => by cases e⟩

theorem Str.ah {z : Zon} {s a b : Int} {su : Bool} (h : Str z s a b su) {u : Int} (h1 : a ≤ u) (h2 : u < b) : ahead z u = if su then (z.shift : Int) else 0 := by
  unfold ahead; rw [h.same u h1 h2]
/-- Runs within a stretch, but where it skips or shows twice. -/
theorem Str.plain {z : Zon} (hz : Fine z) {s a b : Int} {su : Bool} (h : Str z s a b su) (F : Fld) {u : Int} (h1 : a ≤ u) (h2 : u < b) (hc : isSet F = false ∨ (su = true ∧ a < u) ∨ (su = false ∧ a + z.shift ≤ u)) :
    Runs z F u ↔ fits F (u + if su then (z.shift : Int) else 0) = true := by
  have hah := h.ah h1 h2
  have hsu := h.same u h1 h2
  unfold Runs
  rw [hah, hsu]
  rcases hc with hc | hc | hc
  · rw [hc]; simp
  · cases hF : isSet F with
    | false => simp
    | true =>
      have h3 := h.same (u - 1) (by omega) (by omega)
      rw [h3, hc.1]
      simp
  · cases hF : isSet F with
    | false => simp
    | true =>
      have h3 := h.same (u - z.shift) (by omega) (by omega)
      rw [h3, hc.1]
      simp
theorem Str.twice {z : Zon} (hz : Fine z) {s a b : Int} (h : Str z s a b false) {F : Fld} (hF : isSet F = true) {u : Int} (h1 : a ≤ u) (h2 : u < b) (hu : u < a + z.shift) : ¬ Runs z F u := by
  have h0 : z.shift ≠ 0 := by omega
  have hs := hz.good.shift
  have hsu := h.same u h1 h2
  have h3 := h.back h0 (u - z.shift) (by omega) (by omega)
  unfold Runs
  rw [hF, hsu, h3]
  simp
theorem Str.begin {z : Zon} (hz : Fine z) {s a b : Int} (h : Str z s a b true) {F : Fld} (hF : isSet F = true) : Runs z F a ↔ (∃ k, a ≤ k ∧ k < a + z.shift ∧ fits F k = true) ∨ fits F (a + z.shift) = true := by
  have hlo := h.lo
  have hhi := h.hi
  have hsu := h.same a (by omega) (by omega)
  have h0 : z.shift ≠ 0 := by
    intro h0
    have : summer z a = false := by unfold summer; rw [if_pos h0]
    rw [this] at hsu; cases hsu
  have h3 := h.back h0 (a - 1) (by omega) (by omega)
  have hah : ahead z a = z.shift := by unfold ahead; rw [hsu]; rfl
  unfold Runs
  rw [hF, hsu, h3, hah]
  simp

/-- nextIn, where nothing is skipped or shown twice. -/
theorem in_plain {z : Zon} (hz : Fine z) {s a b : Int} {su : Bool} (h : Str z s a b su) (F : Fld) {f t x ah : Int} {ok : Bool} (hf : a ≤ f) (ht : t ≤ b) (hah : ah = if su then (z.shift : Int) else 0)
    (hc : isSet F = false ∨ (su = true ∧ a < f) ∨ (su = false ∧ a + z.shift ≤ f)) (hx : First (fun c => fits F c = true) (f + ah) (t + ah) x ok) : First (Runs z F) f t (x - ah) ok := by
  have key : ∀ u, f ≤ u → u < t → (Runs z F u ↔ fits F (u + ah) = true) := by
    intro u h1 h2
    rw [hah]
    exact h.plain hz F (by omega) (by omega) (by rcases hc with hc | hc | hc; · exact .inl hc
                                                 · exact .inr (.inl ⟨hc.1, by omega⟩)
                                                 · exact .inr (.inr ⟨hc.1, by omega⟩))
  refine ⟨fun e => ?_, fun e u h1 h2 => ?_⟩
  · obtain ⟨k1, k2, k3, k4⟩ := hx.1 e
    refine ⟨by omega, by omega, (key _ (by omega) (by omega)).2 (by rw [show x - ah + ah = x by omega]; exact k3), fun u h1 h2 hr => ?_⟩
    exact k4 (u + ah) (by omega) (by omega) ((key u h1 (by omega)).1 hr)
  · intro hr
    exact hx.2 e (u + ah) (by omega) (by omega) ((key u h1 h2).1 hr)
/-- Where summer begins, and nothing fits that is skipped. -/
theorem in_begin {z : Zon} (hz : Fine z) {s a b : Int} (h : Str z s a b true) {F : Fld} (hF : isSet F = true) {t x y : Int} {ok : Bool} (ht : t ≤ b) (hn : First (fun c => fits F c = true) a (a + z.shift) y false)
    (hx : First (fun c => fits F c = true) (a + z.shift) (t + z.shift) x ok) : First (Runs z F) a t (x - z.shift) ok := by
  have key : ∀ u, a ≤ u → u < t → (Runs z F u ↔ fits F (u + z.shift) = true) := by
    intro u h1 h2
    by_cases hu : a < u
    · have := h.plain hz F (by omega) (by omega) (.inr (.inl ⟨rfl, hu⟩))
      simpa using this
    · rw [show u = a by omega, h.begin hz hF]
      constructor
      · rintro (⟨k, k1, k2, k3⟩ | k)
        · exact absurd k3 (hn.none k k1 k2)
        · exact k
      · exact .inr
  refine ⟨fun e => ?_, fun e u h1 h2 => ?_⟩
  · obtain ⟨k1, k2, k3, k4⟩ := hx.1 e
    refine ⟨by omega, by omega, (key _ (by omega) (by omega)).2 (by rw [show x - z.shift + z.shift = x by omega]; exact k3), fun u h1 h2 hr => ?_⟩
    exact k4 (u + z.shift) (by omega) (by omega) ((key u h1 (by omega)).1 hr)
  · intro hr
    exact hx.2 e (u + z.shift) (by omega) (by omega) ((key u h1 h2).1 hr)
theorem in_skipped {z : Zon} (hz : Fine z) {s a b : Int} (h : Str z s a b true) {F : Fld} (hF : isSet F = true) {t y : Int} (ht : a < t) (hn : First (fun c => fits F c = true) a (a + z.shift) y true) : First (Runs z F) a t a true := by
  obtain ⟨k1, k2, k3, k4⟩ := hn.1 rfl
  exact ⟨fun _ => ⟨by omega, ht, (h.begin hz hF).2 (.inl ⟨y, k1, k2, k3⟩), fun u h1 h2 => by omega⟩, fun e => by cases e⟩
/-- Behind summer's end: what is shown twice is passed over. -/
theorem in_end {z : Zon} (hz : Fine z) {s a b : Int} (h : Str z s a b false) {F : Fld} (hF : isSet F = true) {f t x m : Int} {ok : Bool} (hf : a ≤ f) (ht : t ≤ b) (hm : m = if f ≤ a + z.shift then a + z.shift else f)
    (hx : First (fun c => fits F c = true) m t x ok) : First (Runs z F) f t x ok := by
  have hmf : f ≤ m ∧ a + z.shift ≤ m := by rw [hm]; split <;> omega
  by_cases hmt : m ≤ t
  · have h2 := in_plain hz h F (f := m) (t := t) (x := x) (ah := 0) (ok := ok) (by omega) ht rfl (.inr (.inr ⟨rfl, hmf.2⟩)) (by simpa using hx)
    rw [show x - 0 = x by omega] at h2
    refine First.step (fun u h1 h3 => ?_) hmf.1 h2
    refine h.twice hz hF (by omega) (by omega) ?_
    rw [hm] at h3
    split at h3 <;> omega
  · have hall : ∀ u, f ≤ u → u < t → ¬ Runs z F u := fun u h1 h3 => h.twice hz hF (by omega) (by omega) (by
      rw [hm] at hmt
      split at hmt <;> omega)
    cases ok with
    | false => exact First.of_none hall
    | true => obtain ⟨k1, k2, _⟩ := hx.1 rfl; omega

end Cal
end Go.Proofs.YtnnhnihgeheahaaGreatDoor
