/- The program's checkFields. -/
import Derived.Test.YtdepepggfoiefaaDoorCodeI
import Derived.Test.YtdepepggfoiefaaDoorBaseI
import Derived.Deep.Cut
import Derived.Laws.Rows
set_option linter.unusedSimpArgs false
set_option linter.unusedVariables false
namespace Go.Proofs.YtdepepggfoiefaaDoor
open Go.RowKit

theorem c_field' (b : Nat) (s : ByteArray) (σ : Except Nat Nat) (lo hi : Nat) (lo' hi' : Int) (e1 : lo' = lo) (e2 : hi' = hi) (T : TypeId) (w : World) (hb : HoldsC w b T s σ) (hs : s.size ≤ 281474976710656) (hE : Errs w) (hg1 : 1 ≠ b) (hg2 : 2 ≠ b) (hhi : hi ≤ 59) (hlo : lo ≤ 59) :
    Calls Tryd.prog 14 #[.pointer (some ⟨b, 0, none⟩), .agg #[.int .i64 lo', .int .i64 hi']] w (StepSaid b T s (posOf (σ.bind (pField s lo hi))) w) := by
  subst e1 e2; exact c_field b s σ lo hi T w hb hs hE hg1 hg2 hhi hlo

/-- The table of bounds. -/
def bndA : Array Value := #[.int .i64 0, .int .i64 59, .int .i64 0, .int .i64 23, .int .i64 1, .int .i64 31, .int .i64 1, .int .i64 12, .int .i64 0, .int .i64 6]
def Tab (w : World) : Prop := ∃ t fr, w.heap[0]? = some (.cells bndA t fr)
theorem Tab.only {w w' : World} (h : Tab w) {l : List Nat} (k : Only l w w') (h1 : 0 ∉ l) : Tab w' := by
  obtain ⟨t, fr, h⟩ := h
  exact ⟨t, fr, by rw [k.block _ (Array.getElem?_eq_some_iff.1 h).1 h1]; exact h⟩

def CheckFSaid (s : ByteArray) (w : World) (e : Ending) (w' : World) : Prop :=
  Below w.heap.size w w' ∧ ∃ (n : Int) (p : Nat), e = .returned (.tuple #[.int .i64 n, .int .i64 p]) ∧ (∀ F, pFields s = .ok F → n = 0 ∧ p = 0) ∧ (∀ q, pFields s = .error q → n = 3 ∧ p = q)

theorem fields_pos (s : ByteArray) (σ1 σ2 σ3 σ4 σ5 σ6 σ7 σ8 : Except Nat Nat)
    (e1 : σ1 = posOf ((Except.ok 0 : Except Nat Nat).bind (pField s 0 59))) (e2 : σ2 = σ1.bind (pEat s 32))
    (e3 : σ3 = posOf (σ2.bind (pField s 0 23))) (e4 : σ4 = σ3.bind (pEat s 32)) (e5 : σ5 = posOf (σ4.bind (pField s 1 31))) (e6 : σ6 = σ5.bind (pEat s 32))
    (e7 : σ7 = posOf (σ6.bind (pField s 1 12))) (e8 : σ8 = σ7.bind (pEat s 32)) :
    (∀ p, (posOf (σ8.bind (pField s 0 6))).bind (fun j => if j < s.size then .error j else .ok j) = (.error p : Except Nat Nat) → pFields s = .error p) ∧
    (∀ k, (posOf (σ8.bind (pField s 0 6))).bind (fun j => if j < s.size then .error j else .ok j) = (.ok k : Except Nat Nat) → ∃ F, pFields s = .ok F) := by
  have hx : ∀ (p : Except Nat (Nat × (Bool × (Nat → Bool)))), ∃ x, ∀ y, p = .ok y → x = y.2 := by
    intro p
    cases p with
    | error q => exact ⟨(false, fun _ => false), fun y hy => by cases hy⟩
    | ok y => exact ⟨y.2, fun z hz => by cases hz; rfl⟩
  obtain ⟨x1, v1⟩ := hx ((Except.ok 0 : Except Nat Nat).bind (pField s 0 59))
  obtain ⟨x2, v2⟩ := hx (σ2.bind (pField s 0 23))
  obtain ⟨x3, v3⟩ := hx (σ4.bind (pField s 1 31))
  obtain ⟨x4, v4⟩ := hx (σ6.bind (pField s 1 12))
  obtain ⟨x5, v5⟩ := hx (σ8.bind (pField s 0 6))
  rcases fields_cases s σ1 σ2 σ3 σ4 σ5 σ6 σ7 σ8 x1 x2 x3 x4 x5 e1 v1 e2 e3 v2 e4 e5 v3 e6 e7 v4 e8 v5 with ⟨q, g1, g2⟩ | ⟨k, g1, g2⟩
  · rw [g1]
    exact ⟨fun p hp => (by cases hp; exact g2), fun k hk => (by cases hk)⟩
  · rw [g1, g2]
    simp only [Except.bind]
    by_cases hlt : k < s.size
    · rw [if_pos hlt, if_pos hlt]
      exact ⟨fun p hp => (by cases hp; rfl), fun k hk => (by cases hk)⟩
    · rw [if_neg hlt, if_neg hlt]
      exact ⟨fun p hp => (by cases hp), fun k hk => ⟨_, rfl⟩⟩

set_option maxHeartbeats 2000000 in
theorem c_checkFields (s : ByteArray) (w : World) (hs : s.size ≤ 281474976710656) (hE : Errs w) (hT : Tab w) :
    Calls Tryd.prog 8 #[.string s] w (CheckFSaid s w) := by
  obtain ⟨⟨_, _, hg1⟩, ⟨_, _, hg2⟩⟩ := id hE
  have hg1 := cell_lt hg1
  have hg2 := cell_lt hg2
  simp only [] at hg1 hg2
  have hg3 : 0 < w.heap.size := by
    obtain ⟨t, fr, h⟩ := hT
    exact (Array.getElem?_eq_some_iff.1 h).1
  have hb0 : HoldsC (w.alloc (.cells #[.string s, .int .i64 0, .bool false, .int .i64 0] 50)) w.heap.size 50 s (.ok 0) := ⟨Nat.zero_le _, 0, Blk.new _ _ _⟩
  have ho0 : Only [] w (w.alloc (.cells #[.string s, .int .i64 0, .bool false, .int .i64 0] 50)) := (Only.refl _ _).alloc _
  have HB0 := hide hb0
  have HO0 := hide ho0
  have HE := hide hE
  have hT0 := hT.only ho0 (by simp)
  have HT0 := hide hT0
  clear hb0 ho0 hE hT hT0
  go_enter Tryd.func8, Tryd.ntmps8
  go_upto_region 2 with fail
  revert HB0 HO0 HT0
  generalize (w.alloc (.cells #[.string s, .int .i64 0, .bool false, .int .i64 0] 50)) = w0
  intro HB0 HO0 HT0
  obtain ⟨b, hb⟩ : ∃ b, b = w.heap.size := ⟨_, rfl⟩
  rw [← hb] at HB0
  rw [← hb]
  have hq1 : 1 ≠ b := by omega
  have hq2 : 2 ≠ b := by omega
  have hbw : w.heap.size ≤ b := by omega
  clear hb
  obtain ⟨tt, fr, htab⟩ := unhide HT0
  refine wp_region_lit ?_
  refine wpList_load_row rfl 56 _ rfl 0 rfl tt bndA fr _ htab Tryd.underlying56 rfl (by kernel_rfl) ?_
  simp only [Act.put, List.setIfInBounds_toArray, List.set_cons_succ, List.set_cons_zero]
  unfold bndA
  clear htab HT0
  have ix0 : ∀ w, (Instr.index 56 (.agg #[.int .i64 0, .int .i64 59, .int .i64 0, .int .i64 23, .int .i64 1, .int .i64 31, .int .i64 1, .int .i64 12, .int .i64 0, .int .i64 6]) (.int .i64 0)).run Tryd.prog w = .ok (.agg #[.int .i64 0, .int .i64 59]) w := fun _ => by kernel_rfl
  have ix1 : ∀ w, (Instr.index 56 (.agg #[.int .i64 0, .int .i64 59, .int .i64 0, .int .i64 23, .int .i64 1, .int .i64 31, .int .i64 1, .int .i64 12, .int .i64 0, .int .i64 6]) (.int .i64 1)).run Tryd.prog w = .ok (.agg #[.int .i64 0, .int .i64 23]) w := fun _ => by kernel_rfl
  have ix2 : ∀ w, (Instr.index 56 (.agg #[.int .i64 0, .int .i64 59, .int .i64 0, .int .i64 23, .int .i64 1, .int .i64 31, .int .i64 1, .int .i64 12, .int .i64 0, .int .i64 6]) (.int .i64 2)).run Tryd.prog w = .ok (.agg #[.int .i64 1, .int .i64 31]) w := fun _ => by kernel_rfl
  have ix3 : ∀ w, (Instr.index 56 (.agg #[.int .i64 0, .int .i64 59, .int .i64 0, .int .i64 23, .int .i64 1, .int .i64 31, .int .i64 1, .int .i64 12, .int .i64 0, .int .i64 6]) (.int .i64 3)).run Tryd.prog w = .ok (.agg #[.int .i64 1, .int .i64 12]) w := fun _ => by kernel_rfl
  have ix4 : ∀ w, (Instr.index 56 (.agg #[.int .i64 0, .int .i64 59, .int .i64 0, .int .i64 23, .int .i64 1, .int .i64 31, .int .i64 1, .int .i64 12, .int .i64 0, .int .i64 6]) (.int .i64 4)).run Tryd.prog w = .ok (.agg #[.int .i64 0, .int .i64 6]) w := fun _ => by kernel_rfl
  go_wp2_with fail
  refine wp_loop_rounds 6 ?_
  rw [rounds_succ]
  have hA := (unhide HB0).alloc (.cells #[.int .i64 0, .int .i64 59] 55)
  have hOA := (unhide HO0).alloc (.cells #[.int .i64 0, .int .i64 59] 55)
  have hUA : Blk (w0.alloc (.cells #[.int .i64 0, .int .i64 59] 55)) w0.heap.size #[.int .i64 0, .int .i64 59] 55 := Blk.new _ _ _
  have hlt0 := (unhide HB0).lt
  have HA := hide hA
  have HOA := hide hOA
  have HUA := hide hUA
  clear hA hOA hUA HB0 HO0
  go_wp2_with (go_at_call 14; refine (c_field' b s _ 0 59 0 59 rfl rfl 50 _ (unhide HA) hs ((unhide HE).only (unhide HOA) (by simp) (by simp)) hq1 hq2 (by decide) (by decide)).mono ?_)
  rintro e w1 ⟨rfl, hb1, ho1⟩
  have HB1 := hide hb1
  have HO1 := hide ((unhide HOA).step ho1 (by simpa using hbw))
  clear hb1 ho1 HA HOA HUA hlt0
  go_wp2_with fail
  rw [rounds_succ]
  have hA := (unhide HB1).alloc (.cells #[.int .i64 0, .int .i64 23] 55)
  have hOA := (unhide HO1).alloc (.cells #[.int .i64 0, .int .i64 23] 55)
  have hUA : Blk (w1.alloc (.cells #[.int .i64 0, .int .i64 23] 55)) w1.heap.size #[.int .i64 0, .int .i64 23] 55 := Blk.new _ _ _
  have hlt1 := (unhide HB1).lt
  have HA := hide hA
  have HOA := hide hOA
  have HUA := hide hUA
  clear hA hOA hUA HB1 HO1
  go_wp2_with (go_at_call 13; refine (c_need b s _ 32 32 rfl 50 _ (unhide HA) hs (by decide)).mono ?_)
  rintro e w2 ⟨rfl, hb2, ho2⟩
  have hu2 := (unhide HUA).only ho2 (by simp; omega)
  have HB2 := hide hb2
  have HO2 := hide ((unhide HOA).step ho2 (by simpa using hbw))
  have u0 := hu2.cell 0
  have u1 := hu2.cell 1
  simp at u0 u1
  clear hb2 ho2 hu2 HA HOA HUA
  go_wp2_with (go_at_call 14; refine (c_field' b s _ 0 23 0 23 rfl rfl 50 _ (unhide HB2) hs ((unhide HE).only (unhide HO2) (by simp) (by simp)) hq1 hq2 (by decide) (by decide)).mono ?_)
  rintro e w3 ⟨rfl, hb3, ho3⟩
  have HB3 := hide hb3
  have HO3 := hide ((unhide HO2).step ho3 (by simpa using hbw))
  clear hb3 ho3 HB2 HO2 u0 u1 hlt1
  go_wp2_with fail
  rw [rounds_succ]
  have hA := (unhide HB3).alloc (.cells #[.int .i64 1, .int .i64 31] 55)
  have hOA := (unhide HO3).alloc (.cells #[.int .i64 1, .int .i64 31] 55)
  have hUA : Blk (w3.alloc (.cells #[.int .i64 1, .int .i64 31] 55)) w3.heap.size #[.int .i64 1, .int .i64 31] 55 := Blk.new _ _ _
  have hlt3 := (unhide HB3).lt
  have HA := hide hA
  have HOA := hide hOA
  have HUA := hide hUA
  clear hA hOA hUA HB3 HO3
  go_wp2_with (go_at_call 13; refine (c_need b s _ 32 32 rfl 50 _ (unhide HA) hs (by decide)).mono ?_)
  rintro e w4 ⟨rfl, hb4, ho4⟩
  have hu4 := (unhide HUA).only ho4 (by simp; omega)
  have HB4 := hide hb4
  have HO4 := hide ((unhide HOA).step ho4 (by simpa using hbw))
  have u0 := hu4.cell 0
  have u1 := hu4.cell 1
  simp at u0 u1
  clear hb4 ho4 hu4 HA HOA HUA
  go_wp2_with (go_at_call 14; refine (c_field' b s _ 1 31 1 31 rfl rfl 50 _ (unhide HB4) hs ((unhide HE).only (unhide HO4) (by simp) (by simp)) hq1 hq2 (by decide) (by decide)).mono ?_)
  rintro e w5 ⟨rfl, hb5, ho5⟩
  have HB5 := hide hb5
  have HO5 := hide ((unhide HO4).step ho5 (by simpa using hbw))
  clear hb5 ho5 HB4 HO4 u0 u1 hlt3
  go_wp2_with fail
  rw [rounds_succ]
  have hA := (unhide HB5).alloc (.cells #[.int .i64 1, .int .i64 12] 55)
  have hOA := (unhide HO5).alloc (.cells #[.int .i64 1, .int .i64 12] 55)
  have hUA : Blk (w5.alloc (.cells #[.int .i64 1, .int .i64 12] 55)) w5.heap.size #[.int .i64 1, .int .i64 12] 55 := Blk.new _ _ _
  have hlt5 := (unhide HB5).lt
  have HA := hide hA
  have HOA := hide hOA
  have HUA := hide hUA
  clear hA hOA hUA HB5 HO5
  go_wp2_with (go_at_call 13; refine (c_need b s _ 32 32 rfl 50 _ (unhide HA) hs (by decide)).mono ?_)
  rintro e w6 ⟨rfl, hb6, ho6⟩
  have hu6 := (unhide HUA).only ho6 (by simp; omega)
  have HB6 := hide hb6
  have HO6 := hide ((unhide HOA).step ho6 (by simpa using hbw))
  have u0 := hu6.cell 0
  have u1 := hu6.cell 1
  simp at u0 u1
  clear hb6 ho6 hu6 HA HOA HUA
  go_wp2_with (go_at_call 14; refine (c_field' b s _ 1 12 1 12 rfl rfl 50 _ (unhide HB6) hs ((unhide HE).only (unhide HO6) (by simp) (by simp)) hq1 hq2 (by decide) (by decide)).mono ?_)
  rintro e w7 ⟨rfl, hb7, ho7⟩
  have HB7 := hide hb7
  have HO7 := hide ((unhide HO6).step ho7 (by simpa using hbw))
  clear hb7 ho7 HB6 HO6 u0 u1 hlt5
  go_wp2_with fail
  rw [rounds_succ]
  have hA := (unhide HB7).alloc (.cells #[.int .i64 0, .int .i64 6] 55)
  have hOA := (unhide HO7).alloc (.cells #[.int .i64 0, .int .i64 6] 55)
  have hUA : Blk (w7.alloc (.cells #[.int .i64 0, .int .i64 6] 55)) w7.heap.size #[.int .i64 0, .int .i64 6] 55 := Blk.new _ _ _
  have hlt7 := (unhide HB7).lt
  have HA := hide hA
  have HOA := hide hOA
  have HUA := hide hUA
  clear hA hOA hUA HB7 HO7
  go_wp2_with (go_at_call 13; refine (c_need b s _ 32 32 rfl 50 _ (unhide HA) hs (by decide)).mono ?_)
  rintro e w8 ⟨rfl, hb8, ho8⟩
  have hu8 := (unhide HUA).only ho8 (by simp; omega)
  have HB8 := hide hb8
  have HO8 := hide ((unhide HOA).step ho8 (by simpa using hbw))
  have u0 := hu8.cell 0
  have u1 := hu8.cell 1
  simp at u0 u1
  clear hb8 ho8 hu8 HA HOA HUA
  go_wp2_with (go_at_call 14; refine (c_field' b s _ 0 6 0 6 rfl rfl 50 _ (unhide HB8) hs ((unhide HE).only (unhide HO8) (by simp) (by simp)) hq1 hq2 (by decide) (by decide)).mono ?_)
  rintro e w9 ⟨rfl, hb9, ho9⟩
  have HB9 := hide hb9
  have HO9 := hide ((unhide HO8).step ho9 (by simpa using hbw))
  clear hb9 ho9 HB8 HO8 u0 u1 hlt7
  go_wp2_with fail
  rw [rounds_succ]
  go_wp2_with (go_at_call 15; refine (c_needEnd b s _ 50 _ (unhide HB9) hs).mono ?_)
  rintro e wz ⟨rfl, hbz, hoz⟩
  have hfp := fields_pos s _ _ _ _ _ _ _ _ rfl rfl rfl rfl rfl rfl rfl rfl
  obtain ⟨iz, badz, az, hiz, hblkz, hokz, herrz⟩ := hbz.place
  have hOz := (unhide HO9).step hoz (by simpa using hbw)
  have hfin : (badz = true → pFields s = .error az) ∧ (badz = false → ∃ F, pFields s = .ok F) := by
    refine ⟨fun h => ?_, fun h => ?_⟩
    · cases hc : (posOf _ : Except Nat Nat).bind (fun j => if j < s.size then .error j else .ok j) with
      | error p => rw [(herrz p hc).2]; exact hfp.1 p hc
      | ok k => have := (hokz k hc).2; rw [h] at this; cases this
    · cases hc : (posOf _ : Except Nat Nat).bind (fun j => if j < s.size then .error j else .ok j) with
      | error p => have := (herrz p hc).1; rw [h] at this; cases this
      | ok k => exact hfp.2 k hc
  have c2 := hblkz.cell 2
  have c3 := hblkz.cell 3
  simp [rdr] at c2 c3
  have HF := hide hfin
  have HOz := hide hOz
  clear hbz hoz hfp hblkz hokz herrz hfin hOz HB9 HO9
  cases badz
  · have hz := (unhide HF).2 rfl
    have HZ := hide hz
    clear hz HF
    go_wp2
    go_ret2
    obtain ⟨F, hF⟩ := unhide HZ
    refine ⟨Only.below (unhide HOz) (Nat.le_refl _) (by simp), 0, 0, rfl, fun F' h => ⟨rfl, rfl⟩, fun q hq => ?_⟩
    rw [hF] at hq; cases hq
  · have hz := (unhide HF).1 rfl
    have HZ := hide hz
    clear hz HF
    go_wp2
    go_quiet (fail)
    go_wp2
    go_ret2
    refine ⟨Only.below ((unhide HOz).drewN _) (Nat.le_refl _) (by simp), 3, az, rfl, fun F' h => ?_, fun q hq => ?_⟩
    · rw [unhide HZ] at h; cases h
    · rw [unhide HZ] at hq; cases hq; exact ⟨rfl, rfl⟩
end Go.Proofs.YtdepepggfoiefaaDoor
