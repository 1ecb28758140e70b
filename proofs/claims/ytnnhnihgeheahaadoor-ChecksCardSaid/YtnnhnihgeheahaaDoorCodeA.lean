/- The program's scanner: its leaves. -/
import Derived.Test.YtnnhnihgeheahaaDoorChecked
import Derived.Test.YtnnhnihgeheahaaDoorBase2
import Derived.BigRegion
set_option linter.unusedSimpArgs false
set_option linter.unusedVariables false
namespace Go.Proofs.YtnnhnihgeheahaaDoor
open Go.RowKit

/-- The scanner in block b: as the reader, but it never stands behind the text's end. -/
def HoldsC (w : World) (b : Nat) (T : TypeId) (s : ByteArray) (σ : Except Nat Nat) : Prop :=
  match σ with
  | .ok j => j ≤ s.size ∧ ∃ a : Nat, Blk w b (rdr s j false a) T
  | .error p => ∃ i : Nat, i ≤ s.size ∧ Blk w b (rdr s i true p) T
theorem HoldsC.only {w w' : World} {b : Nat} {T : TypeId} {s : ByteArray} {σ : Except Nat Nat} (h : HoldsC w b T s σ) {l : List Nat} (k : Only l w w') (hn : b ∉ l) : HoldsC w' b T s σ := by
  cases σ with
  | ok j => obtain ⟨hj, a, h⟩ := h; exact ⟨hj, a, h.only k hn⟩
  | error p => obtain ⟨i, hi, h⟩ := h; exact ⟨i, hi, h.only k hn⟩
theorem HoldsC.drewN {w : World} {b : Nat} {T : TypeId} {s : ByteArray} {σ : Except Nat Nat} (h : HoldsC w b T s σ) (n : Nat) : HoldsC (w.drewN n) b T s σ := h
theorem HoldsC.setOther {w : World} {b : Nat} {T : TypeId} {s : ByteArray} {σ : Except Nat Nat} (h : HoldsC w b T s σ) {p : Addr} (hp : p.block ≠ b) (u : Value) : HoldsC (w.setCell p u) b T s σ := by
  cases σ with
  | ok j => obtain ⟨hj, a, h⟩ := h; exact ⟨hj, a, h.setOther hp u⟩
  | error p => obtain ⟨i, hi, h⟩ := h; exact ⟨i, hi, h.setOther hp u⟩
theorem HoldsC.alloc {w : World} {b : Nat} {T : TypeId} {s : ByteArray} {σ : Except Nat Nat} (h : HoldsC w b T s σ) (o : Obj) : HoldsC (w.alloc o) b T s σ := by
  cases σ with
  | ok j => obtain ⟨hj, a, h⟩ := h; exact ⟨hj, a, h.alloc o⟩
  | error p => obtain ⟨i, hi, h⟩ := h; exact ⟨i, hi, h.alloc o⟩
theorem HoldsC.place {w : World} {b : Nat} {T : TypeId} {s : ByteArray} {σ : Except Nat Nat} (h : HoldsC w b T s σ) : ∃ i bad a, i ≤ s.size ∧ Blk w b (rdr s i bad a) T ∧ (∀ j, σ = .ok j → i = j ∧ bad = false) ∧ (∀ p, σ = .error p → bad = true ∧ a = p) := by
  cases σ with
  | ok j => obtain ⟨hj, a, h⟩ := h; exact ⟨_, _, _, hj, h, fun k hk => ⟨Except.ok.inj hk, rfl⟩, fun p hp => by cases hp⟩
  | error p => obtain ⟨i, hi, h⟩ := h; exact ⟨_, _, _, hi, h, fun k hk => (by cases hk), fun q hq => ⟨rfl, Except.error.inj hq⟩⟩
theorem HoldsC.lt {w : World} {b : Nat} {T : TypeId} {s : ByteArray} {σ : Except Nat Nat} (h : HoldsC w b T s σ) : b < w.heap.size := by
  obtain ⟨_, _, _, _, h, _⟩ := h.place; exact h.lt
/-- Back: what a block holds, as a state. -/
theorem HoldsC.mk {w : World} {b : Nat} {T : TypeId} {s : ByteArray} {i a : Nat} {bad : Bool} (hi : i ≤ s.size) (h : Blk w b (rdr s i bad a) T) : HoldsC w b T s (if bad then .error a else .ok i) := by
  cases bad
  · exact ⟨hi, a, h⟩
  · exact ⟨i, hi, h⟩

/-- What 'fail' leaves. -/
def failedC (s : ByteArray) (i : Nat) (bad : Bool) (a p : Nat) : Array Value := rdr s i true (if bad then a else p)

set_option maxHeartbeats 400000 in
theorem c_fail (b : Nat) (s : ByteArray) (i : Nat) (bad : Bool) (a p : Nat) (pi : Int) (hpi : pi = p) (T : TypeId) (w : World) (hb : Blk w b (rdr s i bad a) T) :
    Calls Tryd.prog 31 #[.pointer (some ⟨b, 0, none⟩), .int .i64 pi] w fun e w' => e = .returned (.tuple #[]) ∧ Blk w' b (failedC s i bad a p) T ∧ Only [b] w w' := by
  subst hpi
  have h2 := hb.cell 2
  have h3 := hb.cell 3
  have hf := hb.frozen
  have HB : Hid (Blk w b (rdr s i bad a) T) := hb
  simp [rdr] at h2 h3
  clear hb
  cases bad
  · go_enter Tryd.func31, Tryd.ntmps31
    go_wp2
    go_end0
    exact ⟨rfl, by simpa [rdr, failedC] using (HB.out.set 2 (.bool true)).set 3 (.int .i64 p), ((Only.refl _ _).setCell (by simp) _).setCell (by simp) _⟩
  · go_enter Tryd.func31, Tryd.ntmps31
    go_wp2
    go_end0
    exact ⟨rfl, by simpa [rdr, failedC] using HB.out, Only.refl _ _⟩

/-- Was a byte taken, and where it then stands. -/
def tookB (s : ByteArray) (c : Nat) (σ : Except Nat Nat) : Bool := match σ with
  | .ok j => decide (byteAt s j = c)
  | .error _ => false
def tookS (s : ByteArray) (c : Nat) (σ : Except Nat Nat) : Except Nat Nat := match σ with
  | .ok j => if byteAt s j = c then .ok (j + 1) else .ok j
  | .error p => .error p

set_option maxHeartbeats 400000 in
theorem c_took (b : Nat) (s : ByteArray) (σ : Except Nat Nat) (c : Nat) (ci : Int) (hci : ci = c) (T : TypeId) (w : World) (hb : HoldsC w b T s σ) (hs : s.size ≤ 281474976710656) (hc : 0 < c) :
    Calls Tryd.prog 27 #[.pointer (some ⟨b, 0, none⟩), .int .u8 ci] w fun e w' => e = .returned (.bool (tookB s c σ)) ∧ HoldsC w' b T s (tookS s c σ) ∧ Only [b] w w' := by
  subst hci
  cases σ with
  | error p =>
    obtain ⟨i, hi, h⟩ := hb
    have h2 := h.cell 2
    simp [rdr] at h2
    have HB := hide h
    clear h
    go_enter Tryd.func27, Tryd.ntmps27
    go_wp2
    go_quiet (fail)
    go_wp2
    go_ret
    exact ⟨rfl, ⟨i, hi, unhide HB⟩, (Only.refl _ _).drewN _⟩
  | ok j =>
    obtain ⟨hj, a, h⟩ := hb
    have h0 := h.cell 0
    have h1 := h.cell 1
    have h2 := h.cell 2
    have hf := h.frozen
    simp [rdr] at h0 h1 h2
    have HB := hide h
    clear h
    by_cases hlt : j < s.size
    · have hd : ((j : Int) == s.size) = false := by rw [beq_eq_false_iff_ne]; omega
      by_cases he : byteAt s j = c
      · have HE := hide he
        have hq : ((s[j].toNat : Int) != c) = false := by rw [byteAt_in hlt] at he; simp; omega
        clear he
        go_enter Tryd.func27, Tryd.ntmps27
        go_wp2
        go_quiet (fail)
        go_wp2
        go_ret
        refine ⟨ret_bool (by simp [tookB, unhide HE]), ?_, ((Only.refl _ _).drewN _).setCell (by simp) _⟩
        simp only [tookS, unhide HE, if_true]
        exact ⟨by omega, a, by simpa [rdr] using ((unhide HB).drewN nq).set 1 (.int .i64 ((j : Int) + 1))⟩
      · have HE := hide he
        have hq : ((s[j].toNat : Int) != c) = true := by rw [byteAt_in hlt] at he; rw [bne_iff_ne]; omega
        clear he
        go_enter Tryd.func27, Tryd.ntmps27
        go_wp2
        go_quiet (fail)
        go_wp2
        go_ret
        refine ⟨ret_bool (by simp [tookB, unhide HE]), ?_, (Only.refl _ _).drewN _⟩
        simp only [tookS, unhide HE, if_false]
        exact ⟨by omega, a, unhide HB⟩
    · have hd : ((j : Int) == s.size) = true := by rw [beq_iff_eq]; omega
      go_enter Tryd.func27, Tryd.ntmps27
      go_wp2
      go_quiet (fail)
      go_wp2
      go_ret
      have he : ¬ byteAt s j = c := by rw [byteAt_out (by omega)]; omega
      refine ⟨ret_bool (by simp [tookB, he]), ?_, (Only.refl _ _).drewN _⟩
      simp only [tookS, he, if_false]
      exact ⟨by omega, a, unhide HB⟩

set_option maxHeartbeats 400000 in
theorem c_need (b : Nat) (s : ByteArray) (σ : Except Nat Nat) (c : Nat) (ci : Int) (hci : ci = c) (T : TypeId) (w : World) (hb : HoldsC w b T s σ) (hs : s.size ≤ 281474976710656) (hc : 0 < c) :
    Calls Tryd.prog 21 #[.pointer (some ⟨b, 0, none⟩), .int .u8 ci] w fun e w' => e = .returned (.tuple #[]) ∧ HoldsC w' b T s (σ.bind (pEat s c)) ∧ Only [b] w w' := by
  subst hci
  have HB := hide hb
  clear hb
  rcases Bool.eq_false_or_eq_true (tookB s c σ) with ht | ht
  · have hfin : tookS s c σ = σ.bind (pEat s c) := by
      cases σ with
      | error p => simp [tookB] at ht
      | ok j => simp [tookB] at ht; simp [tookS, Except.bind, pEat, ht]
    have HF := hide hfin
    have HT := hide ht
    clear hfin ht
    go_enter Tryd.func21, Tryd.ntmps21
    go_wp2_with (go_at_call 27; refine (c_took b s σ c c rfl T _ (unhide HB) hs hc).mono ?_)
    rintro e w1 ⟨rfl, hb1, ho1⟩
    rw [unhide HT]
    go_wp2
    go_end0
    exact ⟨rfl, by rw [← unhide HF]; exact hb1, ho1⟩
  · have HT := hide ht
    clear ht
    go_enter Tryd.func21, Tryd.ntmps21
    go_wp2_with (go_at_call 27; refine (c_took b s σ c c rfl T _ (unhide HB) hs hc).mono ?_)
    rintro e w1 ⟨rfl, hb1, ho1⟩
    rw [unhide HT]
    obtain ⟨i, bad, a, hi, hblk, hok, herr⟩ := hb1.place
    have h1 := hblk.cell 1
    simp [rdr] at h1
    have HK := hide hblk
    have HO1 := hide ho1
    have hfin : ∀ w', Blk w' b (failedC s i bad a i) T → HoldsC w' b T s (σ.bind (pEat s c)) := by
      intro w' hk
      cases σ with
      | error p =>
        obtain ⟨rfl, rfl⟩ := herr p rfl
        exact ⟨i, hi, by simpa [failedC] using hk⟩
      | ok j =>
        have hne : ¬ byteAt s j = c := by simpa [tookB] using unhide HT
        obtain ⟨rfl, rfl⟩ := hok j (by simp [tookS, hne])
        simp only [Except.bind, pEat, hne, if_false]
        exact ⟨i, hi, by simpa [failedC] using hk⟩
    have HF := hide hfin
    clear hfin hok herr hblk hb1 ho1
    go_wp2_with (go_at_call 31; refine (c_fail b s i bad a i i rfl T _ (unhide HK)).mono ?_)
    rintro e w2 ⟨rfl, hk, ho2⟩
    go_wp2
    go_end0
    exact ⟨rfl, unhide HF _ hk, (unhide HO1).trans ho2⟩

set_option maxHeartbeats 400000 in
theorem c_needEnd (b : Nat) (s : ByteArray) (σ : Except Nat Nat) (T : TypeId) (w : World) (hb : HoldsC w b T s σ) (hs : s.size ≤ 281474976710656) :
    Calls Tryd.prog 23 #[.pointer (some ⟨b, 0, none⟩)] w fun e w' => e = .returned (.tuple #[]) ∧ HoldsC w' b T s (σ.bind fun j => if j < s.size then .error j else .ok j) ∧ Only [b] w w' := by
  obtain ⟨i, bad, a, hi, hblk, hok, herr⟩ := hb.place
  have h0 := hblk.cell 0
  have h1 := hblk.cell 1
  simp [rdr] at h0 h1
  have HK := hide hblk
  by_cases hlt : i < s.size
  · have hd : decide ((i : Int) < s.size) = true := by simp; omega
    have hfin : ∀ w', Blk w' b (failedC s i bad a i) T → HoldsC w' b T s (σ.bind fun j => if j < s.size then .error j else .ok j) := by
      intro w' hk
      cases σ with
      | error p =>
        obtain ⟨rfl, rfl⟩ := herr p rfl
        exact ⟨i, hi, by simpa [failedC] using hk⟩
      | ok j =>
        obtain ⟨rfl, rfl⟩ := hok j rfl
        simp only [Except.bind, hlt, if_true]
        exact ⟨i, hi, by simpa [failedC] using hk⟩
    have HF := hide hfin
    clear hfin hok herr hblk hb
    go_enter Tryd.func23, Tryd.ntmps23
    go_wp2
    go_quiet (fail)
    go_wp2_with (go_at_call 31; refine (c_fail b s i bad a i i rfl T _ ?_).mono ?_; · exact unhide HK)
    rintro e w2 ⟨rfl, hk, ho2⟩
    go_wp2
    go_end0
    exact ⟨rfl, unhide HF _ hk, ((Only.refl _ _).drewN _).trans ho2⟩
  · have hd : decide ((i : Int) < s.size) = false := by simp; omega
    have hfin : ∀ w', Blk w' b (rdr s i bad a) T → HoldsC w' b T s (σ.bind fun j => if j < s.size then .error j else .ok j) := by
      intro w' hk
      cases σ with
      | error p =>
        obtain ⟨rfl, rfl⟩ := herr p rfl
        exact ⟨i, hi, hk⟩
      | ok j =>
        obtain ⟨rfl, rfl⟩ := hok j rfl
        simp only [Except.bind, hlt, if_false]
        exact ⟨hi, a, hk⟩
    have HF := hide hfin
    clear hfin hok herr hblk hb
    go_enter Tryd.func23, Tryd.ntmps23
    go_wp2
    go_quiet (fail)
    go_wp2
    go_end0
    exact ⟨rfl, unhide HF _ (unhide HK), (Only.refl _ _).drewN _⟩
end Go.Proofs.YtnnhnihgeheahaaDoor
