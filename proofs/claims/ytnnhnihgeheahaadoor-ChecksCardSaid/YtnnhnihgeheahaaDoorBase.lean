/-
  PLAIN FACTS AND DEFINITIONS: the readers' state in memory, what a call keeps, the parser as plain functions. Imports nothing of the dump.
-/
import Derived.WalkKit
import Derived.WalkSpells
import Derived.Handy
import Derived.Deep.QuietTactic
import Derived.BigQuiet
set_option linter.unusedSimpArgs false
set_option linter.unusedVariables false
namespace Go.Proofs.YtnnhnihgeheahaaDoor
open Go.RowKit

/-- Of what was there nothing but the blocks listed has turned. -/
structure Only (l : List Nat) (w w' : World) : Prop where
  os : w'.os = w.os
  tape : w'.tape = w.tape
  output : w'.output = w.output
  size : w.heap.size ≤ w'.heap.size
  block : ∀ k, k < w.heap.size → k ∉ l → w'.heap[k]? = w.heap[k]?

theorem Only.refl (l : List Nat) (w : World) : Only l w w := ⟨rfl, rfl, rfl, Nat.le_refl _, fun _ _ _ => rfl⟩
theorem Only.trans {l : List Nat} {a b c : World} (h : Only l a b) (k : Only l b c) : Only l a c :=
  ⟨k.os.trans h.os, k.tape.trans h.tape, k.output.trans h.output, Nat.le_trans h.size k.size,
    fun i hi hn => (k.block i (Nat.lt_of_lt_of_le hi h.size) hn).trans (h.block i hi hn)⟩
theorem Only.mono {l m : List Nat} {w w' : World} (h : Only l w w') (hs : ∀ k, k ∈ l → k ∈ m) : Only m w w' :=
  ⟨h.os, h.tape, h.output, h.size, fun k hk hn => h.block k hk fun e => hn (hs k e)⟩
theorem Only.drewN {l : List Nat} {a w : World} (h : Only l a w) (n : Nat) : Only l a (w.drewN n) := ⟨h.os, h.tape, h.output, h.size, h.block⟩
theorem Only.drew {l : List Nat} {a w : World} (h : Only l a w) : Only l a w.drew := ⟨h.os, h.tape, h.output, h.size, h.block⟩
theorem Only.alloc {l : List Nat} {a w : World} (h : Only l a w) (o : Obj) : Only l a (w.alloc o) :=
  h.trans ⟨rfl, rfl, rfl, by simp, fun k hk _ => Below.heap_alloc _ _ _ hk⟩
theorem Only.setCell {l : List Nat} {a w : World} (h : Only l a w) {p : Addr} (hp : p.block ∈ l) (u : Value) : Only l a (w.setCell p u) :=
  h.trans ⟨rfl, rfl, rfl, by simp [World.setCell], fun k _ hn => Below.heap_setCell _ _ _ _ (fun e => hn (e ▸ hp))⟩
theorem Only.setNew {l : List Nat} {a w : World} (h : Only l a w) {p : Addr} (hp : a.heap.size ≤ p.block) (u : Value) : Only l a (w.setCell p u) :=
  ⟨h.os, h.tape, h.output, by simpa [World.setCell] using h.size, fun k hk hn => by rw [Below.heap_setCell _ _ _ _ (by omega)]; exact h.block k hk hn⟩
theorem Only.of_below {w w' : World} (l : List Nat) (h : Below w.heap.size w w') : Only l w w' := ⟨h.os, h.tape, h.output, h.size, fun k hk _ => h.block k hk⟩
theorem Only.below {l : List Nat} {w w' : World} {B : Nat} (h : Only l w w') (hB : B ≤ w.heap.size) (hl : ∀ k, k ∈ l → B ≤ k) : Below B w w' :=
  ⟨h.os, h.tape, h.output, h.size, fun k hk => h.block k (by omega) fun e => by have := hl k e; omega⟩
/-- A call in the middle, which turned blocks that were new behind the first world. -/
theorem Only.step {l m : List Nat} {a b c : World} (h : Only l a b) (k : Only m b c) (hm : ∀ i, i ∈ m → i ∈ l ∨ a.heap.size ≤ i) : Only l a c :=
  ⟨k.os.trans h.os, k.tape.trans h.tape, k.output.trans h.output, Nat.le_trans h.size k.size,
    fun i hi hn => (k.block i (Nat.lt_of_lt_of_le hi h.size) (fun e => by rcases hm i e with x | x; · exact hn x
                                                                          · omega)).trans (h.block i hi hn)⟩

/-- Block b holds these cells. -/
def Blk (w : World) (b : Nat) (c : Array Value) (T : TypeId) : Prop := w.heap[b]? = some (.cells c T)

theorem Blk.cell {w : World} {b : Nat} {c : Array Value} {T : TypeId} (h : Blk w b c T) (o : Nat) : w.cell? ⟨b, o, none⟩ = c[o]? := by
  unfold Blk at h; unfold World.cell?; simp [h]
theorem Blk.frozen {w : World} {b : Nat} {c : Array Value} {T : TypeId} (h : Blk w b c T) (o : Nat) : w.frozen? ⟨b, o, none⟩ = false := by
  unfold Blk at h; unfold World.frozen?; simp [h]
theorem Blk.lt {w : World} {b : Nat} {c : Array Value} {T : TypeId} (h : Blk w b c T) : b < w.heap.size := by
  unfold Blk at h; exact (Array.getElem?_eq_some_iff.1 h).1
theorem Blk.drewN {w : World} {b : Nat} {c : Array Value} {T : TypeId} (h : Blk w b c T) (n : Nat) : Blk (w.drewN n) b c T := h
theorem Blk.drew {w : World} {b : Nat} {c : Array Value} {T : TypeId} (h : Blk w b c T) : Blk w.drew b c T := h
theorem Blk.set {w : World} {b : Nat} {c : Array Value} {T : TypeId} (h : Blk w b c T) (o : Nat) (u : Value) : Blk (w.setCell ⟨b, o, none⟩ u) b (c.setIfInBounds o u) T := by
  unfold Blk at *; simp [World.setCell, Array.getElem?_modify, h]
theorem Blk.setOther {w : World} {b : Nat} {c : Array Value} {T : TypeId} (h : Blk w b c T) {p : Addr} (hp : p.block ≠ b) (u : Value) : Blk (w.setCell p u) b c T := by
  unfold Blk at *; rw [Below.heap_setCell _ _ _ _ (fun e => hp e.symm)]; exact h
theorem Blk.alloc {w : World} {b : Nat} {c : Array Value} {T : TypeId} (h : Blk w b c T) (o : Obj) : Blk (w.alloc o) b c T := by
  have := h.lt; unfold Blk at *; rw [Below.heap_alloc _ _ _ this]; exact h
theorem Blk.new (w : World) (c : Array Value) (T : TypeId) : Blk (w.alloc (.cells c T)) w.heap.size c T := by
  unfold Blk; show (w.heap.push _)[w.heap.size]? = _; simp
theorem Blk.only {w w' : World} {b : Nat} {c : Array Value} {T : TypeId} (h : Blk w b c T) {l : List Nat} (k : Only l w w') (hn : b ∉ l) : Blk w' b c T := by
  have hb := h.lt; unfold Blk at *; rw [k.block b hb hn]; exact h
theorem Blk.below {w w' : World} {b : Nat} {c : Array Value} {T : TypeId} {B : Nat} (h : Blk w b c T) (k : Below B w w') (hn : b < B) : Blk w' b c T := by
  unfold Blk at *; rw [k.block b hn]; exact h

/-- The byte of a text at a place; 0 beyond its end. -/
def byteAt (s : ByteArray) (i : Nat) : Nat := if h : i < s.size then s[i].toNat else 0
theorem byteAt_lt (s : ByteArray) (i : Nat) : byteAt s i < 256 := by
  unfold byteAt; split
  · exact UInt8.toNat_lt _
  · omega
theorem byteAt_in {s : ByteArray} {i : Nat} (h : i < s.size) : byteAt s i = s[i].toNat := by unfold byteAt; rw [dif_pos h]
theorem byteAt_out {s : ByteArray} {i : Nat} (h : s.size ≤ i) : byteAt s i = 0 := by unfold byteAt; rw [dif_neg (by omega)]

/-- The reader's block (both readers have the same four fields in the same order). -/
def rdr (s : ByteArray) (i : Nat) (bad : Bool) (a : Nat) : Array Value := #[.string s, .int .i64 i, .bool bad, .int .i64 a]

/-- What 'peek' answers. -/
def peekV (s : ByteArray) (i : Nat) (bad : Bool) : Nat := if bad then 0 else byteAt s i

/-- The reader in block b stands at a place of the text, or has failed at one. -/
def Holds (w : World) (b : Nat) (T : TypeId) (s : ByteArray) (σ : Except Nat Nat) : Prop :=
  match σ with
  | .ok j => j ≤ s.size + 1 ∧ ∃ a : Nat, Blk w b (rdr s j false a) T
  | .error p => ∃ i : Nat, i ≤ s.size + 1 ∧ Blk w b (rdr s i true p) T
theorem Holds.blk {w : World} {b : Nat} {T : TypeId} {s : ByteArray} {σ : Except Nat Nat} (h : Holds w b T s σ) : ∃ i bad a, i ≤ s.size + 1 ∧ Blk w b (rdr s i bad a) T := by
  cases σ with
  | ok j => obtain ⟨hj, a, h⟩ := h; exact ⟨_, _, _, hj, h⟩
  | error p => obtain ⟨i, hi, h⟩ := h; exact ⟨_, _, _, hi, h⟩
theorem Holds.only {w w' : World} {b : Nat} {T : TypeId} {s : ByteArray} {σ : Except Nat Nat} (h : Holds w b T s σ) {l : List Nat} (k : Only l w w') (hn : b ∉ l) : Holds w' b T s σ := by
  cases σ with
  | ok j => obtain ⟨hj, a, h⟩ := h; exact ⟨hj, a, h.only k hn⟩
  | error p => obtain ⟨i, hi, h⟩ := h; exact ⟨i, hi, h.only k hn⟩
theorem Holds.drewN {w : World} {b : Nat} {T : TypeId} {s : ByteArray} {σ : Except Nat Nat} (h : Holds w b T s σ) (n : Nat) : Holds (w.drewN n) b T s σ := h
theorem Holds.lt {w : World} {b : Nat} {T : TypeId} {s : ByteArray} {σ : Except Nat Nat} (h : Holds w b T s σ) : b < w.heap.size := by
  obtain ⟨_, _, _, _, h⟩ := h.blk; exact h.lt

/-- A byte that must stand there. -/
def pEat (s : ByteArray) (c i : Nat) : Except Nat Nat := if byteAt s i = c then .ok (i + 1) else .error i
def isDig (n : Nat) : Bool := decide (48 ≤ n) && decide (n ≤ 57)
/-- The digits from a place on. -/
def digs (s : ByteArray) (i : Nat) : List Nat := ((s.data.toList.drop i).map (·.toNat)).takeWhile isDig
def val (l : List Nat) : Nat := l.foldl (fun n d => 10 * n + (d - 48)) 0
def pNum (s : ByteArray) (lo hi i : Nat) : Except Nat (Nat × Nat) :=
  if digs s i = [] ∨ (1 < (digs s i).length ∧ byteAt s i = 48) ∨ val (digs s i) < lo ∨ hi < val (digs s i) then .error i else .ok (i + (digs s i).length, val (digs s i))
def pTwo (s : ByteArray) (i : Nat) : Except Nat (Nat × Nat) :=
  if isDig (byteAt s i) = false then .error i else if isDig (byteAt s (i + 1)) = false then .error (i + 1) else .ok (i + 2, 10 * (byteAt s i - 48) + (byteAt s (i + 1) - 48))
def pClock (s : ByteArray) (lo hi p i : Nat) : Except Nat (Nat × Nat) :=
  (pTwo s i).bind fun x => (pEat s 58 x.1).bind fun j => (pTwo s j).bind fun y =>
    if 59 < y.2 ∨ 60 * x.2 + y.2 < lo ∨ hi < 60 * x.2 + y.2 then .error p else .ok (y.1, 60 * x.2 + y.2)
structure Rul where
  month : Nat
  week : Nat
  day : Nat
  time : Nat
def pRule (s : ByteArray) (i : Nat) : Except Nat (Nat × Rul) :=
  (pNum s 1 12 i).bind fun m => (pEat s 46 m.1).bind fun j => (pNum s 1 5 j).bind fun k => (pEat s 46 k.1).bind fun j => (pNum s 0 6 j).bind fun d =>
    (pEat s 64 d.1).bind fun j => (pClock s 120 1319 j j).bind fun t => .ok (t.1, ⟨m.2, k.2, d.2, t.2⟩)
structure Zon where
  offset : Int
  shift : Nat
  beg : Rul
  fin : Rul
def Rul.zero : Rul := ⟨0, 0, 0, 0⟩
def pRules (s : ByteArray) (off : Int) (i : Nat) : Except Nat (Nat × Zon) :=
  (pEat s 32 i).bind fun i => (pNum s 1 120 i).bind fun sh => (pEat s 32 sh.1).bind fun i => (pRule s i).bind fun a => (pEat s 32 a.1).bind fun i => (pRule s i).bind fun b =>
    if b.1 < s.size then .error b.1 else if a.2.month = b.2.month then .error i else .ok (b.1, ⟨off, sh.2, a.2, b.2⟩)
def pOffset (s : ByteArray) : Except Nat (Nat × Int) :=
  if byteAt s 0 = 45 then (pClock s 0 840 0 1).bind fun x => .ok (x.1, -(x.2 : Int)) else (pEat s 43 0).bind fun i => (pClock s 0 840 0 i).bind fun x => .ok (x.1, (x.2 : Int))
def pZone (s : ByteArray) : Except Nat Zon :=
  (pOffset s).bind fun o => if o.1 < s.size then (pRules s o.2 o.1).bind fun z => .ok z.2 else .ok ⟨o.2, 0, .zero, .zero⟩

/-- Where a parser stands that has answered. -/
def posOf {α : Type} (p : Except Nat (Nat × α)) : Except Nat Nat := p.bind fun x => .ok x.1
/-- The place that the reader's block tells (for a loop's measure). -/
def posIn (w : World) (b : Nat) : Nat := match w.cell? ⟨b, 1, none⟩ with
  | some (.int _ q) => q.toNat
  | _ => 0
theorem posIn_of {w : World} {b : Nat} {s : ByteArray} {i : Nat} {bad : Bool} {a : Nat} {T : TypeId} (h : Blk w b (rdr s i bad a) T) : posIn w b = i := by
  have := h.cell 1
  simp [rdr] at this
  simp [posIn, this]

theorem digs_step {s : ByteArray} {i : Nat} (h : i < s.size) : digs s i = if isDig (byteAt s i) then byteAt s i :: digs s (i + 1) else [] := by
  unfold digs
  rw [List.drop_eq_getElem_cons (by simpa using h), List.map_cons, List.takeWhile_cons, byteAt_in h]
  rfl
theorem digs_end {s : ByteArray} {i : Nat} (h : s.size ≤ i) : digs s i = [] := by
  unfold digs; rw [List.drop_eq_nil_of_le (by simpa using h)]; rfl
theorem isDig_zero : isDig 0 = false := rfl
theorem digs_cons {s : ByteArray} {i : Nat} (h : isDig (byteAt s i) = true) : digs s i = byteAt s i :: digs s (i + 1) := by
  rcases Nat.lt_or_ge i s.size with h1 | h1
  · rw [digs_step h1, if_pos h]
  · rw [byteAt_out h1, isDig_zero] at h; cases h
theorem digs_nil {s : ByteArray} {i : Nat} (h : isDig (byteAt s i) = false) : digs s i = [] := by
  rcases Nat.lt_or_ge i s.size with h1 | h1
  · rw [digs_step h1, if_neg (by simp [h])]
  · exact digs_end h1
theorem digs_len {s : ByteArray} {i : Nat} (h : i ≤ s.size) : i + (digs s i).length ≤ s.size := by
  have h1 := (List.takeWhile_sublist (l := (s.data.toList.drop i).map (·.toNat)) isDig).length_le
  rw [List.length_map, List.length_drop] at h1
  unfold digs
  have : s.data.toList.length = s.size := by simp
  omega
/-- The k-th digit: it is one while k is short of their number. -/
theorem digs_at {s : ByteArray} (k : Nat) : ∀ {i : Nat}, k ≤ (digs s i).length → (isDig (byteAt s (i + k)) = true ↔ k < (digs s i).length) ∧ (k < (digs s i).length → (digs s i)[k]? = some (byteAt s (i + k))) := by
  induction k with
  | zero =>
    intro i _
    cases h : isDig (byteAt s i) with
    | true => rw [digs_cons h]; simp [h]
    | false => rw [digs_nil h]; simp [h]
  | succ k ih =>
    intro i hk
    cases h : isDig (byteAt s i) with
    | true =>
      rw [digs_cons h] at hk ⊢
      have := ih (i := i + 1) (by simpa using hk)
      rw [show i + (k + 1) = i + 1 + k by omega]
      simpa using this
    | false => rw [digs_nil h] at hk; simp at hk
theorem val_snoc (l : List Nat) (d : Nat) : val (l ++ [d]) = 10 * val l + (d - 48) := by simp [val]
theorem digs_dig {s : ByteArray} {i d : Nat} (h : d ∈ digs s i) : 48 ≤ d ∧ d ≤ 57 := by
  have h1 := List.all_takeWhile (l := (s.data.toList.drop i).map (·.toNat)) (p := isDig)
  have := List.all_eq_true.1 h1 d h
  simpa [isDig] using this
theorem val_foldl (l : List Nat) : ∀ n, l.foldl (fun n d => 10 * n + (d - 48)) n = 10 ^ l.length * n + val l := by
  induction l with
  | nil => intro n; simp [val]
  | cons d l ih =>
    intro n
    rw [List.foldl_cons, ih, List.length_cons]
    have : val (d :: l) = 10 ^ l.length * (d - 48) + val l := by
      show (d :: l).foldl _ 0 = _
      rw [List.foldl_cons, ih]; simp
    rw [this, Nat.pow_succ, Nat.mul_add]
    have : 10 ^ l.length * (10 * n) = 10 ^ l.length * 10 * n := by rw [Nat.mul_assoc]
    omega
theorem val_cons (d : Nat) (l : List Nat) : val (d :: l) = 10 ^ l.length * (d - 48) + val l := by
  show (d :: l).foldl _ 0 = _
  rw [List.foldl_cons, val_foldl]; simp
theorem val_lt (l : List Nat) (h : ∀ d, d ∈ l → d ≤ 57) : val l < 10 ^ l.length := by
  induction l with
  | nil => simp [val]
  | cons d l ih =>
    rw [val_cons, List.length_cons, Nat.pow_succ]
    have h1 := ih fun d hd => h d (List.mem_cons_of_mem _ hd)
    have h2 := h d List.mem_cons_self
    have h3 : 10 ^ l.length * (d - 48) ≤ 10 ^ l.length * 9 := Nat.mul_le_mul_left _ (by omega)
    omega
/-- Without a needless zero a number of more digits is greater. -/
theorem val_ge (d : Nat) (l : List Nat) (h : 49 ≤ d) : 10 ^ l.length ≤ val (d :: l) := by
  rw [val_cons]
  have : 10 ^ l.length * 1 ≤ 10 ^ l.length * (d - 48) := Nat.mul_le_mul_left _ (by omega)
  omega
/-- The reference's own test, over the first six digits, is the parser's. -/
theorem num_test {s : ByteArray} {i lo hi m : Nat} (hm : (m = 2 ∧ hi ≤ 99) ∨ (m = 3 ∧ hi ≤ 999)) (hne : digs s i ≠ []) :
    (m < (digs s i).length ∨ (byteAt s i = 48 ∧ 1 < (digs s i).length) ∨ val ((digs s i).take 6) < lo ∨ hi < val ((digs s i).take 6)) ↔ (digs s i = [] ∨ (1 < (digs s i).length ∧ byteAt s i = 48) ∨ val (digs s i) < lo ∨ hi < val (digs s i)) := by
  have hd : isDig (byteAt s i) = true := by
    cases h : isDig (byteAt s i) with
    | true => rfl
    | false => exact absurd (digs_nil h) hne
  have hb : 48 ≤ byteAt s i ∧ byteAt s i ≤ 57 := by simpa [isDig] using hd
  by_cases h6 : (digs s i).length ≤ 6
  · rw [List.take_of_length_le h6]
    constructor
    · rintro (h | h | h | h)
      · by_cases h48 : byteAt s i = 48
        · exact .inr (.inl ⟨by omega, h48⟩)
        · refine .inr (.inr (.inr ?_))
          rw [digs_cons hd] at h ⊢
          have h2 := val_ge (byteAt s i) (digs s (i + 1)) (by omega)
          simp only [List.length_cons] at h
          have h3 : 10 ^ m ≤ 10 ^ (digs s (i + 1)).length := Nat.pow_le_pow_right (by omega) (by omega)
          rcases hm with ⟨rfl, hm⟩ | ⟨rfl, hm⟩ <;> omega
      · exact .inr (.inl ⟨h.2, h.1⟩)
      · exact .inr (.inr (.inl h))
      · exact .inr (.inr (.inr h))
    · rintro (h | h | h | h)
      · exact absurd h hne
      · exact .inr (.inl ⟨h.2, h.1⟩)
      · exact .inr (.inr (.inl h))
      · exact .inr (.inr (.inr h))
  · have hl : m < (digs s i).length := by omega
    refine iff_of_true (.inl hl) ?_
    by_cases h48 : byteAt s i = 48
    · exact .inr (.inl ⟨by omega, h48⟩)
    · refine .inr (.inr (.inr ?_))
      rw [digs_cons hd] at hl ⊢
      have h2 := val_ge (byteAt s i) (digs s (i + 1)) (by omega)
      simp only [List.length_cons] at hl
      have h3 : 10 ^ m ≤ 10 ^ (digs s (i + 1)).length := Nat.pow_le_pow_right (by omega) (by omega)
      rcases hm with ⟨rfl, hm⟩ | ⟨rfl, hm⟩ <;> omega
theorem val_take6 (s : ByteArray) (i k : Nat) : val ((digs s i).take (min k 6)) ≤ 999999 := by
  have h1 := val_lt ((digs s i).take (min k 6)) fun d hd => (digs_dig (List.mem_of_mem_take hd)).2
  have h2 : 10 ^ ((digs s i).take (min k 6)).length ≤ 10 ^ 6 := Nat.pow_le_pow_right (by omega) (by simp; omega)
  omega

theorem clock_cases (s : ByteArray) (σ : Except Nat Nat) (lo hi p h m : Nat) (hv1 : ∀ x, σ.bind (pTwo s) = .ok x → h = x.2)
    (hv3 : ∀ x, ((posOf (σ.bind (pTwo s))).bind (pEat s 58)).bind (pTwo s) = .ok x → m = x.2) :
    (∃ q, posOf (((posOf (σ.bind (pTwo s))).bind (pEat s 58)).bind (pTwo s)) = .error q ∧ σ.bind (pClock s lo hi p) = .error q) ∨
    (∃ k, posOf (((posOf (σ.bind (pTwo s))).bind (pEat s 58)).bind (pTwo s)) = .ok k ∧ σ.bind (pClock s lo hi p) = if 59 < m ∨ 60 * h + m < lo ∨ hi < 60 * h + m then .error p else .ok (k, 60 * h + m)) := by
  cases σ with
  | error q => exact .inl ⟨q, rfl, rfl⟩
  | ok i =>
    simp only [Except.bind, posOf, pClock] at *
    cases h1 : pTwo s i with
    | error q => exact .inl ⟨q, rfl, rfl⟩
    | ok x =>
      have e1 := hv1 x h1
      simp only [h1] at hv3 ⊢
      cases h2 : pEat s 58 x.1 with
      | error q => exact .inl ⟨q, rfl, rfl⟩
      | ok j =>
        simp only [h2] at hv3 ⊢
        cases h3 : pTwo s j with
        | error q => exact .inl ⟨q, rfl, rfl⟩
        | ok y =>
          have e3 := hv3 y h3
          subst e1 e3
          exact .inr ⟨y.1, rfl, rfl⟩

theorem hide {p : Prop} (h : p) : Hid p := h
theorem unhide {p : Prop} (h : Hid p) : p := h
theorem ret_int {k : IntKind} {a b : Int} (h : a = b) : Ending.returned (.int k a) = .returned (.int k b) := by rw [h]
theorem ret_bool {a b : Bool} (h : a = b) : Ending.returned (.bool a) = .returned (.bool b) := by rw [h]

theorem num_step (v d : Nat) (hv : v ≤ 999999) (h1 : 48 ≤ d) (h2 : d ≤ 57) : (Value.int .i64 (wrap64 (wrap64 (10 * (v : Int) + wrap64 (d : Int)) - 48))) = Value.int .i64 ((10 * v + (d - 48) : Nat) : Int) := by
  have e1 : wrap64 (d : Int) = d := IntWalk.wrap64_in _ (by omega)
  have e2 : wrap64 (10 * (v : Int) + (d : Int)) = 10 * v + d := IntWalk.wrap64_in _ (by omega)
  have e3 : wrap64 (10 * (v : Int) + (d : Int) - 48) = 10 * v + d - 48 := IntWalk.wrap64_in _ (by omega)
  rw [e1, e2, e3]
  congr 1
  omega

end Go.Proofs.YtnnhnihgeheahaaDoor
