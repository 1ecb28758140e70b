/- The reference's Clock, two. -/
import Derived.Test.YtnnhnihgeheahaaGreatDoorRefT
import Derived.Laws.BytesString
import Derived.Laws.Cells
set_option linter.unusedSimpArgs false
set_option linter.unusedVariables false
namespace Go.Proofs.YtnnhnihgeheahaaGreatDoor
open Go.RowKit

/-- What the clock shows, in minutes. -/
noncomputable def Cal.shown (z : Zon) (t : Int) : Int := t + z.offset + (if Cal.summer z (t + z.offset) then (z.shift : Int) else 0)

set_option maxRecDepth 4000 in
set_option maxHeartbeats 2000000 in
theorem ref_Clock (z : Zon) (t : Int) (w : World) (hz : z.Good) (ht1 : -3000000 ≤ t) (ht2 : t ≤ 80000000) :
    Calls Tryz.prog 45 #[zonV z, .int .i64 t] w fun e w' => e = .returned (.int .i64 (Cal.shown z t)) ∧ Only [] w w' := by
  obtain ⟨ho1, ho2⟩ := hz.offset
  have hs2 := hz.shift
  have HG := hide hz
  clear hz
  obtain ⟨S, hS⟩ : ∃ S, S = Cal.summer z (t + z.offset) := ⟨_, rfl⟩
  have HF : Hid (Cal.shown z t = t + z.offset + (if S then (z.shift : Int) else 0)) := by rw [hS]; rfl
  have HS := hide hS
  clear hS
  obtain ⟨off, sh, ⟨m1, k1, d1, t1⟩, ⟨m2, k2, d2, t2⟩⟩ := z
  simp only at *
  unfold zonV
  have hz0 : Blk (w.alloc (.cells #[.int .i64 off, .int .i64 sh, .int .i64 m1, .int .i64 k1, .int .i64 d1, .int .i64 t1, .int .i64 m2, .int .i64 k2, .int .i64 d2, .int .i64 t2] 32)) w.heap.size #[.int .i64 off, .int .i64 sh, .int .i64 m1, .int .i64 k1, .int .i64 d1, .int .i64 t1, .int .i64 m2, .int .i64 k2, .int .i64 d2, .int .i64 t2] 32 := Blk.new _ _ _
  have HZ0 := hide hz0
  have HO0 := hide ((Only.refl [] w).alloc (.cells #[.int .i64 off, .int .i64 sh, .int .i64 m1, .int .i64 k1, .int .i64 d1, .int .i64 t1, .int .i64 m2, .int .i64 k2, .int .i64 d2, .int .i64 t2] 32))
  clear hz0
  go_enter Tryz.func45, Tryz.ntmps45
  go_wp2_with (
    go_at_call 51
    refine (ref_Summer ⟨off, sh, ⟨m1, k1, d1, t1⟩, ⟨m2, k2, d2, t2⟩⟩ t _ (unhide HG) ht1 ht2).mono ?_
    rintro e w1 ⟨rfl, ho⟩
    rw [← unhide HS]
    have HZ1 := hide ((unhide HZ0).only ho (by simp))
    have HO1 := hide ((unhide HO0).trans ho)
    clear HZ0 HO0 ho HS HG
    have uf := (unhide HZ1).frozen
    have u0 := (unhide HZ1).cell 0
    have u1 := (unhide HZ1).cell 1
    simp at u0 u1
    cases S)
  all_goals
    go_ret
    refine ⟨ret_int ?_, unhide HO1⟩
    rw [unhide HF]
    simp

/-- Two digits. -/
def twoS (n : Nat) : ByteArray := ⟨#[UInt8.ofNat (48 + n / 10), UInt8.ofNat (48 + n % 10)]⟩

theorem run_conv2 (w : World) (x y : Int) : (convert 96 9 (.slice (some ⟨w.heap.size, 0, none⟩) 2 2)).run Tryz.prog (w.alloc (.cells #[.int .u8 x, .int .u8 y] 5))
    = .ok (.string ⟨#[UInt8.ofNat x.toNat, UInt8.ofNat y.toNat]⟩) (w.alloc (.cells #[.int .u8 x, .int .u8 y] 5)) := by
  rw [run_convert_bytes_string _ 96 9 5 _ _ _ Tryz.underlying96 Tryz.underlying5 Tryz.underlying9]
  have hb := Blk.new w #[.int .u8 x, .int .u8 y] 5
  have hl := run_loadCells_list (P := Tryz.prog) (w := w.alloc (.cells #[.int .u8 x, .int .u8 y] 5)) ⟨w.heap.size, 0, none⟩ [.int .u8 x, .int .u8 y] (fun j v hj => by
    have h := hb.cell (0 + j)
    rw [show (⟨w.heap.size, 0, none⟩ : Addr).add j = ⟨w.heap.size, 0 + j, none⟩ by (simp [Addr.add]; omega), h, ← hj]
    simp)
  rw [run_bytesToString _ _ 2 2 [x, y] hl]
  rfl
theorem run_conv1 (w : World) (x : Int) : (convert 96 9 (.slice (some ⟨w.heap.size, 0, none⟩) 1 1)).run Tryz.prog (w.alloc (.cells #[.int .u8 x] 5))
    = .ok (.string ⟨#[UInt8.ofNat x.toNat]⟩) (w.alloc (.cells #[.int .u8 x] 5)) := by
  rw [run_convert_bytes_string _ 96 9 5 _ _ _ Tryz.underlying96 Tryz.underlying5 Tryz.underlying9]
  have hb := Blk.new w #[.int .u8 x] 5
  have hl := run_loadCells_list (P := Tryz.prog) (w := w.alloc (.cells #[.int .u8 x] 5)) ⟨w.heap.size, 0, none⟩ [.int .u8 x] (fun j v hj => by
    have h := hb.cell (0 + j)
    rw [show (⟨w.heap.size, 0, none⟩ : Addr).add j = ⟨w.heap.size, 0 + j, none⟩ by (simp [Addr.add]; omega), h, ← hj]
    simp)
  rw [run_bytesToString _ _ 1 1 [x] hl]
  rfl

set_option maxRecDepth 4000 in
set_option maxHeartbeats 2000000 in
theorem ref_twoS (n : Nat) (x : Int) (e : x = n) (w : World) (hn : n ≤ 99) :
    Calls Tryz.prog 47 #[.int .i64 x] w fun e w' => e = .returned (.string (twoS n)) ∧ Only [] w w' := by
  subst e
  obtain ⟨q, hq⟩ : ∃ q, q = n / 10 := ⟨_, rfl⟩
  obtain ⟨r, hr⟩ : ∃ r, r = n % 10 := ⟨_, rfl⟩
  have hqi : (n : Int).tdiv 10 = q := by rw [Int.tdiv_eq_ediv_of_nonneg (by omega)]; omega
  have hri : (n : Int).tmod 10 = r := by rw [Int.tmod_eq_emod_of_nonneg (by omega)]; omega
  have hqi2 : (n : Int) / 10 = q := by omega
  have hri2 : (n : Int) % 10 = r := by omega
  have hq9 : q ≤ 9 := by omega
  have hr9 : r ≤ 9 := by omega
  have HQ := hide hq
  have HR := hide hr
  clear hq hr
  go_enter Tryz.func47, Tryz.ntmps47
  have hcv := run_conv2 w (48 + (q : Int)) (48 + (r : Int))
  go_wp2
  go_ret
  refine ⟨?_, (Only.refl _ _).alloc _⟩
  show Ending.returned (.string ⟨#[UInt8.ofNat (48 + q), UInt8.ofNat (48 + r)]⟩) = _
  rw [unhide HQ, unhide HR]
  rfl
end Go.Proofs.YtnnhnihgeheahaaGreatDoor
