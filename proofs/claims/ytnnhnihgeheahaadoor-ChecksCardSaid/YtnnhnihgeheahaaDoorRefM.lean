/- The reference's ParseFields. -/
import Derived.Test.YtnnhnihgeheahaaDoorRefL
import Derived.Test.YtnnhnihgeheahaaDoorBaseI
import Derived.Deep.RegionHeld
set_option linter.unusedSimpArgs false
set_option linter.unusedVariables false
namespace Go.Proofs.YtnnhnihgeheahaaDoor
open Go.RowKit

def fld0 : Array Value := fldA set0 set0 set0 set0 set0
theorem fld0_size : fld0.size = 305 := fldA_size set0_size set0_size set0_size set0_size set0_size
theorem fld0_one : fld0.all (·.oneCell') = true := fldV_one ⟨(false, fun _ => false), (false, fun _ => false), (false, fun _ => false), (false, fun _ => false), (false, fun _ => false)⟩
theorem wpList_alloc_fld {ops : Array Oper} {rest : List Oper} {o : Oper} {a : Act} {w : World} {Q : Exit → Act → World → Prop} (hg : o.guard = none) (ho : o.op = .alloc 51)
    (h : wpList Tryd.prog ops Q rest (a.put o.dst (.pointer (some ⟨w.heap.size, 0, none⟩))) (w.alloc (.cells fld0 51))) : wpList Tryd.prog ops Q (o :: rest) a w := by
  have hrun : ∀ (ρ : Operand → Value) (d : Option Tmp) (t : TypeId) (p : String) (af : Array Edge), (execOp ρ { dst := d, op := .alloc 51, type := t, pos := p, after := af, guard := none }).run Tryd.prog w = .ok (.value (.pointer (some ⟨w.heap.size, 0, none⟩))) (w.alloc (.cells fld0 51)) := fun _ _ _ _ _ => by kernel_rfl
  obtain ⟨d, op, t, p, af, g⟩ := o
  cases hg; cases ho
  exact Great.wpList_allocTo rfl _ rfl _ _ (hrun _ _ _ _ _) h
theorem wpList_build_fld {ops : Array Oper} {rest : List Oper} {o : Oper} {a : Act} {w : World} {Q : Exit → Act → World → Prop} (hg : o.guard = none) (ho : o.op = .build 51 #[])
    (h : wpList Tryd.prog ops Q rest (a.put o.dst (.agg fld0)) w) : wpList Tryd.prog ops Q (o :: rest) a w := by
  have hrun : ∀ (ρ : Operand → Value) (d : Option Tmp) (t : TypeId) (p : String) (af : Array Edge), (execOp ρ { dst := d, op := .build 51 #[], type := t, pos := p, after := af, guard := none }).run Tryd.prog w = .ok (.value (.agg fld0)) w := fun _ _ _ _ _ => by kernel_rfl
  obtain ⟨d, op, t, p, af, g⟩ := o
  cases hg; cases ho
  exact Great.wpList_readTo rfl _ rfl _ (hrun _ _ _ _ _) h

theorem results_fields (tmps : Array Value) (w : World) (br : Nat) (C : Array Value) {u v : Value} (h2 : tmps.getD 2 undef = .pointer (some ⟨br, 0, none⟩)) (h3 : tmps.getD 3 undef = u) (h4 : tmps.getD 4 undef = v)
    (hr : Blk w br C 51) (hs : C.size = 305) : (results Tryd.f9 tmps).run Tryd.prog w = .ok (.tuple #[.agg C, u, v]) w := by
  have h2' : tmps[2]?.getD undef = .pointer (some ⟨br, 0, none⟩) := by simpa using h2
  have h3' : tmps[3]?.getD undef = u := by simpa using h3
  have h4' : tmps[4]?.getD undef = v := by simpa using h4
  have hl := run_loadVar_row (P := Tryd.prog) w br 51 51 C (0, 0) _ hr Tryd.underlying51 rfl (by rw [hs]; kernel_rfl)
  simp [results, Tryd.results9, h2', h3', h4', asAddr, hl]

theorem yieldsIf_load_row {P : Program} {ops : Array Oper} {S : World → Prop} {op : Oper} {a : Act} (hw : Region.wanted op (yielded ops a.tmps) = true) (ty : TypeId) (x : Operand) (ho : op.op = .load ty x)
    (g : Nat) (hx : a.eval x = .pointer (some ⟨g, 0, none⟩)) (t : TypeId) (cs : Array Value) (fr : Nat × Nat) (d : TypeDesc) (hS : ∀ w, S w → w.heap[g]? = some (.cells cs t fr))
    (hu : P.underlying ty = some d) (hd : (match d with | .struct _ | .array _ _ => true | _ => false) = true) (hi : (P.info? ty).map (·.size) = some cs.size) : YieldsIf P ops S op (.agg cs) a :=
  .inl ⟨hw, fun w hw' => by
    unfold execOp
    simp only [ho, hx, Instr.loadAt, Instr.sureAddr, Sem.run_bind, Sem.run_pure, Result.andThen_ok, run_loadVar_row w g t ty cs fr d (hS w hw') hu hd hi]⟩

def FieldsSaid (s : ByteArray) (w : World) (e : Ending) (w' : World) : Prop :=
  ∃ (F : Fld) (ok : Bool) (p : Nat), e = .returned (.tuple #[.agg (fldV F), .bool ok, .int .i64 p]) ∧ Below w.heap.size w w' ∧ (∀ F', pFields s = .ok F' → ok = true ∧ F = F') ∧ (∀ q, pFields s = .error q → ok = false ∧ p = q)

set_option maxRecDepth 8000 in
set_option maxHeartbeats 40000000 in
theorem ref_ParseFields (s : ByteArray) (w : World) (hs : s.size ≤ 281474976710656) :
    Calls Tryd.prog 9 #[.string s] w (FieldsSaid s w) := by
  have hz00 : Blk (((w.alloc (.cells fld0 51)).alloc (.cells #[.string s, .int .i64 0, .bool false, .int .i64 0] 60)).alloc (.cells fld0 51)) (w.heap.size + 1 + 1) fld0 51 := by
    have := Blk.new ((w.alloc (.cells fld0 51)).alloc (.cells #[.string s, .int .i64 0, .bool false, .int .i64 0] 60)) fld0 51
    rw [World.size_alloc, World.size_alloc] at this; exact this
  have hz0 : Blk ((((w.alloc (.cells fld0 51)).alloc (.cells #[.string s, .int .i64 0, .bool false, .int .i64 0] 60)).alloc (.cells fld0 51)).setRow (w.heap.size + 1 + 1) fld0) (w.heap.size + 1 + 1) fld0 51 := hz00.setRow _
  have hr0 : Blk ((((w.alloc (.cells fld0 51)).alloc (.cells #[.string s, .int .i64 0, .bool false, .int .i64 0] 60)).alloc (.cells fld0 51)).setRow (w.heap.size + 1 + 1) fld0) w.heap.size fld0 51 := (((Blk.new w fld0 51).alloc _).alloc _).setRowOther (by omega) _
  have hb00 : Blk (((w.alloc (.cells fld0 51)).alloc (.cells #[.string s, .int .i64 0, .bool false, .int .i64 0] 60)).alloc (.cells fld0 51)) (w.heap.size + 1) (rdr s 0 false 0) 60 := by
    have := (Blk.new (w.alloc (.cells fld0 51)) #[.string s, .int .i64 0, .bool false, .int .i64 0] 60).alloc (.cells fld0 51)
    rw [World.size_alloc] at this; exact this
  have hb0 : Holds ((((w.alloc (.cells fld0 51)).alloc (.cells #[.string s, .int .i64 0, .bool false, .int .i64 0] 60)).alloc (.cells fld0 51)).setRow (w.heap.size + 1 + 1) fld0) (w.heap.size + 1) 60 s (.ok 0) := ⟨by omega, 0, hb00.setRowOther (by omega) _⟩
  have ho0 : Only [] w ((((w.alloc (.cells fld0 51)).alloc (.cells #[.string s, .int .i64 0, .bool false, .int .i64 0] 60)).alloc (.cells fld0 51)).setRow (w.heap.size + 1 + 1) fld0) := Only.setRowNew ((((Only.refl _ _).alloc _).alloc _).alloc _) (by omega) _
  have HZ00 := hide hz00
  have HZ0 := hide hz0
  have HR0 := hide hr0
  have HB0 := hide hb0
  have HO0 := hide ho0
  clear hz00 hz0 hr0 hb00 hb0 ho0
  go_enter Tryd.func9, Tryd.ntmps9
  go_upto_region 1 with (refine wpList_alloc_fld rfl rfl ?_; simp only [World.size_alloc, Act.put, List.setIfInBounds_toArray, List.set_cons_succ, List.set_cons_zero])
  go_upto_region 2 with fail
  refine wp_region_lit ?_
  refine wpList_build_fld rfl rfl ?_
  simp only [Act.put, List.setIfInBounds_toArray, List.set_cons_succ, List.set_cons_zero]
  refine wpList_alloc_fld rfl rfl ?_
  simp only [World.size_alloc, Act.put, List.setIfInBounds_toArray, List.set_cons_succ, List.set_cons_zero]
  refine wpList_store_row rfl 51 _ _ rfl (w.heap.size + 1 + 1) fld0 rfl rfl 51 fld0 (unhide HZ00) (by rw [fld0_size]; kernel_rfl) rfl fld0_one ?_
  simp only [Act.put, List.setIfInBounds_toArray, List.set_cons_succ, List.set_cons_zero]
  revert HZ0 HR0 HB0 HO0
  generalize ((((w.alloc (.cells fld0 51)).alloc (.cells #[.string s, .int .i64 0, .bool false, .int .i64 0] 60)).alloc (.cells fld0 51)).setRow (w.heap.size + 1 + 1) fld0) = w0
  intro HZ0 HR0 HB0 HO0
  clear HZ00
  obtain ⟨bz, hbz⟩ : ∃ bz, bz = w.heap.size + 1 + 1 := ⟨_, rfl⟩
  obtain ⟨b1, hb1⟩ : ∃ b1, b1 = w.heap.size + 1 := ⟨_, rfl⟩
  obtain ⟨br, hbr⟩ : ∃ br, br = w.heap.size := ⟨_, rfl⟩
  rw [← hbz] at HZ0
  rw [← hb1] at HB0
  rw [← hbr] at HR0
  rw [← hbz, ← hb1, ← hbr]
  have hf1 : w.heap.size ≤ bz := by omega
  have hf2 : w.heap.size ≤ b1 := by omega
  have hf3 : w.heap.size ≤ br := by omega
  have hf4 : bz ≠ b1 := by omega
  have hf5 : br ≠ b1 := by omega
  have hf6 : bz ≠ br := by omega
  clear hbz hb1 hbr
  go_wp2_with (go_at_call 18; refine (ref_field b1 s _ 0 59 0 59 rfl rfl 60 _ (unhide HB0) hs (by decide) (by decide)).mono ?_)
  rintro e w1 ⟨h0, st0, rfl, hb1, ho1, hv1⟩
  have HZ1 := hide ((unhide HZ0).only ho1 (by simpa using hf4))
  have HR1 := hide ((unhide HR0).only ho1 (by simpa using hf5))
  have HO1 := hide ((unhide HO0).step ho1 (by simpa using hf2))
  have HB1 := hide hb1
  have HV1 := hide hv1
  clear hb1 ho1 HZ0 HR0 HO0 HB0 hv1
  have hZ1 : Blk (w1.setCells bz 0 (setA h0 st0).toList) bz (fldA (setA h0 st0) set0 set0 set0 set0) 51 := by
    have := Blk.setCells (w := w1) (o := 0) (setA h0 st0).toList (unhide HZ1)
    have e := fldA_put 0 (by decide) (S := (setA h0 st0)) set0_size set0_size set0_size set0_size set0_size (setA_size _ _)
    simp only [Nat.reduceMul, Nat.reduceEqDiff, if_true, if_false] at e
    rw [fld0, e] at this
    exact this
  have hR1 : Blk (w1.setCells bz 0 (setA h0 st0).toList) br fld0 51 := Blk.setCellsOther (fun e => hf6 e.symm) _ (unhide HR1)
  have hB1 := (unhide HB1).setCellsOther (b := bz) (fun e => hf4 e.symm) 0 (setA h0 st0).toList
  have hO1 : Only [] w (w1.setCells bz 0 (setA h0 st0).toList) := Only.setCellsNew hf1 _ (unhide HO1)
  have hth : w1.there bz 0 (setA h0 st0).size := by
    have := (unhide HZ1).there 0 61 (by rw [fld0_size]; decide)
    rw [setA_size]; exact this
  have HTH := hide hth
  clear HZ1 HR1 HB1 HO1 hth
  have HZ1 := hide hZ1
  have HR1 := hide hR1
  have HB1 := hide hB1
  have HO1 := hide hO1
  clear hZ1 hR1 hB1 hO1
  go_upto_region 4 with (refine wpList_store_mid rfl 49 _ _ rfl bz 0 (setA h0 st0) rfl rfl (unhide HTH) (by rw [setA_size]; kernel_rfl) (setA_one _ _) ?_; simp only [Act.put, List.setIfInBounds_toArray, List.set_cons_succ, List.set_cons_zero])
  revert HZ1 HR1 HB1 HO1
  generalize (w1.setCells bz 0 (setA h0 st0).toList) = v1
  intro HZ1 HR1 HB1 HO1
  clear HTH
  go_wp2_with (go_at_call 15; refine (ref_eat' b1 s _ 32 32 rfl 60 _ (unhide HB1) hs (by decide)).mono ?_)
  rintro e w2 ⟨rfl, hb2, ho2⟩
  have HZ2 := hide ((unhide HZ1).only ho2 (by simpa using hf4))
  have HR2 := hide ((unhide HR1).only ho2 (by simpa using hf5))
  have HO2 := hide ((unhide HO1).step ho2 (by simpa using hf2))
  have HB2 := hide hb2
  clear hb2 ho2 HZ1 HR1 HO1 HB1
  go_wp2_with (go_at_call 18; refine (ref_field b1 s _ 0 23 0 23 rfl rfl 60 _ (unhide HB2) hs (by decide) (by decide)).mono ?_)
  rintro e w3 ⟨h1, st1, rfl, hb3, ho3, hv3⟩
  have HZ3 := hide ((unhide HZ2).only ho3 (by simpa using hf4))
  have HR3 := hide ((unhide HR2).only ho3 (by simpa using hf5))
  have HO3 := hide ((unhide HO2).step ho3 (by simpa using hf2))
  have HB3 := hide hb3
  have HV3 := hide hv3
  clear hb3 ho3 HZ2 HR2 HO2 HB2 hv3
  have hZ3 : Blk (w3.setCells bz 61 (setA h1 st1).toList) bz (fldA (setA h0 st0) (setA h1 st1) set0 set0 set0) 51 := by
    have := Blk.setCells (w := w3) (o := 61) (setA h1 st1).toList (unhide HZ3)
    have e := fldA_put 1 (by decide) (S := (setA h1 st1)) (setA_size h0 st0) set0_size set0_size set0_size set0_size (setA_size _ _)
    simp only [Nat.reduceMul, Nat.reduceEqDiff, if_true, if_false] at e
    rw [e] at this
    exact this
  have hR3 : Blk (w3.setCells bz 61 (setA h1 st1).toList) br fld0 51 := Blk.setCellsOther (fun e => hf6 e.symm) _ (unhide HR3)
  have hB3 := (unhide HB3).setCellsOther (b := bz) (fun e => hf4 e.symm) 61 (setA h1 st1).toList
  have hO3 : Only [] w (w3.setCells bz 61 (setA h1 st1).toList) := Only.setCellsNew hf1 _ (unhide HO3)
  have hth : w3.there bz 61 (setA h1 st1).size := by
    have := (unhide HZ3).there 61 61 (by rw [fldA_size (setA_size h0 st0) set0_size set0_size set0_size set0_size]; decide)
    rw [setA_size]; exact this
  have HTH := hide hth
  clear HZ3 HR3 HB3 HO3 hth
  have HZ3 := hide hZ3
  have HR3 := hide hR3
  have HB3 := hide hB3
  have HO3 := hide hO3
  clear hZ3 hR3 hB3 hO3
  go_upto_region 6 with (refine wpList_store_mid rfl 49 _ _ rfl bz 61 (setA h1 st1) rfl rfl (unhide HTH) (by rw [setA_size]; kernel_rfl) (setA_one _ _) ?_; simp only [Act.put, List.setIfInBounds_toArray, List.set_cons_succ, List.set_cons_zero])
  revert HZ3 HR3 HB3 HO3
  generalize (w3.setCells bz 61 (setA h1 st1).toList) = v3
  intro HZ3 HR3 HB3 HO3
  clear HTH
  go_wp2_with (go_at_call 15; refine (ref_eat' b1 s _ 32 32 rfl 60 _ (unhide HB3) hs (by decide)).mono ?_)
  rintro e w4 ⟨rfl, hb4, ho4⟩
  have HZ4 := hide ((unhide HZ3).only ho4 (by simpa using hf4))
  have HR4 := hide ((unhide HR3).only ho4 (by simpa using hf5))
  have HO4 := hide ((unhide HO3).step ho4 (by simpa using hf2))
  have HB4 := hide hb4
  clear hb4 ho4 HZ3 HR3 HO3 HB3
  go_wp2_with (go_at_call 18; refine (ref_field b1 s _ 1 31 1 31 rfl rfl 60 _ (unhide HB4) hs (by decide) (by decide)).mono ?_)
  rintro e w5 ⟨h2, st2, rfl, hb5, ho5, hv5⟩
  have HZ5 := hide ((unhide HZ4).only ho5 (by simpa using hf4))
  have HR5 := hide ((unhide HR4).only ho5 (by simpa using hf5))
  have HO5 := hide ((unhide HO4).step ho5 (by simpa using hf2))
  have HB5 := hide hb5
  have HV5 := hide hv5
  clear hb5 ho5 HZ4 HR4 HO4 HB4 hv5
  have hZ5 : Blk (w5.setCells bz 122 (setA h2 st2).toList) bz (fldA (setA h0 st0) (setA h1 st1) (setA h2 st2) set0 set0) 51 := by
    have := Blk.setCells (w := w5) (o := 122) (setA h2 st2).toList (unhide HZ5)
    have e := fldA_put 2 (by decide) (S := (setA h2 st2)) (setA_size h0 st0) (setA_size h1 st1) set0_size set0_size set0_size (setA_size _ _)
    simp only [Nat.reduceMul, Nat.reduceEqDiff, if_true, if_false] at e
    rw [e] at this
    exact this
  have hR5 : Blk (w5.setCells bz 122 (setA h2 st2).toList) br fld0 51 := Blk.setCellsOther (fun e => hf6 e.symm) _ (unhide HR5)
  have hB5 := (unhide HB5).setCellsOther (b := bz) (fun e => hf4 e.symm) 122 (setA h2 st2).toList
  have hO5 : Only [] w (w5.setCells bz 122 (setA h2 st2).toList) := Only.setCellsNew hf1 _ (unhide HO5)
  have hth : w5.there bz 122 (setA h2 st2).size := by
    have := (unhide HZ5).there 122 61 (by rw [fldA_size (setA_size h0 st0) (setA_size h1 st1) set0_size set0_size set0_size]; decide)
    rw [setA_size]; exact this
  have HTH := hide hth
  clear HZ5 HR5 HB5 HO5 hth
  have HZ5 := hide hZ5
  have HR5 := hide hR5
  have HB5 := hide hB5
  have HO5 := hide hO5
  clear hZ5 hR5 hB5 hO5
  go_upto_region 8 with (refine wpList_store_mid rfl 49 _ _ rfl bz 122 (setA h2 st2) rfl rfl (unhide HTH) (by rw [setA_size]; kernel_rfl) (setA_one _ _) ?_; simp only [Act.put, List.setIfInBounds_toArray, List.set_cons_succ, List.set_cons_zero])
  revert HZ5 HR5 HB5 HO5
  generalize (w5.setCells bz 122 (setA h2 st2).toList) = v5
  intro HZ5 HR5 HB5 HO5
  clear HTH
  go_wp2_with (go_at_call 15; refine (ref_eat' b1 s _ 32 32 rfl 60 _ (unhide HB5) hs (by decide)).mono ?_)
  rintro e w6 ⟨rfl, hb6, ho6⟩
  have HZ6 := hide ((unhide HZ5).only ho6 (by simpa using hf4))
  have HR6 := hide ((unhide HR5).only ho6 (by simpa using hf5))
  have HO6 := hide ((unhide HO5).step ho6 (by simpa using hf2))
  have HB6 := hide hb6
  clear hb6 ho6 HZ5 HR5 HO5 HB5
  go_wp2_with (go_at_call 18; refine (ref_field b1 s _ 1 12 1 12 rfl rfl 60 _ (unhide HB6) hs (by decide) (by decide)).mono ?_)
  rintro e w7 ⟨h3, st3, rfl, hb7, ho7, hv7⟩
  have HZ7 := hide ((unhide HZ6).only ho7 (by simpa using hf4))
  have HR7 := hide ((unhide HR6).only ho7 (by simpa using hf5))
  have HO7 := hide ((unhide HO6).step ho7 (by simpa using hf2))
  have HB7 := hide hb7
  have HV7 := hide hv7
  clear hb7 ho7 HZ6 HR6 HO6 HB6 hv7
  have hZ7 : Blk (w7.setCells bz 183 (setA h3 st3).toList) bz (fldA (setA h0 st0) (setA h1 st1) (setA h2 st2) (setA h3 st3) set0) 51 := by
    have := Blk.setCells (w := w7) (o := 183) (setA h3 st3).toList (unhide HZ7)
    have e := fldA_put 3 (by decide) (S := (setA h3 st3)) (setA_size h0 st0) (setA_size h1 st1) (setA_size h2 st2) set0_size set0_size (setA_size _ _)
    simp only [Nat.reduceMul, Nat.reduceEqDiff, if_true, if_false] at e
    rw [e] at this
    exact this
  have hR7 : Blk (w7.setCells bz 183 (setA h3 st3).toList) br fld0 51 := Blk.setCellsOther (fun e => hf6 e.symm) _ (unhide HR7)
  have hB7 := (unhide HB7).setCellsOther (b := bz) (fun e => hf4 e.symm) 183 (setA h3 st3).toList
  have hO7 : Only [] w (w7.setCells bz 183 (setA h3 st3).toList) := Only.setCellsNew hf1 _ (unhide HO7)
  have hth : w7.there bz 183 (setA h3 st3).size := by
    have := (unhide HZ7).there 183 61 (by rw [fldA_size (setA_size h0 st0) (setA_size h1 st1) (setA_size h2 st2) set0_size set0_size]; decide)
    rw [setA_size]; exact this
  have HTH := hide hth
  clear HZ7 HR7 HB7 HO7 hth
  have HZ7 := hide hZ7
  have HR7 := hide hR7
  have HB7 := hide hB7
  have HO7 := hide hO7
  clear hZ7 hR7 hB7 hO7
  go_upto_region 10 with (refine wpList_store_mid rfl 49 _ _ rfl bz 183 (setA h3 st3) rfl rfl (unhide HTH) (by rw [setA_size]; kernel_rfl) (setA_one _ _) ?_; simp only [Act.put, List.setIfInBounds_toArray, List.set_cons_succ, List.set_cons_zero])
  revert HZ7 HR7 HB7 HO7
  generalize (w7.setCells bz 183 (setA h3 st3).toList) = v7
  intro HZ7 HR7 HB7 HO7
  clear HTH
  go_wp2_with (go_at_call 15; refine (ref_eat' b1 s _ 32 32 rfl 60 _ (unhide HB7) hs (by decide)).mono ?_)
  rintro e w8 ⟨rfl, hb8, ho8⟩
  have HZ8 := hide ((unhide HZ7).only ho8 (by simpa using hf4))
  have HR8 := hide ((unhide HR7).only ho8 (by simpa using hf5))
  have HO8 := hide ((unhide HO7).step ho8 (by simpa using hf2))
  have HB8 := hide hb8
  clear hb8 ho8 HZ7 HR7 HO7 HB7
  go_wp2_with (go_at_call 18; refine (ref_field b1 s _ 0 6 0 6 rfl rfl 60 _ (unhide HB8) hs (by decide) (by decide)).mono ?_)
  rintro e w9 ⟨h4, st4, rfl, hb9, ho9, hv9⟩
  have HZ9 := hide ((unhide HZ8).only ho9 (by simpa using hf4))
  have HR9 := hide ((unhide HR8).only ho9 (by simpa using hf5))
  have HO9 := hide ((unhide HO8).step ho9 (by simpa using hf2))
  have HB9 := hide hb9
  have HV9 := hide hv9
  clear hb9 ho9 HZ8 HR8 HO8 HB8 hv9
  have hZ9 : Blk (w9.setCells bz 244 (setA h4 st4).toList) bz (fldA (setA h0 st0) (setA h1 st1) (setA h2 st2) (setA h3 st3) (setA h4 st4)) 51 := by
    have := Blk.setCells (w := w9) (o := 244) (setA h4 st4).toList (unhide HZ9)
    have e := fldA_put 4 (by decide) (S := (setA h4 st4)) (setA_size h0 st0) (setA_size h1 st1) (setA_size h2 st2) (setA_size h3 st3) set0_size (setA_size _ _)
    simp only [Nat.reduceMul, Nat.reduceEqDiff, if_true, if_false] at e
    rw [e] at this
    exact this
  have hR9 : Blk (w9.setCells bz 244 (setA h4 st4).toList) br fld0 51 := Blk.setCellsOther (fun e => hf6 e.symm) _ (unhide HR9)
  have hB9 := (unhide HB9).setCellsOther (b := bz) (fun e => hf4 e.symm) 244 (setA h4 st4).toList
  have hO9 : Only [] w (w9.setCells bz 244 (setA h4 st4).toList) := Only.setCellsNew hf1 _ (unhide HO9)
  have hth : w9.there bz 244 (setA h4 st4).size := by
    have := (unhide HZ9).there 244 61 (by rw [fldA_size (setA_size h0 st0) (setA_size h1 st1) (setA_size h2 st2) (setA_size h3 st3) set0_size]; decide)
    rw [setA_size]; exact this
  have HTH := hide hth
  clear HZ9 HR9 HB9 HO9 hth
  have HZ9 := hide hZ9
  have HR9 := hide hR9
  have HB9 := hide hB9
  have HO9 := hide hO9
  clear hZ9 hR9 hB9 hO9
  go_upto_region 12 with (refine wpList_store_mid rfl 49 _ _ rfl bz 244 (setA h4 st4) rfl rfl (unhide HTH) (by rw [setA_size]; kernel_rfl) (setA_one _ _) ?_; simp only [Act.put, List.setIfInBounds_toArray, List.set_cons_succ, List.set_cons_zero])
  revert HZ9 HR9 HB9 HO9
  generalize (w9.setCells bz 244 (setA h4 st4).toList) = v9
  intro HZ9 HR9 HB9 HO9
  clear HTH
  obtain ⟨C, hC⟩ : ∃ C, C = fldA (setA h0 st0) (setA h1 st1) (setA h2 st2) (setA h3 st3) (setA h4 st4) := ⟨_, rfl⟩
  have hCv : C = fldV ⟨(st0, h0), (st1, h1), (st2, h2), (st3, h3), (st4, h4)⟩ := hC
  have hCs : C.size = 305 := by rw [hCv]; exact fldV_size _
  have hCo : C.all (·.oneCell') = true := by rw [hCv]; exact fldV_one _
  have hz9 := unhide HZ9
  rw [← hC] at hz9
  have HZc := hide hz9
  obtain ⟨i9, bad9, a9, hi9, hblk9, hok9, herr9⟩ := (unhide HB9).place
  have HK9 := hide hblk9
  have hfin : ∀ bad10 a10, ((i9 < s.size ∧ bad10 = true ∧ a10 = if bad9 then a9 else i9) ∨ (s.size ≤ i9 ∧ bad10 = bad9 ∧ a10 = a9)) →
      (∀ F', pFields s = .ok F' → (!bad10) = true ∧ (⟨(st0, h0), (st1, h1), (st2, h2), (st3, h3), (st4, h4)⟩ : Fld) = F') ∧ (∀ q, pFields s = .error q → (!bad10) = false ∧ a10 = q) := by
    intro bad10 a10 h10
    rcases fields_cases s _ _ _ _ _ _ _ _ (st0, h0) (st1, h1) (st2, h2) (st3, h3) (st4, h4) rfl (unhide HV1) rfl rfl (unhide HV3) rfl rfl (unhide HV5) rfl rfl (unhide HV7) rfl (unhide HV9) with ⟨q, e1, e2⟩ | ⟨k, e1, e2⟩
    · obtain ⟨rfl, rfl⟩ := herr9 q e1
      rw [e2]
      refine ⟨fun z' h => (by cases h), fun q' h => ?_⟩
      cases h
      rcases h10 with ⟨_, rfl, rfl⟩ | ⟨_, rfl, rfl⟩ <;> simp
    · obtain ⟨rfl, rfl⟩ := hok9 k e1
      rw [e2]
      rcases h10 with ⟨t9, rfl, rfl⟩ | ⟨t9, rfl, rfl⟩
      · rw [if_pos t9]
        refine ⟨fun z' h => (by cases h), fun q' h => ?_⟩
        cases h
        simp
      · rw [if_neg (by omega)]
        refine ⟨fun z' h => ?_, fun q' h => (by cases h)⟩
        cases h
        simp
  have HFIN := hide hfin
  have HCV := hide hCv
  have HCS := hide hCs
  have HCO := hide hCo
  clear hfin hCv hCs hCo hC hz9 hblk9 hok9 herr9 HZ9 HB9 HV1 HV3 HV5 HV7 HV9
  have c91 := (unhide HK9).cell 1
  simp [rdr] at c91
  by_cases t9 : i9 < s.size
  · have hd9 : decide ((i9 : Int) < s.size) = true := by simp; omega
    go_wp2_with (go_at_call 13; refine (ref_fail' b1 s i9 bad9 a9 i9 i9 rfl 60 _ (unhide HK9)).mono ?_)
    rintro e w10 ⟨rfl, hk10', ho10⟩
    obtain ⟨a10, ha10⟩ : ∃ a10, a10 = if bad9 then a9 else i9 := ⟨_, rfl⟩
    have hk10 : Blk w10 b1 (rdr s i9 true a10) 60 := by rw [ha10]; exact hk10'
    have HK10 := hide hk10
    have HZc10 := hide ((unhide HZc).only ho10 (by simpa using hf4))
    have HR10 := hide ((unhide HR9).only ho10 (by simpa using hf5))
    have HO10 := hide ((unhide HO9).step ho10 (by simpa using hf2))
    have HA10 := hide ha10
    clear hk10 hk10' ho10 ha10 HK9 HZc HR9 HO9 c91
    go_upto_region 14 with fail
    have hS : (fun w' => Blk w' bz C 51 ∧ Blk w' b1 (rdr s i9 true a10) 60) w10.drew := ⟨(unhide HZc10).drew, (unhide HK10).drew⟩
    refine wp_region_held (S := fun w' => Blk w' bz C 51 ∧ Blk w' b1 (rdr s i9 true a10) 60) (by kernel_rfl) ?_
    refine wpAnyH_take (i := 1) (v := .pointer (some ⟨b1, 0, none⟩)) rfl (by kernel_rfl) (by kernel_rfl) (by kernel_rfl) (fun _ _ _ h => h) (Or.inl ⟨by rfl, fun wx hx => ?_⟩) hS ?_
    · rfl
    simp only [Act.put, List.getElem_toArray, List.getElem_cons_succ, List.getElem_cons_zero, List.setIfInBounds_toArray, List.set_cons_succ, List.set_cons_zero]
    refine wpAnyH_take (i := 2) (v := .pointer (some ⟨b1, 0, none⟩)) rfl (by kernel_rfl) (by kernel_rfl) (by kernel_rfl) (fun _ _ _ h => h) (Or.inl ⟨by rfl, fun wx hx => ?_⟩) hS ?_
    · rfl
    simp only [Act.put, List.getElem_toArray, List.getElem_cons_succ, List.getElem_cons_zero, List.setIfInBounds_toArray, List.set_cons_succ, List.set_cons_zero]
    refine wpAnyH_take (i := 3) (v := .pointer (some ⟨b1, 2, none⟩)) rfl (by kernel_rfl) (by kernel_rfl) (by kernel_rfl) (fun _ _ _ h => h) (Or.inl ⟨by rfl, fun wx hx => ?_⟩) hS ?_
    · kernel_rfl
    simp only [Act.put, List.getElem_toArray, List.getElem_cons_succ, List.getElem_cons_zero, List.setIfInBounds_toArray, List.set_cons_succ, List.set_cons_zero]
    refine wpAnyH_take (i := 4) (v := .bool true) rfl (by kernel_rfl) (by kernel_rfl) (by kernel_rfl) (fun _ _ _ h => h) (Or.inl ⟨by rfl, fun wx hx => ?_⟩) hS ?_
    · have hc := hx.2.cell 2
      simp [rdr] at hc
      go_simp
    simp only [Act.put, List.getElem_toArray, List.getElem_cons_succ, List.getElem_cons_zero, List.setIfInBounds_toArray, List.set_cons_succ, List.set_cons_zero]
    refine wpAnyH_take (i := 5) (v := .bool (!true)) rfl (by kernel_rfl) (by kernel_rfl) (by kernel_rfl) (fun _ _ _ h => h) (Or.inl ⟨by rfl, fun wx hx => ?_⟩) hS ?_
    · go_simp
    simp only [Act.put, List.getElem_toArray, List.getElem_cons_succ, List.getElem_cons_zero, List.setIfInBounds_toArray, List.set_cons_succ, List.set_cons_zero]
    refine wpAnyH_take (i := 6) (v := .pointer (some ⟨b1, 0, none⟩)) rfl (by kernel_rfl) (by kernel_rfl) (by kernel_rfl) (fun _ _ _ h => h) (Or.inl ⟨by rfl, fun wx hx => ?_⟩) hS ?_
    · rfl
    simp only [Act.put, List.getElem_toArray, List.getElem_cons_succ, List.getElem_cons_zero, List.setIfInBounds_toArray, List.set_cons_succ, List.set_cons_zero]
    refine wpAnyH_take (i := 7) (v := .pointer (some ⟨b1, 0, none⟩)) rfl (by kernel_rfl) (by kernel_rfl) (by kernel_rfl) (fun _ _ _ h => h) (Or.inl ⟨by rfl, fun wx hx => ?_⟩) hS ?_
    · rfl
    simp only [Act.put, List.getElem_toArray, List.getElem_cons_succ, List.getElem_cons_zero, List.setIfInBounds_toArray, List.set_cons_succ, List.set_cons_zero]
    refine wpAnyH_take (i := 8) (v := .pointer (some ⟨b1, 3, none⟩)) rfl (by kernel_rfl) (by kernel_rfl) (by kernel_rfl) (fun _ _ _ h => h) (Or.inl ⟨by rfl, fun wx hx => ?_⟩) hS ?_
    · kernel_rfl
    simp only [Act.put, List.getElem_toArray, List.getElem_cons_succ, List.getElem_cons_zero, List.setIfInBounds_toArray, List.set_cons_succ, List.set_cons_zero]
    refine wpAnyH_take (i := 9) (v := .int .i64 (a10 : Nat)) rfl (by kernel_rfl) (by kernel_rfl) (by kernel_rfl) (fun _ _ _ h => h) (Or.inl ⟨by rfl, fun wx hx => ?_⟩) hS ?_
    · have hc := hx.2.cell 3
      simp [rdr] at hc
      go_simp
    simp only [Act.put, List.getElem_toArray, List.getElem_cons_succ, List.getElem_cons_zero, List.setIfInBounds_toArray, List.set_cons_succ, List.set_cons_zero]
    refine wpAnyH_take (i := 0) (v := .agg C) rfl (by kernel_rfl) (by kernel_rfl) (by kernel_rfl) (fun _ _ _ h => h) (yieldsIf_load_row (by rfl) 51 (.tmp 6) (by rfl) bz (by rfl) 51 C (0, 0) _ (fun _ h => h.1) Tryd.underlying51 (by rfl) (by rw [unhide HCS]; kernel_rfl)) hS ?_
    simp only [Act.put, List.getElem_toArray, List.getElem_cons_succ, List.getElem_cons_zero, List.setIfInBounds_toArray, List.set_cons_succ, List.set_cons_zero]
    refine wpAnyH_ready (rs := [10]) (by kernel_rfl) (by simp) ?_
    refine AllReadyH.cons rfl (fun K hK => ?_) AllReadyH.nil
    rw [if_pos (by rfl)]
    refine wp_store_row 51 _ _ rfl br C rfl rfl 51 fld0 (unhide HR10).drew (by rw [unhide HCS]; kernel_rfl) (by rw [fld0_size, unhide HCS]) (unhide HCO) ?_
    simp only [Act.put, List.getElem_toArray, List.getElem_cons_succ, List.getElem_cons_zero, List.setIfInBounds_toArray, List.set_cons_succ, List.set_cons_zero]
    have hrr : Blk (w10.drew.setRow br C) br C 51 := Blk.setRow (unhide HR10).drew _
    have hoo : Only [] w (w10.drew.setRow br C) := ((unhide HO10).drew).setRowNew hf3 _
    refine hK.out _ _ ⟨hS.1.setRowOther hf6 _, hS.2.setRowOther hf5.symm _⟩ (fun hS => ?_)
    clear hK
    refine wpAnyH_take (i := 11) (v := .bool (!true)) rfl (by kernel_rfl) (by kernel_rfl) (by kernel_rfl) (fun _ _ _ h => h) (Or.inl ⟨by rfl, fun wx hx => ?_⟩) hS ?_
    · rfl
    simp only [Act.put, List.getElem_toArray, List.getElem_cons_succ, List.getElem_cons_zero, List.setIfInBounds_toArray, List.set_cons_succ, List.set_cons_zero]
    refine wpAnyH_take (i := 12) (v := .int .i64 (a10 : Nat)) rfl (by kernel_rfl) (by kernel_rfl) (by kernel_rfl) (fun _ _ _ h => h) (Or.inl ⟨by rfl, fun wx hx => ?_⟩) hS ?_
    · rfl
    simp only [Act.put, List.getElem_toArray, List.getElem_cons_succ, List.getElem_cons_zero, List.setIfInBounds_toArray, List.set_cons_succ, List.set_cons_zero]
    refine wpAnyH_done (by kernel_rfl) ?_ _
    go_wp2
    refine bodyPost_ret (v := .tuple #[.agg C, .bool (!true), .int .i64 (a10 : Nat)]) (results_fields _ _ br C rfl rfl rfl hrr (unhide HCS)) rfl ?_
    refine ⟨_, !true, a10, by rw [unhide HCV], Only.below hoo (Nat.le_refl _) (by simp), ?_⟩
    exact unhide HFIN true a10 (.inl ⟨t9, rfl, unhide HA10⟩)
  · have hd9 : decide ((i9 : Int) < s.size) = false := by simp; omega
    have HZc9 := HZc
    go_upto_region 14 with fail
    have hS : (fun w' => Blk w' bz C 51 ∧ Blk w' b1 (rdr s i9 bad9 a9) 60) v9.drew := ⟨(unhide HZc9).drew, (unhide HK9).drew⟩
    refine wp_region_held (S := fun w' => Blk w' bz C 51 ∧ Blk w' b1 (rdr s i9 bad9 a9) 60) (by kernel_rfl) ?_
    refine wpAnyH_take (i := 1) (v := .pointer (some ⟨b1, 0, none⟩)) rfl (by kernel_rfl) (by kernel_rfl) (by kernel_rfl) (fun _ _ _ h => h) (Or.inl ⟨by rfl, fun wx hx => ?_⟩) hS ?_
    · rfl
    simp only [Act.put, List.getElem_toArray, List.getElem_cons_succ, List.getElem_cons_zero, List.setIfInBounds_toArray, List.set_cons_succ, List.set_cons_zero]
    refine wpAnyH_take (i := 2) (v := .pointer (some ⟨b1, 0, none⟩)) rfl (by kernel_rfl) (by kernel_rfl) (by kernel_rfl) (fun _ _ _ h => h) (Or.inl ⟨by rfl, fun wx hx => ?_⟩) hS ?_
    · rfl
    simp only [Act.put, List.getElem_toArray, List.getElem_cons_succ, List.getElem_cons_zero, List.setIfInBounds_toArray, List.set_cons_succ, List.set_cons_zero]
    refine wpAnyH_take (i := 3) (v := .pointer (some ⟨b1, 2, none⟩)) rfl (by kernel_rfl) (by kernel_rfl) (by kernel_rfl) (fun _ _ _ h => h) (Or.inl ⟨by rfl, fun wx hx => ?_⟩) hS ?_
    · kernel_rfl
    simp only [Act.put, List.getElem_toArray, List.getElem_cons_succ, List.getElem_cons_zero, List.setIfInBounds_toArray, List.set_cons_succ, List.set_cons_zero]
    refine wpAnyH_take (i := 4) (v := .bool bad9) rfl (by kernel_rfl) (by kernel_rfl) (by kernel_rfl) (fun _ _ _ h => h) (Or.inl ⟨by rfl, fun wx hx => ?_⟩) hS ?_
    · have hc := hx.2.cell 2
      simp [rdr] at hc
      go_simp
    simp only [Act.put, List.getElem_toArray, List.getElem_cons_succ, List.getElem_cons_zero, List.setIfInBounds_toArray, List.set_cons_succ, List.set_cons_zero]
    refine wpAnyH_take (i := 5) (v := .bool (!bad9)) rfl (by kernel_rfl) (by kernel_rfl) (by kernel_rfl) (fun _ _ _ h => h) (Or.inl ⟨by rfl, fun wx hx => ?_⟩) hS ?_
    · go_simp
    simp only [Act.put, List.getElem_toArray, List.getElem_cons_succ, List.getElem_cons_zero, List.setIfInBounds_toArray, List.set_cons_succ, List.set_cons_zero]
    refine wpAnyH_take (i := 6) (v := .pointer (some ⟨b1, 0, none⟩)) rfl (by kernel_rfl) (by kernel_rfl) (by kernel_rfl) (fun _ _ _ h => h) (Or.inl ⟨by rfl, fun wx hx => ?_⟩) hS ?_
    · rfl
    simp only [Act.put, List.getElem_toArray, List.getElem_cons_succ, List.getElem_cons_zero, List.setIfInBounds_toArray, List.set_cons_succ, List.set_cons_zero]
    refine wpAnyH_take (i := 7) (v := .pointer (some ⟨b1, 0, none⟩)) rfl (by kernel_rfl) (by kernel_rfl) (by kernel_rfl) (fun _ _ _ h => h) (Or.inl ⟨by rfl, fun wx hx => ?_⟩) hS ?_
    · rfl
    simp only [Act.put, List.getElem_toArray, List.getElem_cons_succ, List.getElem_cons_zero, List.setIfInBounds_toArray, List.set_cons_succ, List.set_cons_zero]
    refine wpAnyH_take (i := 8) (v := .pointer (some ⟨b1, 3, none⟩)) rfl (by kernel_rfl) (by kernel_rfl) (by kernel_rfl) (fun _ _ _ h => h) (Or.inl ⟨by rfl, fun wx hx => ?_⟩) hS ?_
    · kernel_rfl
    simp only [Act.put, List.getElem_toArray, List.getElem_cons_succ, List.getElem_cons_zero, List.setIfInBounds_toArray, List.set_cons_succ, List.set_cons_zero]
    refine wpAnyH_take (i := 9) (v := .int .i64 (a9 : Nat)) rfl (by kernel_rfl) (by kernel_rfl) (by kernel_rfl) (fun _ _ _ h => h) (Or.inl ⟨by rfl, fun wx hx => ?_⟩) hS ?_
    · have hc := hx.2.cell 3
      simp [rdr] at hc
      go_simp
    simp only [Act.put, List.getElem_toArray, List.getElem_cons_succ, List.getElem_cons_zero, List.setIfInBounds_toArray, List.set_cons_succ, List.set_cons_zero]
    refine wpAnyH_take (i := 0) (v := .agg C) rfl (by kernel_rfl) (by kernel_rfl) (by kernel_rfl) (fun _ _ _ h => h) (yieldsIf_load_row (by rfl) 51 (.tmp 6) (by rfl) bz (by rfl) 51 C (0, 0) _ (fun _ h => h.1) Tryd.underlying51 (by rfl) (by rw [unhide HCS]; kernel_rfl)) hS ?_
    simp only [Act.put, List.getElem_toArray, List.getElem_cons_succ, List.getElem_cons_zero, List.setIfInBounds_toArray, List.set_cons_succ, List.set_cons_zero]
    refine wpAnyH_ready (rs := [10]) (by kernel_rfl) (by simp) ?_
    refine AllReadyH.cons rfl (fun K hK => ?_) AllReadyH.nil
    rw [if_pos (by rfl)]
    refine wp_store_row 51 _ _ rfl br C rfl rfl 51 fld0 (unhide HR9).drew (by rw [unhide HCS]; kernel_rfl) (by rw [fld0_size, unhide HCS]) (unhide HCO) ?_
    simp only [Act.put, List.getElem_toArray, List.getElem_cons_succ, List.getElem_cons_zero, List.setIfInBounds_toArray, List.set_cons_succ, List.set_cons_zero]
    have hrr : Blk (v9.drew.setRow br C) br C 51 := Blk.setRow (unhide HR9).drew _
    have hoo : Only [] w (v9.drew.setRow br C) := ((unhide HO9).drew).setRowNew hf3 _
    refine hK.out _ _ ⟨hS.1.setRowOther hf6 _, hS.2.setRowOther hf5.symm _⟩ (fun hS => ?_)
    clear hK
    refine wpAnyH_take (i := 11) (v := .bool (!bad9)) rfl (by kernel_rfl) (by kernel_rfl) (by kernel_rfl) (fun _ _ _ h => h) (Or.inl ⟨by rfl, fun wx hx => ?_⟩) hS ?_
    · rfl
    simp only [Act.put, List.getElem_toArray, List.getElem_cons_succ, List.getElem_cons_zero, List.setIfInBounds_toArray, List.set_cons_succ, List.set_cons_zero]
    refine wpAnyH_take (i := 12) (v := .int .i64 (a9 : Nat)) rfl (by kernel_rfl) (by kernel_rfl) (by kernel_rfl) (fun _ _ _ h => h) (Or.inl ⟨by rfl, fun wx hx => ?_⟩) hS ?_
    · rfl
    simp only [Act.put, List.getElem_toArray, List.getElem_cons_succ, List.getElem_cons_zero, List.setIfInBounds_toArray, List.set_cons_succ, List.set_cons_zero]
    refine wpAnyH_done (by kernel_rfl) ?_ _
    go_wp2
    refine bodyPost_ret (v := .tuple #[.agg C, .bool (!bad9), .int .i64 (a9 : Nat)]) (results_fields _ _ br C rfl rfl rfl hrr (unhide HCS)) rfl ?_
    refine ⟨_, !bad9, a9, by rw [unhide HCV], Only.below hoo (Nat.le_refl _) (by simp), ?_⟩
    exact unhide HFIN bad9 a9 (.inr ⟨by omega, rfl, rfl⟩)
end Go.Proofs.YtnnhnihgeheahaaDoor
