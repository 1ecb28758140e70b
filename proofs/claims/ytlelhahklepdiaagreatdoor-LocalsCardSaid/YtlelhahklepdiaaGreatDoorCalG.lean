/- The program's tellTime. -/
import Derived.Test.YtlelhahklepdiaaGreatDoorCalF
set_option linter.unusedSimpArgs false
set_option linter.unusedVariables false
namespace Go.Proofs.YtlelhahklepdiaaGreatDoor
open Go.RowKit

/-- What the region of 'tellTime' holds. -/
abbrev TS (w : World) (b Y M E : Nat) (w' : World) : Prop :=
  (w'.cell? ⟨b, 0, none⟩ = some (.int .i64 (Y : Int)) ∧ w'.cell? ⟨b, 1, none⟩ = some (.int .i64 (M : Int)) ∧ w'.cell? ⟨b, 2, none⟩ = some (.int .i64 (E : Int))) ∧ Hid (Only [] w w') ∧ Hid (Pow w')
theorem TS.pow {w : World} {b Y M E : Nat} {w' : World} (h : TS w b Y M E w') : Pow w' := h.2.2
theorem TS.next {w : World} {b Y M E : Nat} {w' w1 : World} (h : TS w b Y M E w') (ho : Only [] w' w1) : TS w b Y M E w1 := by
  obtain ⟨⟨u0, u1, u2⟩, HO, HP⟩ := h
  exact ⟨⟨cell_keep ho u0, cell_keep ho u1, cell_keep ho u2⟩, (unhide HO).trans ho, (unhide HP).only ho⟩
theorem TS.alloc {w : World} {b Y M E : Nat} {w' : World} (h : TS w b Y M E w') (o : Obj) : TS w b Y M E (w'.alloc o) := h.next ((Only.refl [] w').alloc o)

theorem told_cat (N n m k : Nat) : cat [twoS ((1960 + n) / 100) ++ twoS ((1960 + n) % 100), ⟨#[45]⟩, twoS (1 + m), ⟨#[45]⟩, twoS (k + 1), ⟨#[32]⟩, twoS (N % 1440 / 60), ⟨#[58]⟩, twoS (N % 1440 % 60), ⟨#[32]⟩, oneS ((N / 1440 + 5) % 7)] = told N n m k := rfl

set_option maxRecDepth 4000 in
set_option maxHeartbeats 4000000 in
theorem code_tellTime (N n m k : Nat) (x : Int) (ex : x = (N : Int) - 5260320) (w : World) (hIs : Cal.Is (N / 1440) n m k) (hM : Months w) (hP : Pow w) (h1 : 1000000 ≤ N) (h2 : N ≤ 100000000) :
    Calls Tryz.prog 27 #[.int .i64 x] w fun e w' => e = .returned (.string (told N n m k)) ∧ Only [] w w' := by
  subst ex
  obtain ⟨D, hD⟩ : ∃ D, D = N / 1440 := ⟨_, rfl⟩
  have hDi : ((N : Int) - 5260320) / 1440 = (D : Int) - 3653 := by omega
  have hTi : ((N : Int) - 5260320) % 1440 = ((N % 1440 : Nat) : Int) := by omega
  have hDb : 600 ≤ D ∧ D ≤ 70000 := by omega
  have hn := hIs.le (by omega)
  have hm := hIs.2.2
  have hk := hIs.2.1
  have hml := Cal.ml_bd (1960 + n) (m + 1)
  obtain ⟨Y, hY⟩ : ∃ Y, Y = 1960 + n := ⟨_, rfl⟩
  obtain ⟨M, hMm⟩ : ∃ M, M = 1 + m := ⟨_, rfl⟩
  obtain ⟨E, hE⟩ : ∃ E, E = k + 1 := ⟨_, rfl⟩
  obtain ⟨T, hT⟩ : ∃ T, T = N % 1440 := ⟨_, rfl⟩
  obtain ⟨V, hV⟩ : ∃ V, V = (D + 5) % 7 := ⟨_, rfl⟩
  obtain ⟨T1, g3⟩ : ∃ T1, T1 = T / 60 := ⟨_, rfl⟩
  obtain ⟨T2, g4⟩ : ∃ T2, T2 = T % 60 := ⟨_, rfl⟩
  have hVi : (V : Int) = ((D : Int) - 3653 + 4) % 7 := by omega
  have hfin : cat [twoS (Y / 100) ++ twoS (Y % 100), ⟨#[45]⟩, twoS M, ⟨#[45]⟩, twoS E, ⟨#[32]⟩, twoS T1, ⟨#[58]⟩, twoS T2, ⟨#[32]⟩, oneS V] = told N n m k := by
    rw [g3, g4, hY, hMm, hE, hT, hV, hD]; exact told_cat N n m k
  have hlen : ([twoS (Y / 100) ++ twoS (Y % 100), ⟨#[45]⟩, twoS M, ⟨#[45]⟩, twoS E, ⟨#[32]⟩, twoS T1, ⟨#[58]⟩, twoS T2, ⟨#[32]⟩, oneS V].map (fun (b : ByteArray) => b.data.toList)).flatten.length ≤ 100000 := by
    have : ([twoS (Y / 100) ++ twoS (Y % 100), ⟨#[45]⟩, twoS M, ⟨#[45]⟩, twoS E, ⟨#[32]⟩, twoS T1, ⟨#[58]⟩, twoS T2, ⟨#[32]⟩, oneS V].map (fun (b : ByteArray) => b.data.toList)).flatten.length = 18 := rfl
    omega
  have hdc : ∀ n' m' k', Cal.Is D n' m' k' → dateC n' m' k' = .agg #[.int .i64 (Y : Int), .int .i64 (M : Int), .int .i64 (E : Int)] := by
    intro n' m' k' h
    rw [hD] at h
    obtain ⟨rfl, rfl, rfl⟩ := h.unique hIs
    rw [hY, hMm, hE]; rfl
  have hY2 : 1960 ≤ Y ∧ Y ≤ 2160 := by omega
  have hM2 : M ≤ 12 := by omega
  have hE2 : E ≤ 31 := by omega
  have hT2 : T ≤ 1439 := by omega
  have hV2 : V ≤ 6 := by omega
  have q3 : (T : Int) / 60 = T1 := by omega
  have q4 : (T : Int) % 60 = T2 := by omega
  have q7 : (T : Int).tdiv 60 = T1 := by rw [Int.tdiv_eq_ediv_of_nonneg (by omega)]; exact q3
  have q8 : (T : Int).tmod 60 = T2 := by rw [Int.tmod_eq_emod_of_nonneg (by omega)]; exact q4
  have b3 : T1 ≤ 99 := by omega
  have b4 : T2 ≤ 99 := by omega
  have hone : (⟨(Lib.decDigits V).toArray⟩ : ByteArray) = oneS V := by rw [dec_one (by omega)]; rfl
  rw [← hT] at hTi
  have HDI := hide hDi
  have HTI := hide hTi
  have HVI := hide hVi
  have HF := hide hfin
  have HL := hide hlen
  have HDC := hide hdc
  have HM := hide hM
  have HP := hide hP
  have HONE := hide hone
  clear hD hDi hTi hn hm hk hml hY hMm hE hT hV g3 g4 hVi hfin hlen hdc hM hP hIs hone
  go_enter Tryz.func27, Tryz.ntmps27
  go_wp2_with (first
    | (go_at_call 45; refine (code_floorDiv' ((N : Int) - 5260320) 1440 _ _ (by omega) (by omega) _ (by omega) (by omega) (by omega) (by omega)).mono ?_; rintro e w1 ⟨rfl, hw⟩; rw [hw, unhide HDI]; clear hw)
    | (go_at_call 46; refine (code_floorMod' ((N : Int) - 5260320) 1440 _ _ (by omega) (by omega) _ (by omega) (by omega) (by omega) (by omega)).mono ?_; rintro e w1 ⟨rfl, hw⟩; rw [hw, unhide HTI]; clear hw)
    | (go_at_call 47
       refine (code_dateOf D _ (by omega) _ (unhide HM) (by omega) (by omega)).mono ?_
       rintro e w1 ⟨n', m', k', hn', hI', rfl, ho1⟩
       rw [unhide HDC n' m' k' hI']
       have HO1 := hide ho1
       have HP1 := hide ((unhide HP).only ho1)
       clear hI' hn' ho1 HP))
  have hb0 := Blk.new w1 #[.int .i64 (Y : Int), .int .i64 (M : Int), .int .i64 (E : Int)] 95
  have HK0 : Hid (TS w w1.heap.size Y M E (w1.alloc (.cells #[.int .i64 (Y : Int), .int .i64 (M : Int), .int .i64 (E : Int)] 95)).drew) :=
    ⟨⟨hb0.cell 0, hb0.cell 1, hb0.cell 2⟩, ((unhide HO1).alloc _).drew, (unhide HP1).only ((Only.refl [] w1).alloc _).drew⟩
  clear hb0 HP1 HO1
  go_region_held3 (fun w' => (w'.cell? ⟨w1.heap.size, 0, none⟩ = some (.int .i64 (Y : Int)) ∧ w'.cell? ⟨w1.heap.size, 1, none⟩ = some (.int .i64 (M : Int)) ∧ w'.cell? ⟨w1.heap.size, 2, none⟩ = some (.int .i64 (E : Int))) ∧ Hid (Only [] w w') ∧ Hid (Pow w')) (first | exact unhide HK0 | assumption | exact unhide HK | exact TS.alloc (w := w) (b := w1.heap.size) (Y := Y) (M := M) (E := E) (by assumption) _)
    (first
      | (go_at_call 49
         refine (code_padded4 Y _ _ (by omega) (by omega) _ (TS.pow (w := w) (b := w1.heap.size) (Y := Y) (M := M) (E := E) (by assumption)) (by omega) (by omega)).mono ?_
         rintro e w2 ⟨rfl, ho⟩
         have HK := hide (TS.next (w := w) (b := w1.heap.size) (Y := Y) (M := M) (E := E) (by assumption) ho)
         clear ho)
      | (go_at_call 49
         refine (code_padded2 M _ _ (by omega) (by omega) _ (by omega)).mono ?_
         rintro e w2 ⟨rfl, ho⟩
         have HK := hide (TS.next (w := w) (b := w1.heap.size) (Y := Y) (M := M) (E := E) (by assumption) ho)
         clear ho)
      | (go_at_call 49
         refine (code_padded2 E _ _ (by omega) (by omega) _ (by omega)).mono ?_
         rintro e w2 ⟨rfl, ho⟩
         have HK := hide (TS.next (w := w) (b := w1.heap.size) (Y := Y) (M := M) (E := E) (by assumption) ho)
         clear ho)
      | (go_at_call 49
         refine (code_padded2 T1 _ _ (by first | omega | (rw [q7]) | (simp only [IntKind.wrap_i64, q7]; omega)) (by omega) _ (by omega)).mono ?_
         rintro e w2 ⟨rfl, ho⟩
         have HK := hide (TS.next (w := w) (b := w1.heap.size) (Y := Y) (M := M) (E := E) (by assumption) ho)
         clear ho)
      | (go_at_call 49
         refine (code_padded2 T2 _ _ (by first | omega | (rw [q8]) | (simp only [IntKind.wrap_i64, q8]; omega)) (by omega) _ (by omega)).mono ?_
         rintro e w2 ⟨rfl, ho⟩
         have HK := hide (TS.next (w := w) (b := w1.heap.size) (Y := Y) (M := M) (E := E) (by assumption) ho)
         clear ho)
      | (go_at_call 51
         refine (code_weekdayOfR ((D : Int) - 3653) _ (V : Int) (by omega) (unhide HVI) _ (by omega) (by omega)).mono ?_
         rintro e w2 ⟨rfl, hw⟩
         rw [hw]
         clear hw)
      | (go_at_call 50
         refine (Any.strconv_Itoa_small Tryz.lays171 V (by omega) _).mono ?_
         rintro e w2 ⟨rfl, hw⟩
         rw [hw, unhide HONE]
         clear hw)
      | (go_at_call 48
         refine (code_together _ 11 11 [twoS (Y / 100) ++ twoS (Y % 100), ⟨#[45]⟩, twoS M, ⟨#[45]⟩, twoS E, ⟨#[32]⟩, twoS T1, ⟨#[58]⟩, twoS T2, ⟨#[32]⟩, oneS V] rfl _ (cells_strs (Blk.new _ _ _)) (by rw [World.size_alloc]; omega) (by simp) (by simp) (unhide HL)).mono ?_
         rintro e w2 ⟨rfl, ho⟩
         rw [unhide HF]
         have HK := hide (TS.next (w := w) (b := w1.heap.size) (Y := Y) (M := M) (E := E) (by assumption) ho)
         clear ho))
  go_wp2
  go_ret
  exact ⟨rfl, unhide (unhide HK).2.1⟩
end Go.Proofs.YtlelhahklepdiaaGreatDoor
