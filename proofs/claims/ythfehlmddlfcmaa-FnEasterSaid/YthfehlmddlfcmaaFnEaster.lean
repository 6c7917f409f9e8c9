/- FnEaster: whatever the input, the law returns true, and its arguments read as they did. No conditions beyond those of the statement's row. -/
import Derived.Test.YthfehlmddlfcmaaDr1
import Derived.Test.YthfehlmddlfcmaaEas
import Derived.Test.YthfehlmddlfcmaaCal4
namespace Go.Proofs.Ythfehlmddlfcmaa.fnEaster
open Go.Proofs.Ythfehlmddlfcmaa
open Go.ChangeShapes Go.WideShapes Go.ChangeAt Go.RowKit Go.Joins
set_option linter.unusedVariables false
set_option linter.unusedSimpArgs false

theorem own : ownKnob Try.prog.godebug = none := by kernel_rfl
theorem laidOut : laidOutB Try.prog = true := by kernel_rfl

set_option maxRecDepth 100000 in
set_option maxHeartbeats 4000000 in
theorem walk (w : World) (a0 : Option Addr) (len0 cap0 : Nat) (w0 : CodeOk w a0 len0 cap0) :
    Calls Try.prog 18 #[.slice a0 len0 cap0] w fun e w' => e = .returned (.bool true) ∧ Below w.heap.size w w' := by
  by_cases hl : 1048576 < len0
  · have w0' := w0.2.1
    unfold maxLen at w0'
    clear w0
    go_enter Try.func18, Try.ntmps18
    go_wp2
    go_ret
    exact ⟨rfl, Below.refl _ _⟩
  · have w0' := w0.2.1
    unfold maxLen at w0'
    have hle := w0.1
    have HW := Lib.hid w0
    clear w0
    go_enter Try.func18, Try.ntmps18
    go_wp2_with fail
    refine (drEaster_any _ _ _ _ HW.out).mono ?_; rintro e w1 ⟨y, rfl, y0, y1, hB1⟩
    by_cases hy : 1 ≤ y ∧ y ≤ 4000
    · obtain ⟨v1, f7, fl, fh, fn⟩ := eas_facts y hy.1 hy.2
      obtain ⟨h1, h2⟩ := hy
      have v2 : valB y 3 22 = true := valB_mk h1 h2 (by omega) (by unfold dim; simp)
      have v3 : valB y 4 25 = true := valB_mk h1 h2 (by omega) (by unfold dim; simp)
      have FN := Lib.hid fn
      have F7 := Lib.hid f7
      have hn := num_bd v1
      have en : num y (eMo y) (eDa y) = easN y := rfl
      rw [en] at hn
      have EN := Lib.hid en
      have e7 : (easN y % 7 + 1 == 7) = true := by rw [beq_iff_eq]; omega
      clear fn f7 en
      go_wp2_with fail
      refine (iEa_t _ _ h1 h2).mono ?_; rintro e w2 ⟨rfl, hw2⟩
      have hB2 := bel_next hB1 hw2
      go_wp2_with fail
      refine (sEa_t _ _ h1 h2).mono ?_; rintro e w3 ⟨rfl, hw3⟩
      obtain ⟨hD3, hC3⟩ := ownb hw3
      have hB3 := bel_next hB2 hC3
      obtain ⟨d3_0, d3_1, d3_2, d3f_0, d3f_1, d3f_2, d3z⟩ := blk3 hD3
      go_wp2_with fail
      refine (iDN_t _ _ _ _ v1).mono ?_; rintro e w4 ⟨rfl, hw4⟩
      rw [EN.out]
      obtain ⟨hX4, hC4⟩ := ownb hw4
      have hD4 := blk_next hD3 hC4
      have hB4 := bel_next hB3 hC4
      go_wp2_with fail
      refine (iDN_t _ _ _ _ v2).mono ?_; rintro e w5 ⟨rfl, hw5⟩
      have hD5 := blk_next hD4 hw5
      have hB5 := bel_next hB4 hw5
      go_wp2_with fail
      refine (iDN_t _ _ _ _ v3).mono ?_; rintro e w6 ⟨rfl, hw6⟩
      have hD6 := blk_next hD5 hw6
      have hB6 := bel_next hB5 hw6
      clear hD3 hD4 hD5 hX4 d3_0 d3_1 d3_2 d3f_0 d3f_1 d3f_2
      go_wp2_with fail
      by_cases hm : y < 4000
      · have ff := FN.out hm
        obtain ⟨v4, _⟩ := eas_facts (y + 1) (by omega) (by omega)
        have hn4 := num_bd v4
        have en4 : num (y + 1) (eMo (y + 1)) (eDa (y + 1)) = easN (y + 1) := rfl
        have EN4 := Lib.hid en4
        rw [en4] at hn4
        clear en4
        refine (iEa_t _ _ (by omega) (by omega)).mono ?_; rintro e w7 ⟨rfl, hw7⟩
        have hD7 := blk_next hD6 hw7
        have hB7 := bel_next hB6 hw7
        go_wp2_with fail
        refine (iDN_t _ _ _ _ v4).mono ?_; rintro e w8 ⟨rfl, hw8⟩
        rw [EN4.out]
        obtain ⟨_, hC8⟩ := ownb hw8
        have hD8 := blk_next hD7 hC8
        have hB8 := bel_next hB7 hC8
        obtain ⟨d8_0, d8_1, d8_2, d8f_0, d8f_1, d8f_2, d8z⟩ := blk3 hD8
        go_wp2_with fail
        refine (iWD_t _ _ _ _ v1).mono ?_; rintro e w9 ⟨rfl, hw9⟩
        rw [EN.out]
        go_wp2
        all_goals go_ret
        all_goals exact ⟨ret_bool (by first | rfl | (simp; omega)), bel_next hB8 hw9⟩
      · have v4 : valB 0 0 0 = false := by decide
        refine (iEa_f _ _ (by omega)).mono ?_; rintro e w7 ⟨rfl, hw7⟩
        have hD7 := blk_next hD6 hw7
        have hB7 := bel_next hB6 hw7
        go_wp2_with fail
        refine (iDN_f _ _ _ _ v4).mono ?_; rintro e w8 ⟨rfl, hw8⟩
        obtain ⟨_, hC8⟩ := ownb hw8
        have hD8 := blk_next hD7 hC8
        have hB8 := bel_next hB7 hC8
        obtain ⟨d8_0, d8_1, d8_2, d8f_0, d8f_1, d8f_2, d8z⟩ := blk3 hD8
        go_wp2_with fail
        refine (iWD_t _ _ _ _ v1).mono ?_; rintro e w9 ⟨rfl, hw9⟩
        rw [EN.out]
        go_wp2
        all_goals go_ret
        all_goals exact ⟨ret_bool (by first | rfl | (simp; omega)), bel_next hB8 hw9⟩
    · have H := Lib.hid hy
      clear hy
      go_wp2_with fail
      refine (iEa_f _ _ H.out).mono ?_; rintro e w2 ⟨rfl, hw2⟩
      go_wp2_with fail
      refine (sEa_f _ _ H.out).mono ?_; rintro e w3 ⟨rfl, hw3⟩
      obtain ⟨hH3, hC3⟩ := ownb hw3
      obtain ⟨c3_0, c3_1, c3_2, f3_0, f3_1, f3_2, hz3⟩ := blk3 hH3
      have hB3 := bel_next (bel_next hB1 hw2) hC3
      go_wp2_with fail
      refine (alive_any _).mono ?_; rintro e w' ⟨rfl, rfl⟩
      go_wp2
      go_ret
      exact ⟨rfl, hB3.alloc (by have := hB3.size; omega) _⟩

set_option maxRecDepth 100000 in
theorem lifted (os : Os) (started : os.Started) (H : Type) (enc : TypeId × Value → H) :
    ReturnsInHanded {} Try.checked os 18 .any (Rows.fnEasterSpec.pre6 enc Try.prog Try.f18 Rows.fnEasterRow.domain false) (Rows.fnEasterSpec.post enc Try.prog Try.f18 false true false false) := by
  refine returnsInHanded_of_change (C := Try.checked) own started (by kernel_rfl) Try.func18
    (ChangeSpec.witness6 (enc := enc) (C := Try.checked) false ⟨#[], #[.slice none 0 0], []⟩ 8 (by kernel_rfl) (by kernel_rfl) (by kernel_rfl) (by kernel_rfl)) ?_
  intro W base args ds gs before hval0 hW hcnd _
  have hval : ∀ (j : Nat) t v, Try.f18.params[j]? = some t → args[j]? = some v → Value.okWide Try.prog W .any base t v := hval0
  have hW' := hW
  obtain ⟨p, q, hA0, hV, rfl, hfz, hnd⟩ := hW
  have hA : DataW.TrodAll enc Try.prog W 0 (fun _ => true) true Try.f18.params.toList args.toList ds p := hA0
  rw [Try.params18] at hA hval
  obtain ⟨v0, vs0, d0, ds0, p0, q0, hargs, rfl, rfl, h0, r0⟩ := trodAll_cons hA
  obtain ⟨rfl, rfl, rfl⟩ := trodAll_nil r0
  obtain rfl : args = #[v0] := by cases args; simp_all
  obtain ⟨rfl, rfl⟩ := trodVars_none hV
  have k0 := h0
  have lt0 : ∀ x ∈ p0, x.block < W.heap.size := by obtain ⟨m, hm⟩ := k0; exact DataW.trod_lt m _ _ _ hm
  obtain ⟨a0, len0, cap0, rfl⟩ := okWide_slice Try.underlying22 (hval 0 22 v0 rfl rfl)
  have w0 : CodeOk W a0 len0 cap0 := by
    obtain ⟨fuel, hf⟩ := h0
    rcases open_ints Try.underlying22 Try.underlying5 (by kernel_rfl) hf with ⟨hcs, _⟩ | ⟨x, l, c, zs, hcs, _, hl, hm, hz, _, hcell, hwz⟩
    · simp [Value.cells] at hcs
      obtain ⟨rfl, rfl, rfl⟩ := hcs
      exact code_nil W
    · simp [Value.cells] at hcs
      obtain ⟨rfl, rfl, rfl⟩ := hcs
      exact code_ok hl hm (by simp at hz; omega) hcell hwz
  clear hA0 hval0
  refine (walk W a0 len0 cap0 w0).mono fun e W' ⟨he, bel⟩ => ?_
  subst he
  exact ⟨_, rfl, _, _, _, [], _, [], hW', trodAll_mk1 (shut_bool Try.underlying4 _), (trodAll_cons_mk (Below.trod laidOut (by kernel_rfl) (of_decide_eq_true (by kernel_rfl)) k0 bel lt0) trodAll_mk0), rfl, bel.frame _, fun h => by cases h⟩

theorem over : Rows.fnEasterRow.holds Try.pinned (OpenSpec.ofChange Rows.fnEasterSpec) :=
  OpenClaim.holds_of_wide 18 Try.f18 rfl rfl rfl rfl rfl rfl rfl ⟨rfl, rfl, rfl, rfl, rfl⟩ rfl rfl rfl rfl rfl (by kernel_rfl) Try.func18 (by kernel_rfl)
    (of_decide_eq_true (by kernel_rfl)) (by unfold Func.isWrapper; first | (rw [if_pos (by decide +kernel)]; kernel_rfl) | (rw [if_neg (by decide +kernel)]; exact ⟨rfl, rfl⟩))
    (fun os started H enc _ => lifted os started H enc)

/-- The statement. -/
theorem proved : Rows.FnEasterSaid :=
  over
#print axioms proved
end Go.Proofs.Ythfehlmddlfcmaa.fnEaster
