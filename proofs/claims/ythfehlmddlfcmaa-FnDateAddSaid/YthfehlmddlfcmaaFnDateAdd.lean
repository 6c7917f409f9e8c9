/- FnDateAdd: whatever the input, the law returns true, and its arguments read as they did. No conditions beyond those of the statement's row. -/
import Derived.Test.YthfehlmddlfcmaaDr2
import Derived.Test.YthfehlmddlfcmaaCd
namespace Go.Proofs.Ythfehlmddlfcmaa.fnDateAdd
open Go.Proofs.Ythfehlmddlfcmaa
open Go.ChangeShapes Go.WideShapes Go.ChangeAt Go.RowKit Go.Joins
set_option linter.unusedVariables false
set_option linter.unusedSimpArgs false

theorem own : ownKnob Try.prog.godebug = none := by kernel_rfl
theorem laidOut : laidOutB Try.prog = true := by kernel_rfl

set_option maxRecDepth 100000 in
set_option maxHeartbeats 4000000 in
theorem walk (w : World) (a0 : Option Addr) (len0 cap0 : Nat) (w0 : CodeOk w a0 len0 cap0) :
    Calls Try.prog 9 #[.slice a0 len0 cap0] w fun e w' => e = .returned (.bool true) ∧ Below w.heap.size w w' := by
  by_cases hl : 1048576 < len0
  · have w0' := w0.2.1
    unfold maxLen at w0'
    clear w0
    go_enter Try.func9, Try.ntmps9
    go_wp2
    go_ret
    exact ⟨rfl, Below.refl _ _⟩
  · have w0' := w0.2.1
    unfold maxLen at w0'
    have hle := w0.1
    have HW := Lib.hid w0
    clear w0
    go_enter Try.func9, Try.ntmps9
    go_wp2_with fail
    refine (drDateAdd_any _ _ _ _ HW.out).mono ?_; rintro e w1 ⟨y, m, d, k, rfl, y0, y1, m0, m1, d0, d1, k0, k1, hB1⟩
    by_cases h : valB y m d = true ∧ 0 ≤ num y m d + k ∧ num y m d + k ≤ 1460969
    · obtain ⟨hv, h0, h1⟩ := h
      by_cases kn : 0 ≤ k
      · have hn := num_bd hv
        go_wp2_with fail
        refine (iDA_t _ _ _ _ _ hv h0 h1).mono ?_; rintro e w2 ⟨a, b, c, rfl, v2, n2, hw2⟩
        have N2 := Lib.hid n2
        clear n2
        obtain ⟨hD2, hC2⟩ := ownb hw2
        have hB2 := bel_next hB1 hC2
        obtain ⟨d2_0, d2_1, d2_2, d2f_0, d2f_1, d2f_2, d2z⟩ := blk3 hD2
        go_wp2_with fail
        refine (sDA_t _ _ _ _ _ hv h0 h1).mono ?_; rintro e w3 ⟨a', b', c', rfl, v3, n3, hw3⟩
        obtain ⟨rfl, rfl, rfl⟩ := num_inj v2 v3 (N2.out.trans n3.symm)
        clear n3 v3
        obtain ⟨hX3, hC3⟩ := ownb hw3
        have hD3 := blk_next hD2 hC3
        have hB3 := bel_next hB2 hC3
        obtain ⟨d3_0, d3_1, d3_2, d3f_0, d3f_1, d3f_2, d3z⟩ := blk3 hD3
        obtain ⟨x3_0, x3_1, x3_2, x3f_0, x3f_1, x3f_2, x3z⟩ := blk3 hX3
        clear d2_0 d2_1 d2_2 d2f_0 d2f_1 d2f_2 hw2 hw3 hC2 hC3 hB2
        go_wp2_with fail
        refine (iDA_t _ _ _ _ _ v2 (by have := N2.out; omega) (by have := N2.out; omega)).mono ?_; rintro e w4 ⟨a4, b4, c4, rfl, v4, n4, hw4⟩
        obtain ⟨rfl, rfl, rfl⟩ := num_inj v4 hv (by rw [n4]; have := N2.out; omega)
        clear n4 v4
        obtain ⟨_, hC4⟩ := ownb hw4
        have hD4 := blk_next hD3 hC4
        have hX4 := blk_next hX3 hC4
        have hB4 := bel_next hB3 hC4
        obtain ⟨d4_0, d4_1, d4_2, d4f_0, d4f_1, d4f_2, d4z⟩ := blk3 hD4
        clear d3_0 d3_1 d3_2 d3f_0 d3f_1 d3f_2 x3_0 x3_1 x3_2 x3f_0 x3f_1 x3f_2 hw4 hC4 hD2 hD3 hX3 hB3
        go_wp2_with fail
        refine (iDA_t _ _ _ _ _ hv (by omega) (by omega)).mono ?_; rintro e w5 ⟨a5, b5, c5, rfl, v5, n5, hw5⟩
        have N5 := Lib.hid n5
        clear n5
        obtain ⟨hK5, hC5⟩ := ownb hw5
        have hD5 := blk_next hD4 hC5
        have hX5 := blk_next hX4 hC5
        have hB5 := bel_next hB4 hC5
        clear d4_0 d4_1 d4_2 d4f_0 d4f_1 d4f_2 hw5 hC5 hD4 hX4 hB4
        go_wp2_with fail
        refine (iDA_t _ _ _ _ _ v5 (by have := N5.out; omega) (by have := N5.out; omega)).mono ?_; rintro e w6 ⟨a6, b6, c6, rfl, v6, n6, hw6⟩
        obtain ⟨rfl, rfl, rfl⟩ := num_inj v6 v2 (by rw [n6]; have := N2.out; have := N5.out; omega)
        clear n6 v6
        obtain ⟨_, hC6⟩ := ownb hw6
        have hD6 := blk_next hD5 hC6
        have hX6 := blk_next hX5 hC6
        have hK6 := blk_next hK5 hC6
        have hB6 := bel_next hB5 hC6
        obtain ⟨d6_0, d6_1, d6_2, d6f_0, d6f_1, d6f_2, d6z⟩ := blk3 hD6
        obtain ⟨x6_0, x6_1, x6_2, x6f_0, x6f_1, x6f_2, x6z⟩ := blk3 hX6
        obtain ⟨k6_0, k6_1, k6_2, k6f_0, k6f_1, k6f_2, k6z⟩ := blk3 hK6
        clear hw6 hC6 hD5 hX5 hK5 hB5
        go_wp2
        go_ret
        exact ⟨rfl, hB6.alloc (by have := hB6.size; omega) _⟩
      · have t0 : k ≤ k.tdiv 2 ∧ k.tdiv 2 ≤ 0 := by
          have e : k.tdiv 2 = -((-k).tdiv 2) := by rw [Int.neg_tdiv, Int.neg_neg]
          rw [e, Int.tdiv_eq_ediv_of_nonneg (a := -k) (by omega)]
          omega
        have hn := num_bd hv
        go_wp2_with fail
        refine (iDA_t _ _ _ _ _ hv h0 h1).mono ?_; rintro e w2 ⟨a, b, c, rfl, v2, n2, hw2⟩
        have N2 := Lib.hid n2
        clear n2
        obtain ⟨hD2, hC2⟩ := ownb hw2
        have hB2 := bel_next hB1 hC2
        obtain ⟨d2_0, d2_1, d2_2, d2f_0, d2f_1, d2f_2, d2z⟩ := blk3 hD2
        go_wp2_with fail
        refine (sDA_t _ _ _ _ _ hv h0 h1).mono ?_; rintro e w3 ⟨a', b', c', rfl, v3, n3, hw3⟩
        obtain ⟨rfl, rfl, rfl⟩ := num_inj v2 v3 (N2.out.trans n3.symm)
        clear n3 v3
        obtain ⟨hX3, hC3⟩ := ownb hw3
        have hD3 := blk_next hD2 hC3
        have hB3 := bel_next hB2 hC3
        obtain ⟨d3_0, d3_1, d3_2, d3f_0, d3f_1, d3f_2, d3z⟩ := blk3 hD3
        obtain ⟨x3_0, x3_1, x3_2, x3f_0, x3f_1, x3f_2, x3z⟩ := blk3 hX3
        clear d2_0 d2_1 d2_2 d2f_0 d2f_1 d2f_2 hw2 hw3 hC2 hC3 hB2
        go_wp2_with fail
        refine (iDA_t _ _ _ _ _ v2 (by have := N2.out; omega) (by have := N2.out; omega)).mono ?_; rintro e w4 ⟨a4, b4, c4, rfl, v4, n4, hw4⟩
        obtain ⟨rfl, rfl, rfl⟩ := num_inj v4 hv (by rw [n4]; have := N2.out; omega)
        clear n4 v4
        obtain ⟨_, hC4⟩ := ownb hw4
        have hD4 := blk_next hD3 hC4
        have hX4 := blk_next hX3 hC4
        have hB4 := bel_next hB3 hC4
        obtain ⟨d4_0, d4_1, d4_2, d4f_0, d4f_1, d4f_2, d4z⟩ := blk3 hD4
        clear d3_0 d3_1 d3_2 d3f_0 d3f_1 d3f_2 x3_0 x3_1 x3_2 x3f_0 x3f_1 x3f_2 hw4 hC4 hD2 hD3 hX3 hB3
        go_wp2_with fail
        refine (iDA_t _ _ _ _ _ hv (by omega) (by omega)).mono ?_; rintro e w5 ⟨a5, b5, c5, rfl, v5, n5, hw5⟩
        have N5 := Lib.hid n5
        clear n5
        obtain ⟨hK5, hC5⟩ := ownb hw5
        have hD5 := blk_next hD4 hC5
        have hX5 := blk_next hX4 hC5
        have hB5 := bel_next hB4 hC5
        clear d4_0 d4_1 d4_2 d4f_0 d4f_1 d4f_2 hw5 hC5 hD4 hX4 hB4
        go_wp2_with fail
        refine (iDA_t _ _ _ _ _ v5 (by have := N5.out; omega) (by have := N5.out; omega)).mono ?_; rintro e w6 ⟨a6, b6, c6, rfl, v6, n6, hw6⟩
        obtain ⟨rfl, rfl, rfl⟩ := num_inj v6 v2 (by rw [n6]; have := N2.out; have := N5.out; omega)
        clear n6 v6
        obtain ⟨_, hC6⟩ := ownb hw6
        have hD6 := blk_next hD5 hC6
        have hX6 := blk_next hX5 hC6
        have hK6 := blk_next hK5 hC6
        have hB6 := bel_next hB5 hC6
        obtain ⟨d6_0, d6_1, d6_2, d6f_0, d6f_1, d6f_2, d6z⟩ := blk3 hD6
        obtain ⟨x6_0, x6_1, x6_2, x6f_0, x6f_1, x6f_2, x6z⟩ := blk3 hX6
        obtain ⟨k6_0, k6_1, k6_2, k6f_0, k6f_1, k6f_2, k6z⟩ := blk3 hK6
        clear hw6 hC6 hD5 hX5 hK5 hB5
        go_wp2
        go_ret
        exact ⟨rfl, hB6.alloc (by have := hB6.size; omega) _⟩
    · have H := Lib.hid h
      clear h
      go_wp2_with fail
      refine (iDA_f _ _ _ _ _ H.out).mono ?_; rintro e w2 ⟨rfl, hw2⟩
      obtain ⟨hD2, hC2⟩ := ownb hw2
      have hB2 := bel_next hB1 hC2
      obtain ⟨d2_0, d2_1, d2_2, d2f_0, d2f_1, d2f_2, d2z⟩ := blk3 hD2
      go_wp2_with fail
      refine (sDA_f _ _ _ _ _ H.out).mono ?_; rintro e w3 ⟨rfl, hw3⟩
      obtain ⟨hX3, hC3⟩ := ownb hw3
      have hB3 := bel_next hB2 hC3
      obtain ⟨x3_0, x3_1, x3_2, x3f_0, x3f_1, x3f_2, x3z⟩ := blk3 hX3
      go_wp2_with fail
      refine (alive_any _).mono ?_; rintro e w' ⟨rfl, rfl⟩
      go_wp2
      go_ret
      exact ⟨rfl, hB3.alloc (by have := hB3.size; omega) _⟩

set_option maxRecDepth 100000 in
theorem lifted (os : Os) (started : os.Started) (H : Type) (enc : TypeId × Value → H) :
    ReturnsInHanded {} Try.checked os 9 .any (Rows.fnDateAddSpec.pre6 enc Try.prog Try.f9 Rows.fnDateAddRow.domain false) (Rows.fnDateAddSpec.post enc Try.prog Try.f9 false true false false) := by
  refine returnsInHanded_of_change (C := Try.checked) own started (by kernel_rfl) Try.func9
    (ChangeSpec.witness6 (enc := enc) (C := Try.checked) false ⟨#[], #[.slice none 0 0], []⟩ 8 (by kernel_rfl) (by kernel_rfl) (by kernel_rfl) (by kernel_rfl)) ?_
  intro W base args ds gs before hval0 hW hcnd _
  have hval : ∀ (j : Nat) t v, Try.f9.params[j]? = some t → args[j]? = some v → Value.okWide Try.prog W .any base t v := hval0
  have hW' := hW
  obtain ⟨p, q, hA0, hV, rfl, hfz, hnd⟩ := hW
  have hA : DataW.TrodAll enc Try.prog W 0 (fun _ => true) true Try.f9.params.toList args.toList ds p := hA0
  rw [Try.params9] at hA hval
  obtain ⟨v0, vs0, d0, ds0, p0, q0, hargs, rfl, rfl, h0, r0⟩ := trodAll_cons hA
  obtain ⟨rfl, rfl, rfl⟩ := trodAll_nil r0
  obtain rfl : args = #[v0] := by cases args; simp_all
  obtain ⟨rfl, rfl⟩ := trodVars_none hV
  have k0 := h0
  have lt0 : ∀ x ∈ p0, x.block < W.heap.size := by obtain ⟨m, hm⟩ := k0; exact DataW.trod_lt m _ _ _ hm
  obtain ⟨a0, len0, cap0, rfl⟩ := okWide_slice Try.underlying22 (hval 0 22 v0 rfl rfl)
  have w0 : CodeOk W a0 len0 cap0 := by
    obtain ⟨fuel, hf⟩ := h0
    rcases open_ints Try.underlying22 Try.underlying5 (by kernel_rfl) hf with ⟨hcs, _⟩ | ⟨x, l, c, zs, hcs, _, hl, hm, hz, _, hcell, hwz⟩
    · simp [Value.cells] at hcs
      obtain ⟨rfl, rfl, rfl⟩ := hcs
      exact code_nil W
    · simp [Value.cells] at hcs
      obtain ⟨rfl, rfl, rfl⟩ := hcs
      exact code_ok hl hm (by simp at hz; omega) hcell hwz
  clear hA0 hval0
  refine (walk W a0 len0 cap0 w0).mono fun e W' ⟨he, bel⟩ => ?_
  subst he
  exact ⟨_, rfl, _, _, _, [], _, [], hW', trodAll_mk1 (shut_bool Try.underlying4 _), (trodAll_cons_mk (Below.trod laidOut (by kernel_rfl) (of_decide_eq_true (by kernel_rfl)) k0 bel lt0) trodAll_mk0), rfl, bel.frame _, fun h => by cases h⟩

theorem over : Rows.fnDateAddRow.holds Try.pinned (OpenSpec.ofChange Rows.fnDateAddSpec) :=
  OpenClaim.holds_of_wide 9 Try.f9 rfl rfl rfl rfl rfl rfl rfl ⟨rfl, rfl, rfl, rfl, rfl⟩ rfl rfl rfl rfl rfl (by kernel_rfl) Try.func9 (by kernel_rfl)
    (of_decide_eq_true (by kernel_rfl)) (by unfold Func.isWrapper; first | (rw [if_pos (by decide +kernel)]; kernel_rfl) | (rw [if_neg (by decide +kernel)]; exact ⟨rfl, rfl⟩))
    (fun os started H enc _ => lifted os started H enc)

/-- The statement. -/
theorem proved : Rows.FnDateAddSaid :=
  over
#print axioms proved
end Go.Proofs.Ythfehlmddlfcmaa.fnDateAdd
