/- FnOldOf: whatever the input, the law returns true, and its arguments read as they did. No conditions beyond those of the statement's row. -/
import Derived.Test.YthfehlmddlfcmaaDr1
import Derived.Test.YthfehlmddlfcmaaCh
import Derived.Test.YthfehlmddlfcmaaCal4
namespace Go.Proofs.Ythfehlmddlfcmaa.fnOldOf
open Go.Proofs.Ythfehlmddlfcmaa
open Go.ChangeShapes Go.WideShapes Go.ChangeAt Go.RowKit Go.Joins
set_option linter.unusedVariables false
set_option linter.unusedSimpArgs false

theorem own : ownKnob Try.prog.godebug = none := by kernel_rfl
theorem laidOut : laidOutB Try.prog = true := by kernel_rfl

set_option maxRecDepth 100000 in
set_option maxHeartbeats 4000000 in
theorem walk (w : World) (a0 : Option Addr) (len0 cap0 : Nat) (w0 : CodeOk w a0 len0 cap0) :
    Calls Try.prog 17 #[.slice a0 len0 cap0] w fun e w' => e = .returned (.bool true) ∧ Below w.heap.size w w' := by
  by_cases hl : 1048576 < len0
  · have w0' := w0.2.1
    unfold maxLen at w0'
    clear w0
    go_enter Try.func17, Try.ntmps17
    go_wp2
    go_ret
    exact ⟨rfl, Below.refl _ _⟩
  · have w0' := w0.2.1
    unfold maxLen at w0'
    have hle := w0.1
    have HW := Lib.hid w0
    clear w0
    go_enter Try.func17, Try.ntmps17
    go_wp2_with fail
    refine (drOldOf_any _ _ _ _ HW.out).mono ?_; rintro e w1 ⟨y, rfl, y0, y1, hB1⟩
    by_cases hy : -2 ≤ y ∧ y ≤ 1460969
    · go_wp2_with fail
      refine (iOO_t _ _ hy.1 hy.2).mono ?_; rintro e w2 ⟨a, b, c, rfl, v1, n1, hw2⟩
      go_wp2_with fail
      refine (sOO_t _ _ hy.1 hy.2).mono ?_; rintro e w3 ⟨a', b', c', rfl, v2, n2, hw3⟩
      obtain ⟨rfl, rfl, rfl⟩ := onum_inj v1 v2 (n1.trans n2.symm)
      obtain ⟨hH3, hC3⟩ := ownb hw3
      obtain ⟨c3_0, c3_1, c3_2, f3_0, f3_1, f3_2, hz3⟩ := blk3 hH3
      have hB3 := bel_next (bel_next hB1 hw2) hC3
      have N1 := Lib.hid n1
      clear n1 n2
      go_wp2_with fail
      by_cases h2 : -2 ≤ y + 1 ∧ y + 1 ≤ 1460969
      · refine (iOO_t _ _ h2.1 h2.2).mono ?_; rintro e w4 ⟨a2, b2, c2, rfl, v4, n4, hw4⟩
        have hL := old_next v1 v4 (by rw [n4, N1.out])
        have HL := Lib.hid hL
        clear n4 hL
        obtain ⟨hG4, hC4⟩ := ownb hw4
        have hH4 := blk_next hH3 hC4
        have hB4 := bel_next hB3 hC4
        obtain ⟨c4_0, c4_1, c4_2, f4_0, f4_1, f4_2, hz4⟩ := blk3 hH4
        go_wp2_with fail
        refine (iON_t _ _ _ _ v1).mono ?_; rintro e w5 ⟨rfl, hw5⟩
        obtain ⟨hG5, hC5⟩ := ownb hw5
        have hH5 := blk_next hH4 hC5
        have hB5 := bel_next hB4 hC5
        obtain ⟨c5_0, c5_1, c5_2, f5_0, f5_1, f5_2, hz5⟩ := blk3 hH5
        rw [N1.out]
        go_wp2_with fail
        refine (iOV_any _ _ _ _).mono ?_; rintro e w6 ⟨rfl, hw6⟩
        have hH6 := blk_next hH5 hw6
        have hG6 := blk_next hG5 hw6
        have hB6 := bel_next hB5 hw6
        obtain ⟨c6_0, c6_1, c6_2, f6_0, f6_1, f6_2, hz6⟩ := blk3 hH6
        obtain ⟨g6_0, g6_1, g6_2, e6_0, e6_1, e6_2, hz6'⟩ := blk3 hG6
        obtain ⟨k1, k2, _, _, k5, k6⟩ := oval_in v1
        have k7 : c ≤ 31 := by have := dim_le b (a % 4 == 0); omega
        go_wp2
        all_goals go_ret
        all_goals exact ⟨ret_bool (by first | rfl | (rw [beq_iff_eq]; have := HL.out; omega)), hB6⟩
      · refine (iOO_f _ _ h2).mono ?_; rintro e w4 ⟨rfl, hw4⟩
        obtain ⟨hG4, hC4⟩ := ownb hw4
        have hH4 := blk_next hH3 hC4
        have hB4 := bel_next hB3 hC4
        obtain ⟨c4_0, c4_1, c4_2, f4_0, f4_1, f4_2, hz4⟩ := blk3 hH4
        go_wp2_with fail
        refine (iON_t _ _ _ _ v1).mono ?_; rintro e w5 ⟨rfl, hw5⟩
        obtain ⟨hG5, hC5⟩ := ownb hw5
        have hH5 := blk_next hH4 hC5
        have hB5 := bel_next hB4 hC5
        obtain ⟨c5_0, c5_1, c5_2, f5_0, f5_1, f5_2, hz5⟩ := blk3 hH5
        rw [N1.out]
        go_wp2_with fail
        refine (iOV_any _ _ _ _).mono ?_; rintro e w6 ⟨rfl, hw6⟩
        have hB6 := bel_next hB5 hw6
        go_wp2
        go_ret
        exact ⟨rfl, hB6⟩
    · have H := Lib.hid hy
      clear hy
      go_wp2_with fail
      refine (iOO_f _ _ H.out).mono ?_; rintro e w2 ⟨rfl, hw2⟩
      go_wp2_with fail
      refine (sOO_f _ _ H.out).mono ?_; rintro e w3 ⟨rfl, hw3⟩
      obtain ⟨hH3, hC3⟩ := ownb hw3
      obtain ⟨c3_0, c3_1, c3_2, f3_0, f3_1, f3_2, hz3⟩ := blk3 hH3
      have hB3 := bel_next (bel_next hB1 hw2) hC3
      go_wp2_with fail
      refine (alive_any _).mono ?_; rintro e w' ⟨rfl, rfl⟩
      go_wp2
      go_ret
      exact ⟨rfl, hB3.alloc (by have := hB3.size; omega) _⟩

set_option maxRecDepth 100000 in
theorem lifted (os : Os) (started : os.Started) (H : Type) (enc : TypeId × Value → H) :
    ReturnsInHanded {} Try.checked os 17 .any (Rows.fnOldOfSpec.pre6 enc Try.prog Try.f17 Rows.fnOldOfRow.domain false) (Rows.fnOldOfSpec.post enc Try.prog Try.f17 false true false false) := by
  refine returnsInHanded_of_change (C := Try.checked) own started (by kernel_rfl) Try.func17
    (ChangeSpec.witness6 (enc := enc) (C := Try.checked) false ⟨#[], #[.slice none 0 0], []⟩ 8 (by kernel_rfl) (by kernel_rfl) (by kernel_rfl) (by kernel_rfl)) ?_
  intro W base args ds gs before hval0 hW hcnd _
  have hval : ∀ (j : Nat) t v, Try.f17.params[j]? = some t → args[j]? = some v → Value.okWide Try.prog W .any base t v := hval0
  have hW' := hW
  obtain ⟨p, q, hA0, hV, rfl, hfz, hnd⟩ := hW
  have hA : DataW.TrodAll enc Try.prog W 0 (fun _ => true) true Try.f17.params.toList args.toList ds p := hA0
  rw [Try.params17] at hA hval
  obtain ⟨v0, vs0, d0, ds0, p0, q0, hargs, rfl, rfl, h0, r0⟩ := trodAll_cons hA
  obtain ⟨rfl, rfl, rfl⟩ := trodAll_nil r0
  obtain rfl : args = #[v0] := by cases args; simp_all
  obtain ⟨rfl, rfl⟩ := trodVars_none hV
  have k0 := h0
  have lt0 : ∀ x ∈ p0, x.block < W.heap.size := by obtain ⟨m, hm⟩ := k0; exact DataW.trod_lt m _ _ _ hm
  obtain ⟨a0, len0, cap0, rfl⟩ := okWide_slice Try.underlying22 (hval 0 22 v0 rfl rfl)
  have w0 : CodeOk W a0 len0 cap0 := by
    obtain ⟨fuel, hf⟩ := h0
    rcases open_ints Try.underlying22 Try.underlying5 (by kernel_rfl) hf with ⟨hcs, _⟩ | ⟨x, l, c, zs, hcs, _, hl, hm, hz, _, hcell, hwz⟩
    · simp [Value.cells] at hcs
      obtain ⟨rfl, rfl, rfl⟩ := hcs
      exact code_nil W
    · simp [Value.cells] at hcs
      obtain ⟨rfl, rfl, rfl⟩ := hcs
      exact code_ok hl hm (by simp at hz; omega) hcell hwz
  clear hA0 hval0
  refine (walk W a0 len0 cap0 w0).mono fun e W' ⟨he, bel⟩ => ?_
  subst he
  exact ⟨_, rfl, _, _, _, [], _, [], hW', trodAll_mk1 (shut_bool Try.underlying4 _), (trodAll_cons_mk (Below.trod laidOut (by kernel_rfl) (of_decide_eq_true (by kernel_rfl)) k0 bel lt0) trodAll_mk0), rfl, bel.frame _, fun h => by cases h⟩

theorem over : Rows.fnOldOfRow.holds Try.pinned (OpenSpec.ofChange Rows.fnOldOfSpec) :=
  OpenClaim.holds_of_wide 17 Try.f17 rfl rfl rfl rfl rfl rfl rfl ⟨rfl, rfl, rfl, rfl, rfl⟩ rfl rfl rfl rfl rfl (by kernel_rfl) Try.func17 (by kernel_rfl)
    (of_decide_eq_true (by kernel_rfl)) (by unfold Func.isWrapper; first | (rw [if_pos (by decide +kernel)]; kernel_rfl) | (rw [if_neg (by decide +kernel)]; exact ⟨rfl, rfl⟩))
    (fun os started H enc _ => lifted os started H enc)

/-- The statement. -/
theorem proved : Rows.FnOldOfSaid :=
  over
#print axioms proved
end Go.Proofs.Ythfehlmddlfcmaa.fnOldOf
