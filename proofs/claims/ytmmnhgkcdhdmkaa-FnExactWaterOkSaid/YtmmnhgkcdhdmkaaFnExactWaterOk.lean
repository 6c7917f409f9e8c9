/- FnExactWaterOk: whatever the input, the law returns true, and its arguments read as they did. No conditions beyond those of the statement's row. -/
import Derived.Test.YtmmnhgkcdhdmkaaQw
namespace Go.Proofs.Ytmmnhgkcdhdmkaa.fnExactWaterOk
open Go.Proofs.Ytmmnhgkcdhdmkaa
open Go.ChangeShapes Go.WideShapes Go.ChangeAt Go.RowKit Go.Joins
set_option linter.unusedVariables false
set_option linter.unusedSimpArgs false
set_option linter.unnecessarySimpa false

theorem own : ownKnob Try.prog.godebug = none := by kernel_rfl
theorem laidOut : laidOutB Try.prog = true := by kernel_rfl

set_option maxRecDepth 100000 in
set_option maxHeartbeats 4000000 in
theorem walk (w : World) (a0 : Int) (w0 : (Lit.int .i64 a0).wf = true) (a1 : Int) (w1 : (Lit.int .i64 a1).wf = true) (A2 : Option Addr) (cap2 : Nat) (xs2 : List Int) (w2 : SRow encNum w A2 xs2) (l2 : xs2.length ≤ maxLen) (q2 : ∀ v ∈ xs2, Wf v) (A3 : Option Addr) (cap3 : Nat) (xs3 : List Bool) (w3 : SRow encBool w A3 xs3) (l3 : xs3.length ≤ maxLen) (q3 : ∀ v ∈ xs3, True) :
    Calls Try.prog 11 #[.int .i64 a0, .int .i64 a1, .slice A2 xs2.length cap2, .slice A3 xs3.length cap3] w fun e w' => e = .returned (.bool true) ∧ Below w.heap.size w w' := by
  obtain ⟨v, hv⟩ : ∃ v, woB a0 a1 xs2 xs3 = v := ⟨_, rfl⟩
  have HV := Lib.hid hv
  clear hv
  have hW2 := w2
  have hW3 := w3
  clear q2 q3
  have l2' := l2
  unfold maxLen at l2'
  have l3' := l3
  unfold maxLen at l3'
  by_cases hl : xs2.length ≤ 1048576
  · have hi2 : ¬ (xs2.length : Int) > 1048576 := by omega
    have hn2 : xs2.length ≤ 1048576 := hl
    clear hl
    by_cases hl : xs3.length ≤ 1048576
    · have hi3 : ¬ (xs3.length : Int) > 1048576 := by omega
      have hn3 : xs3.length ≤ 1048576 := hl
      clear hl
      go_enter Try.func11, Try.ntmps11
      have hB0 := Below.refl w.heap.size w
      have hA2_0 := hW2
      have hA3_0 := hW3
      go_wp2_with fail
      refine (toNumS_any A2 cap2 xs2 _ hA2_0 (by omega)).mono ?_; rintro e' w1 ⟨gC2_, rfl, hgC2_, hC2_1, hw1⟩
      have hA2_1 := hA2_0.next hw1
      have hA3_1 := hA3_0.next hw1
      have hB1 := bel_next hB0 hw1
      go_wp2_with fail
      refine (toBoolS_any A3 cap3 xs3 _ hA3_1 (by omega)).mono ?_; rintro e' w2 ⟨gC3_, rfl, hgC3_, hC3_2, hw2⟩
      have hA2_2 := hA2_1.next hw2
      have hA3_2 := hA3_1.next hw2
      have hC2_2 := hC2_1.next hw2
      have hB2 := bel_next hB1 hw2
      go_wp2_with fail
      refine (sWo_is _ _ _ _ xs2 xs3 _ rfl rfl hC2_2.row hC3_2.row (by omega) (by omega) HV.out).mono ?_; rintro e' w3 ⟨rfl, hw3⟩
      have hA2_3 := hA2_2.next hw3
      have hA3_3 := hA3_2.next hw3
      have hC2_3 := hC2_2.next hw3
      have hC3_3 := hC3_2.next hw3
      have hB3 := bel_next hB2 hw3
      go_wp2_with fail
      refine (toNumS_any A2 cap2 xs2 _ hA2_3 (by omega)).mono ?_; rintro e' w4 ⟨gD2_, rfl, hgD2_, hD2_4, hw4⟩
      have hA2_4 := hA2_3.next hw4
      have hA3_4 := hA3_3.next hw4
      have hC2_4 := hC2_3.next hw4
      have hC3_4 := hC3_3.next hw4
      have hB4 := bel_next hB3 hw4
      go_wp2_with fail
      refine (toBoolS_any A3 cap3 xs3 _ hA3_4 (by omega)).mono ?_; rintro e' w5 ⟨gD3_, rfl, hgD3_, hD3_5, hw5⟩
      have hA2_5 := hA2_4.next hw5
      have hA3_5 := hA3_4.next hw5
      have hC2_5 := hC2_4.next hw5
      have hC3_5 := hC3_4.next hw5
      have hD2_5 := hD2_4.next hw5
      have hB5 := bel_next hB4 hw5
      go_wp2_with fail
      refine (iWo_is _ _ _ _ xs2 xs3 _ rfl rfl hD2_5.row hD3_5.row (by omega) (by omega) HV.out).mono ?_; rintro e' w6 ⟨rfl, hw6⟩
      have hA2_6 := hA2_5.next hw6
      have hA3_6 := hA3_5.next hw6
      have hC2_6 := hC2_5.next hw6
      have hC3_6 := hC3_5.next hw6
      have hD2_6 := hD2_5.next hw6
      have hD3_6 := hD3_5.next hw6
      have hB6 := bel_next hB5 hw6
      cases v
      all_goals
        go_wp2_with fail
        refine (toNumS_any A2 cap2 xs2 _ hA2_6 (by omega)).mono ?_; rintro e' w7 ⟨gE2_, rfl, hgE2_, hE2_7, hw7⟩
        have hA2_7 := hA2_6.next hw7
        have hA3_7 := hA3_6.next hw7
        have hC2_7 := hC2_6.next hw7
        have hC3_7 := hC3_6.next hw7
        have hD2_7 := hD2_6.next hw7
        have hD3_7 := hD3_6.next hw7
        have hB7 := bel_next hB6 hw7
        go_wp2_with fail
        refine (eqNumS_same _ _ _ _ xs2 rfl hD2_7.row hE2_7.row (by omega)).mono ?_; rintro e' w8 ⟨rfl, hw8⟩
        have hA2_8 := hA2_7.next hw8
        have hA3_8 := hA3_7.next hw8
        have hC2_8 := hC2_7.next hw8
        have hC3_8 := hC3_7.next hw8
        have hD2_8 := hD2_7.next hw8
        have hD3_8 := hD3_7.next hw8
        have hE2_8 := hE2_7.next hw8
        have hB8 := bel_next hB7 hw8
        go_wp2_with fail
        refine (toBoolS_any A3 cap3 xs3 _ hA3_8 (by omega)).mono ?_; rintro e' w9 ⟨gE3_, rfl, hgE3_, hE3_9, hw9⟩
        have hA2_9 := hA2_8.next hw9
        have hA3_9 := hA3_8.next hw9
        have hC2_9 := hC2_8.next hw9
        have hC3_9 := hC3_8.next hw9
        have hD2_9 := hD2_8.next hw9
        have hD3_9 := hD3_8.next hw9
        have hE2_9 := hE2_8.next hw9
        have hB9 := bel_next hB8 hw9
        go_wp2_with fail
        refine (eqBoolS_same _ _ _ _ xs3 rfl hD3_9.row hE3_9.row (by omega)).mono ?_; rintro e' w10 ⟨rfl, hw10⟩
        have hA2_10 := hA2_9.next hw10
        have hA3_10 := hA3_9.next hw10
        have hC2_10 := hC2_9.next hw10
        have hC3_10 := hC3_9.next hw10
        have hD2_10 := hD2_9.next hw10
        have hD3_10 := hD3_9.next hw10
        have hE2_10 := hE2_9.next hw10
        have hE3_10 := hE3_9.next hw10
        have hB10 := bel_next hB9 hw10
        go_wp2
        go_ret
        exact ⟨rfl, by first | exact hB10 | exact hB10.drew⟩
    · have hi3 : (xs3.length : Int) > 1048576 := by omega
      clear hl
      go_enter Try.func11, Try.ntmps11
      go_wp2
      go_ret
      exact ⟨rfl, Below.refl _ _⟩
  · have hi2 : (xs2.length : Int) > 1048576 := by omega
    clear hl
    go_enter Try.func11, Try.ntmps11
    go_wp2
    go_ret
    exact ⟨rfl, Below.refl _ _⟩

set_option maxRecDepth 100000 in
theorem lifted (os : Os) (started : os.Started) (H : Type) (enc : TypeId × Value → H) :
    ReturnsInHanded {} Try.checked os 11 .any (Rows.fnExactWaterOkSpec.pre6 enc Try.prog Try.f11 Rows.fnExactWaterOkRow.domain false) (Rows.fnExactWaterOkSpec.post enc Try.prog Try.f11 false true false false) := by
  refine returnsInHanded_of_change (C := Try.checked) own started (by kernel_rfl) Try.func11
    (ChangeSpec.witness6 (enc := enc) (C := Try.checked) false ⟨#[], #[.int .i64 0, .int .i64 0, .slice none 0 0, .slice none 0 0], []⟩ 8 (by kernel_rfl) (by kernel_rfl) (by kernel_rfl) (by kernel_rfl)) ?_
  intro W base args ds gs before hval0 hW hcnd _
  have hval : ∀ (j : Nat) t v, Try.f11.params[j]? = some t → args[j]? = some v → Value.okWide Try.prog W .any base t v := hval0
  have hW' := hW
  obtain ⟨p, q, hA0, hV, rfl, hfz, hnd⟩ := hW
  have hA : DataW.TrodAll enc Try.prog W 0 (fun _ => true) true Try.f11.params.toList args.toList ds p := hA0
  rw [Try.params11] at hA hval
  obtain ⟨v0, vs0, d0, ds0, p0, q0, hargs, rfl, rfl, h0, r0⟩ := trodAll_cons hA
  obtain ⟨v1, vs1, d1, ds1, p1, q1, rfl, rfl, rfl, h1, r1⟩ := trodAll_cons r0
  obtain ⟨v2, vs2, d2, ds2, p2, q2, rfl, rfl, rfl, h2, r2⟩ := trodAll_cons r1
  obtain ⟨v3, vs3, d3, ds3, p3, q3, rfl, rfl, rfl, h3, r3⟩ := trodAll_cons r2
  obtain ⟨rfl, rfl, rfl⟩ := trodAll_nil r3
  obtain rfl : args = #[v0, v1, v2, v3] := by cases args; simp_all
  obtain ⟨rfl, rfl⟩ := trodVars_none hV
  have k0 := h0
  have lt0 : ∀ x ∈ p0, x.block < W.heap.size := by obtain ⟨m, hm⟩ := k0; exact DataW.trod_lt m _ _ _ hm
  have k1 := h1
  have lt1 : ∀ x ∈ p1, x.block < W.heap.size := by obtain ⟨m, hm⟩ := k1; exact DataW.trod_lt m _ _ _ hm
  have k2 := h2
  have lt2 : ∀ x ∈ p2, x.block < W.heap.size := by obtain ⟨m, hm⟩ := k2; exact DataW.trod_lt m _ _ _ hm
  have k3 := h3
  have lt3 : ∀ x ∈ p3, x.block < W.heap.size := by obtain ⟨m, hm⟩ := k3; exact DataW.trod_lt m _ _ _ hm
  obtain ⟨a0, rfl, rfl, rfl, w0⟩ := open_int Try.underlying3 (hval 0 3 v0 rfl rfl) h0
  obtain ⟨a1, rfl, rfl, rfl, w1⟩ := open_int Try.underlying3 (hval 1 3 v1 rfl rfl) h1
  obtain ⟨A2, len2, cap2, rfl⟩ := okWide_slice Try.underlying22 (hval 2 22 v2 rfl rfl)
  obtain ⟨xs2, w2, l2, q2, hlen2⟩ : ∃ xs, SRow encNum W A2 xs ∧ xs.length ≤ maxLen ∧ (∀ v ∈ xs, Wf v) ∧ xs.length = len2 := by
    obtain ⟨fuel, hf⟩ := h2
    obtain ⟨A, cap, xs, hcs, hl, hr, hq⟩ := openNumS hf
    simp [Value.cells] at hcs
    obtain ⟨rfl, hn, rfl⟩ := hcs
    exact ⟨xs, hr, hl, hq, hn.symm⟩
  subst hlen2
  obtain ⟨A3, len3, cap3, rfl⟩ := okWide_slice Try.underlying41 (hval 3 41 v3 rfl rfl)
  obtain ⟨xs3, w3, l3, q3, hlen3⟩ : ∃ xs, SRow encBool W A3 xs ∧ xs.length ≤ maxLen ∧ (∀ v ∈ xs, True) ∧ xs.length = len3 := by
    obtain ⟨fuel, hf⟩ := h3
    obtain ⟨A, cap, xs, hcs, hl, hr, hq⟩ := openBoolS hf
    simp [Value.cells] at hcs
    obtain ⟨rfl, hn, rfl⟩ := hcs
    exact ⟨xs, hr, hl, hq, hn.symm⟩
  subst hlen3
  clear hA0 hval0
  refine (walk W a0 w0 a1 w1 A2 cap2 xs2 w2 l2 q2 A3 cap3 xs3 w3 l3 q3).mono fun e W' ⟨he, bel⟩ => ?_
  subst he
  exact ⟨_, rfl, _, _, _, [], _, [], hW', trodAll_mk1 (shut_bool Try.underlying4 _), (trodAll_cons_mk (Below.trod laidOut (by kernel_rfl) (of_decide_eq_true (by kernel_rfl)) k0 bel lt0) (trodAll_cons_mk (Below.trod laidOut (by kernel_rfl) (of_decide_eq_true (by kernel_rfl)) k1 bel lt1) (trodAll_cons_mk (Below.trod laidOut (by kernel_rfl) (of_decide_eq_true (by kernel_rfl)) k2 bel lt2) (trodAll_cons_mk (Below.trod laidOut (by kernel_rfl) (of_decide_eq_true (by kernel_rfl)) k3 bel lt3) trodAll_mk0)))), rfl, bel.frame _, fun h => by cases h⟩

theorem over : Rows.fnExactWaterOkRow.holds Try.pinned (OpenSpec.ofChange Rows.fnExactWaterOkSpec) :=
  OpenClaim.holds_of_wide 11 Try.f11 rfl rfl rfl rfl rfl rfl rfl ⟨rfl, rfl, rfl, rfl, rfl⟩ rfl rfl rfl rfl rfl (by kernel_rfl) Try.func11 (by kernel_rfl)
    (of_decide_eq_true (by kernel_rfl)) (by unfold Func.isWrapper; first | (rw [if_pos (by decide +kernel)]; kernel_rfl) | (rw [if_neg (by decide +kernel)]; exact ⟨rfl, rfl⟩))
    (fun os started H enc _ => lifted os started H enc)

/-- The statement. -/
theorem proved : Rows.FnExactWaterOkSaid :=
  over
#print axioms proved
end Go.Proofs.Ytmmnhgkcdhdmkaa.fnExactWaterOk
