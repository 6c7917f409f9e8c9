/- FnExactWaterRun: whatever the input, the law returns true, and its arguments read as they did. No conditions beyond those of the statement's row. -/
import Derived.Test.YtmmnhgkcdhdmkaaQw
namespace Go.Proofs.Ytmmnhgkcdhdmkaa.fnExactWaterRun
open Go.Proofs.Ytmmnhgkcdhdmkaa
open Go.ChangeShapes Go.WideShapes Go.ChangeAt Go.RowKit Go.Joins
set_option linter.unusedVariables false
set_option linter.unusedSimpArgs false
set_option linter.unnecessarySimpa false

theorem own : ownKnob Try.prog.godebug = none := by kernel_rfl
theorem laidOut : laidOutB Try.prog = true := by kernel_rfl

set_option maxRecDepth 100000 in
set_option maxHeartbeats 4000000 in
theorem walk (w : World) (a0 : Int) (w0 : (Lit.int .i64 a0).wf = true) (a1 : Int) (w1 : (Lit.int .i64 a1).wf = true) (A2 : Option Addr) (cap2 : Nat) (xs2 : List Int) (w2 : SRow encNum w A2 xs2) (l2 : xs2.length ≤ maxLen) (q2 : ∀ v ∈ xs2, Wf v) :
    Calls Try.prog 10 #[.int .i64 a0, .int .i64 a1, .slice A2 xs2.length cap2] w fun e w' => e = .returned (.bool true) ∧ Below w.heap.size w w' := by
  obtain ⟨l, hl⟩ : ∃ l, wrL a0 a1 xs2 = l := ⟨_, rfl⟩
  have HV := Lib.hid hl
  obtain ⟨c9, hc9⟩ : ∃ c, wrC a0 a1 xs2 = c := ⟨_, rfl⟩
  have HV2 := Lib.hid hc9
  clear hc9
  clear hl 
  have hW2 := w2
  clear q2
  have l2' := l2
  unfold maxLen at l2'
  by_cases hl : xs2.length ≤ 1048576
  · have hi2 : ¬ (xs2.length : Int) > 1048576 := by omega
    have hn2 : xs2.length ≤ 1048576 := hl
    clear hl
    go_enter Try.func10, Try.ntmps10
    have hB0 := Below.refl w.heap.size w
    have hA2_0 := hW2
    have hlen : l.length ≤ 1048576 := by rw [← HV.out]; have := wrL_len a0 a1 xs2; omega
    obtain ⟨m, hm⟩ : ∃ m, l.length = m := ⟨_, rfl⟩
    rw [hm] at hlen
    have HM := Lib.hid hm
    clear hm
    go_wp2_with fail
    refine (toNumS_any A2 cap2 xs2 _ hA2_0 (by omega)).mono ?_; rintro e' w1 ⟨gC2_, rfl, hgC2_, hC2_1, hw1⟩
    have hA2_1 := hA2_0.next hw1
    have hB1 := bel_next hB0 hw1
    have hz1 := hw1.size
    go_wp2_with fail
    refine (sWr_is _ _ xs2 _ rfl hC2_1.row (by omega) HV.out HV2.out).mono ?_; rintro e' w2 ⟨As, cs, rfl, hS2, hw2⟩
    have hA2_2 := hA2_1.next hw2
    have hC2_2 := hC2_1.next hw2
    have hB2 := bel_next hB1 hw2
    have hS2 := hS2.mono hB1.size
    rw [HM.out]
    have hz2 := hw2.size
    have hSlt : ∀ g, As = some ⟨g, 0, none⟩ → g < w2.heap.size := fun g hg => by rcases hS2.form with ⟨e, _⟩ | ⟨g1, e, _, h⟩; rw [e] at hg; cases hg; rw [e] at hg; cases hg; exact h
    go_wp2_with fail
    refine (toNumS_any A2 cap2 xs2 _ hA2_2 (by omega)).mono ?_; rintro e' w3 ⟨gD2_, rfl, hgD2_, hD2_3, hw3⟩
    have hA2_3 := hA2_2.next hw3
    have hS3 := hS2.next hw3
    have hB3 := bel_next hB2 hw3
    have hz3 := hw3.size
    have hDlt2 := hD2_3.lt
    have zB0 := hB3.size
    go_wp2_with fail
    refine (iWr_is _ _ xs2 _ rfl hD2_3.row (by omega) HV.out HV2.out).mono ?_; rintro e' w4 ⟨Ai, ci, rfl, hI4, hw4⟩
    have hA2_4 := hA2_3.next hw4
    have hS4 := hS3.next hw4
    have hD2_4 := hD2_3.next hw4
    have hB4 := bel_next hB3 hw4
    rw [HM.out]
    have hz4 := hw4.size
    have hIge : ∀ g, Ai = some ⟨g, 0, none⟩ → w3.heap.size ≤ g := fun g hg => by rcases hI4.form with ⟨e, _⟩ | ⟨g1, e, h, _⟩; rw [e] at hg; cases hg; rw [e] at hg; cases hg; exact h
    go_wp2_with fail
    refine (eqNumS_same _ _ _ _ l HM.out hI4.row hS4.row (by omega)).mono ?_; rintro e' w5 ⟨rfl, hw5⟩
    have hA2_5 := hA2_4.next hw5
    have hS5 := hS4.next hw5
    have hD2_5 := hD2_4.next hw5
    have hI5 := hI4.next hw5
    have hB5 := bel_next hB4 hw5
    have hz5 := hw5.size
    go_wp2_with fail
    refine (toNumS_any A2 cap2 xs2 _ hA2_5 (by omega)).mono ?_; rintro e' w6 ⟨gE2_, rfl, hgE2_, hE2_6, hw6⟩
    have hA2_6 := hA2_5.next hw6
    have hS6 := hS5.next hw6
    have hD2_6 := hD2_5.next hw6
    have hI6 := hI5.next hw6
    have hB6 := bel_next hB5 hw6
    have hz6 := hw6.size
    go_wp2_with fail
    refine (eqNumS_same _ _ _ _ xs2 rfl hD2_6.row hE2_6.row (by omega)).mono ?_; rintro e' w7 ⟨rfl, hw7⟩
    have hA2_7 := hA2_6.next hw7
    have hS7 := hS6.next hw7
    have hD2_7 := hD2_6.next hw7
    have hI7 := hI6.next hw7
    have hE2_7 := hE2_6.next hw7
    have hB7 := bel_next hB6 hw7
    have hz7 := hw7.size
    go_wp2_with fail
    refine (markNumS_any w.heap.size _ _ xs2 1 rfl (SOwn.of_blk hD2_7 (by omega) rfl l2) (by omega) (by omega) (by omega)).mono ?_; rintro e' wM2 ⟨rfl, hDM, hG⟩
    have hB8 : Below w.heap.size w wM2 := hB7.grown hG hB7.size (fun j hj => by simp [Value.ownBlock] at hj; omega)
    have hI8 := hI7.grown_far hG (fun g hg e => by have := hIge g hg; simp [Value.ownBlock] at e; omega)
    have hS8 := hS7.grown_far hG (fun g hg e => by have := hSlt g hg; simp [Value.ownBlock] at e; omega)
    have hA2_8 := hW2.next hB8
    have hzM2 := hG.size
    clear hG hDM
    have hk0 : ¬ (1 + (xs2.length : Int)) < 0 := by omega
    go_wp2_with fail
    refine (eqNumS_same _ _ _ _ l HM.out hI8.row hS8.row (by omega)).mono ?_; rintro e' w9 ⟨rfl, hw9⟩
    have hA2_9 := hA2_8.next hw9
    have hS9 := hS8.next hw9
    have hI9 := hI8.next hw9
    have hB9 := bel_next hB8 hw9
    have hz9 := hw9.size
    go_wp2_with fail
    refine (markNumS_any w.heap.size _ _ l 1 HM.out (hI9.mono (by omega)) (by omega) (by omega) (by omega)).mono ?_; rintro e' wN ⟨rfl, hIN, hG⟩
    have hB10 : Below w.heap.size w wN := SOwn.below_grown (hI9.mono (by omega)) hB9 hG
    have hS10 := hS9.grown_far hG (fun g hg e => by have := hSlt g hg; rcases hI9.form with ⟨e2, _⟩ | ⟨g1, e2, h, _⟩; rw [e2] at e; simp [Value.ownBlock] at e; rw [e2] at e; simp [Value.ownBlock] at e; have := hIge g1 e2; omega)
    clear hG
    have hI10 := hIN
    have hA2_10 := hW2.next hB10
    go_wp2_with fail
    refine (heldNumS_any Ai ci 1 (m := m) hI10.row (by omega) (by omega) (by omega)).mono ?_; rintro e' w11 ⟨rfl, hw11⟩
    have hA2_11 := hA2_10.next hw11
    have hS11 := hS10.next hw11
    have hI11 := hI10.next hw11
    have hB11 := bel_next hB10 hw11
    have hk1 : ¬ (1 + (m : Int)) < 0 := by omega
    go_wp2_with fail
    refine (toNumS_any A2 cap2 xs2 _ hA2_11 (by omega)).mono ?_; rintro e' w12 ⟨gF2_, rfl, hgF2_, hF2_12, hw12⟩
    have hA2_12 := hA2_11.next hw12
    have hS12 := hS11.next hw12
    have hI12 := hI11.next hw12
    have hB12 := bel_next hB11 hw12
    go_wp2_with fail
    refine (iWr_is _ _ xs2 _ rfl hF2_12.row (by omega) HV.out HV2.out).mono ?_; rintro e' w13 ⟨Ah, ch, rfl, hH13, hw13⟩
    have hA2_13 := hA2_12.next hw13
    have hS13 := hS12.next hw13
    have hI13 := hI12.next hw13
    have hF2_13 := hF2_12.next hw13
    have hB13 := bel_next hB12 hw13
    rw [HM.out]
    go_wp2_with fail
    refine (eqNumS_same _ _ _ _ l HM.out hH13.row hS13.row (by omega)).mono ?_; rintro e' w14 ⟨rfl, hw14⟩
    have hA2_14 := hA2_13.next hw14
    have hS14 := hS13.next hw14
    have hI14 := hI13.next hw14
    have hF2_14 := hF2_13.next hw14
    have hH14 := hH13.next hw14
    have hB14 := bel_next hB13 hw14
    go_wp2_with fail
    refine (heldNumS_any Ai ci 1 (m := m) hI14.row (by omega) (by omega) (by omega)).mono ?_; rintro e' w15 ⟨rfl, hw15⟩
    have hA2_15 := hA2_14.next hw15
    have hS15 := hS14.next hw15
    have hI15 := hI14.next hw15
    have hF2_15 := hF2_14.next hw15
    have hH15 := hH14.next hw15
    have hB15 := bel_next hB14 hw15
    go_wp2
    go_ret
    exact ⟨rfl, by first | exact hB15 | exact hB15.drew⟩
  · have hi2 : (xs2.length : Int) > 1048576 := by omega
    clear hl
    go_enter Try.func10, Try.ntmps10
    go_wp2
    go_ret
    exact ⟨rfl, Below.refl _ _⟩

set_option maxRecDepth 100000 in
theorem lifted (os : Os) (started : os.Started) (H : Type) (enc : TypeId × Value → H) :
    ReturnsInHanded {} Try.checked os 10 .any (Rows.fnExactWaterRunSpec.pre6 enc Try.prog Try.f10 Rows.fnExactWaterRunRow.domain false) (Rows.fnExactWaterRunSpec.post enc Try.prog Try.f10 false true false false) := by
  refine returnsInHanded_of_change (C := Try.checked) own started (by kernel_rfl) Try.func10
    (ChangeSpec.witness6 (enc := enc) (C := Try.checked) false ⟨#[], #[.int .i64 0, .int .i64 0, .slice none 0 0], []⟩ 8 (by kernel_rfl) (by kernel_rfl) (by kernel_rfl) (by kernel_rfl)) ?_
  intro W base args ds gs before hval0 hW hcnd _
  have hval : ∀ (j : Nat) t v, Try.f10.params[j]? = some t → args[j]? = some v → Value.okWide Try.prog W .any base t v := hval0
  have hW' := hW
  obtain ⟨p, q, hA0, hV, rfl, hfz, hnd⟩ := hW
  have hA : DataW.TrodAll enc Try.prog W 0 (fun _ => true) true Try.f10.params.toList args.toList ds p := hA0
  rw [Try.params10] at hA hval
  obtain ⟨v0, vs0, d0, ds0, p0, q0, hargs, rfl, rfl, h0, r0⟩ := trodAll_cons hA
  obtain ⟨v1, vs1, d1, ds1, p1, q1, rfl, rfl, rfl, h1, r1⟩ := trodAll_cons r0
  obtain ⟨v2, vs2, d2, ds2, p2, q2, rfl, rfl, rfl, h2, r2⟩ := trodAll_cons r1
  obtain ⟨rfl, rfl, rfl⟩ := trodAll_nil r2
  obtain rfl : args = #[v0, v1, v2] := by cases args; simp_all
  obtain ⟨rfl, rfl⟩ := trodVars_none hV
  have k0 := h0
  have lt0 : ∀ x ∈ p0, x.block < W.heap.size := by obtain ⟨m, hm⟩ := k0; exact DataW.trod_lt m _ _ _ hm
  have k1 := h1
  have lt1 : ∀ x ∈ p1, x.block < W.heap.size := by obtain ⟨m, hm⟩ := k1; exact DataW.trod_lt m _ _ _ hm
  have k2 := h2
  have lt2 : ∀ x ∈ p2, x.block < W.heap.size := by obtain ⟨m, hm⟩ := k2; exact DataW.trod_lt m _ _ _ hm
  obtain ⟨a0, rfl, rfl, rfl, w0⟩ := open_int Try.underlying3 (hval 0 3 v0 rfl rfl) h0
  obtain ⟨a1, rfl, rfl, rfl, w1⟩ := open_int Try.underlying3 (hval 1 3 v1 rfl rfl) h1
  obtain ⟨A2, len2, cap2, rfl⟩ := okWide_slice Try.underlying22 (hval 2 22 v2 rfl rfl)
  obtain ⟨xs2, w2, l2, q2, hlen2⟩ : ∃ xs, SRow encNum W A2 xs ∧ xs.length ≤ maxLen ∧ (∀ v ∈ xs, Wf v) ∧ xs.length = len2 := by
    obtain ⟨fuel, hf⟩ := h2
    obtain ⟨A, cap, xs, hcs, hl, hr, hq⟩ := openNumS hf
    simp [Value.cells] at hcs
    obtain ⟨rfl, hn, rfl⟩ := hcs
    exact ⟨xs, hr, hl, hq, hn.symm⟩
  subst hlen2
  clear hA0 hval0
  refine (walk W a0 w0 a1 w1 A2 cap2 xs2 w2 l2 q2).mono fun e W' ⟨he, bel⟩ => ?_
  subst he
  exact ⟨_, rfl, _, _, _, [], _, [], hW', trodAll_mk1 (shut_bool Try.underlying4 _), (trodAll_cons_mk (Below.trod laidOut (by kernel_rfl) (of_decide_eq_true (by kernel_rfl)) k0 bel lt0) (trodAll_cons_mk (Below.trod laidOut (by kernel_rfl) (of_decide_eq_true (by kernel_rfl)) k1 bel lt1) (trodAll_cons_mk (Below.trod laidOut (by kernel_rfl) (of_decide_eq_true (by kernel_rfl)) k2 bel lt2) trodAll_mk0))), rfl, bel.frame _, fun h => by cases h⟩

theorem over : Rows.fnExactWaterRunRow.holds Try.pinned (OpenSpec.ofChange Rows.fnExactWaterRunSpec) :=
  OpenClaim.holds_of_wide 10 Try.f10 rfl rfl rfl rfl rfl rfl rfl ⟨rfl, rfl, rfl, rfl, rfl⟩ rfl rfl rfl rfl rfl (by kernel_rfl) Try.func10 (by kernel_rfl)
    (of_decide_eq_true (by kernel_rfl)) (by unfold Func.isWrapper; first | (rw [if_pos (by decide +kernel)]; kernel_rfl) | (rw [if_neg (by decide +kernel)]; exact ⟨rfl, rfl⟩))
    (fun os started H enc _ => lifted os started H enc)

/-- The statement. -/
theorem proved : Rows.FnExactWaterRunSaid :=
  over
#print axioms proved
end Go.Proofs.Ytmmnhgkcdhdmkaa.fnExactWaterRun
