/- FnExactLinesOf: whatever the input, the law returns true, and its arguments read as they did. No conditions beyond those of the statement's row. -/
import Derived.Test.YtgbelpkhfaajoaaHl
namespace Go.Proofs.Ytgbelpkhfaajoaa.fnExactLinesOf
open Go.Proofs.Ytgbelpkhfaajoaa
open Go.ChangeShapes Go.WideShapes Go.ChangeAt Go.RowKit Go.Joins
set_option linter.unusedVariables false
set_option linter.unusedSimpArgs false
set_option linter.unnecessarySimpa false

theorem own : ownKnob Try.prog.godebug = none := by kernel_rfl
theorem laidOut : laidOutB Try.prog = true := by kernel_rfl

set_option maxRecDepth 100000 in
set_option maxHeartbeats 4000000 in
theorem walk (a0 : Int) (w0 : (Lit.int .i64 a0).wf = true) (w : World) :
    Calls Try.prog 6 #[.int .i64 a0] w fun e w' => e = .returned (.bool true) ∧ Below w.heap.size w w' := by
  have hlen := linesR_len a0
  generalize hD : linesR a0 = D at hlen
  obtain ⟨m, hm⟩ : ∃ m, D.length = m := ⟨_, rfl⟩
  rw [hm] at hlen
  have HD := Lib.hid hD
  have HM := Lib.hid hm
  clear hD hm
  go_enter Try.func6, Try.ntmps6
  go_wp2_with fail
  refine (sLns_any _ _).mono ?_; rintro e w1 ⟨As, cs, rfl, hS1, hw1⟩
  rw [HD.out] at hS1
  rw [HD.out, HM.out]
  go_wp2_with fail
  refine (iLns_any _ _).mono ?_; rintro e w2 ⟨Ai, ci, rfl, hI2, hw2⟩
  rw [HD.out] at hI2
  rw [HD.out, HM.out]
  have hS2 := hS1.next hw2
  have hB2 := bel_next hw1 hw2
  go_wp2_with fail
  refine (eqWayS_same Ai As ci cs D HM.out hI2.row hS2.row (by omega)).mono ?_; rintro e w3 ⟨rfl, hw3⟩
  have hI3 := hI2.next hw3
  have hS3 := hS2.next hw3
  have hB3 := bel_next hB2 hw3
  go_wp2_with fail
  refine (markWayS_any _ Ai ci D 1 HM.out hI3 (by omega) (by omega) (by omega)).mono ?_; rintro e w4 ⟨rfl, hI4, hG⟩
  have hA4 : Below w.heap.size w w4 := by
    refine hB3.grown hG hB3.size (fun j hj => ?_)
    have h1 := hw1.size
    rcases hI3.form with ⟨rfl, _⟩ | ⟨g, rfl, hb, _⟩
    · simp [Value.ownBlock] at hj
    · simp [Value.ownBlock] at hj; omega
  have hS4 : SOwn encWay w4 w.heap.size 24 As cs D := by
    refine hS3.grown_far hG (fun g hg e => ?_)
    rcases hS1.form with ⟨rfl, _⟩ | ⟨g1, rfl, _, hb1⟩
    · cases hg
    · rcases hI3.form with ⟨rfl, _⟩ | ⟨g2, rfl, hb2, _⟩
      · simp [Value.ownBlock] at e
      · simp [Value.ownBlock] at e hg; omega
  clear hI2 hS2 hI3 hS3 hS1 hG
  go_wp2_with fail
  refine (heldWayS_any Ai ci 1 (m := m) hI4.row (by omega) (by omega) (by omega)).mono ?_; rintro e w5 ⟨rfl, hw5⟩
  have hI5 := hI4.next hw5
  have hS5 := hS4.next hw5
  have hB5 := bel_next hA4 hw5
  go_wp2_with fail
  refine (iLns_any _ _).mono ?_; rintro e w6 ⟨Ah, ch, rfl, hH6, hw6⟩
  rw [HD.out] at hH6
  rw [HD.out, HM.out]
  have hI6 := hI5.next hw6
  have hS6 := hS5.next hw6
  have hB6 := bel_next hB5 hw6
  go_wp2_with fail
  refine (eqWayS_same Ah As ch cs D HM.out hH6.row hS6.row (by omega)).mono ?_; rintro e w7 ⟨rfl, hw7⟩
  have hI7 := hI6.next hw7
  have hB7 := bel_next hB6 hw7
  go_wp2_with fail
  refine (heldWayS_any Ai ci 1 (m := m) hI7.row (by omega) (by omega) (by omega)).mono ?_; rintro e w8 ⟨rfl, hw8⟩
  have hB8 := bel_next hB7 hw8
  go_wp2
  go_ret
  exact ⟨rfl, hB8⟩

set_option maxRecDepth 100000 in
theorem lifted (os : Os) (started : os.Started) (H : Type) (enc : TypeId × Value → H) :
    ReturnsInHanded {} Try.checked os 6 .any (Rows.fnExactLinesOfSpec.pre6 enc Try.prog Try.f6 Rows.fnExactLinesOfRow.domain false) (Rows.fnExactLinesOfSpec.post enc Try.prog Try.f6 false true false false) := by
  refine returnsInHanded_of_change (C := Try.checked) own started (by kernel_rfl) Try.func6
    (ChangeSpec.witness6 (enc := enc) (C := Try.checked) false ⟨#[], #[.int .i64 0], []⟩ 8 (by kernel_rfl) (by kernel_rfl) (by kernel_rfl) (by kernel_rfl)) ?_
  intro W base args ds gs before hval0 hW hcnd _
  have hval : ∀ (j : Nat) t v, Try.f6.params[j]? = some t → args[j]? = some v → Value.okWide Try.prog W .any base t v := hval0
  have hW' := hW
  obtain ⟨p, q, hA0, hV, rfl, hfz, hnd⟩ := hW
  have hA : DataW.TrodAll enc Try.prog W 0 (fun _ => true) true Try.f6.params.toList args.toList ds p := hA0
  rw [Try.params6] at hA hval
  obtain ⟨v0, vs0, d0, ds0, p0, q0, hargs, rfl, rfl, h0, r0⟩ := trodAll_cons hA
  obtain ⟨rfl, rfl, rfl⟩ := trodAll_nil r0
  obtain rfl : args = #[v0] := by cases args; simp_all
  obtain ⟨rfl, rfl⟩ := trodVars_none hV
  have k0 := h0
  have lt0 : ∀ x ∈ p0, x.block < W.heap.size := by obtain ⟨m, hm⟩ := k0; exact DataW.trod_lt m _ _ _ hm
  obtain ⟨a0, rfl, rfl, rfl, w0⟩ := open_int Try.underlying3 (hval 0 3 v0 rfl rfl) h0
  clear hA0 hval0
  refine (walk a0 w0 W).mono fun e W' ⟨he, bel⟩ => ?_
  subst he
  exact ⟨_, rfl, _, _, _, [], _, [], hW', trodAll_mk1 (shut_bool Try.underlying4 _), (trodAll_cons_mk (Below.trod laidOut (by kernel_rfl) (of_decide_eq_true (by kernel_rfl)) k0 bel lt0) trodAll_mk0), rfl, bel.frame _, fun h => by cases h⟩

theorem over : Rows.fnExactLinesOfRow.holds Try.pinned (OpenSpec.ofChange Rows.fnExactLinesOfSpec) :=
  OpenClaim.holds_of_wide 6 Try.f6 rfl rfl rfl rfl rfl rfl rfl ⟨rfl, rfl, rfl, rfl, rfl⟩ rfl rfl rfl rfl rfl (by kernel_rfl) Try.func6 (by kernel_rfl)
    (of_decide_eq_true (by kernel_rfl)) (by unfold Func.isWrapper; first | (rw [if_pos (by decide +kernel)]; kernel_rfl) | (rw [if_neg (by decide +kernel)]; exact ⟨rfl, rfl⟩))
    (fun os started H enc _ => lifted os started H enc)

/-- The statement. -/
theorem proved : Rows.FnExactLinesOfSaid :=
  over
#print axioms proved
end Go.Proofs.Ytgbelpkhfaajoaa.fnExactLinesOf
