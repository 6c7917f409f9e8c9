/- FnExactEaster: whatever the input, the law returns true, and its arguments read as they did. No conditions beyond those of the statement's row. -/
import Derived.Test.YtcaemfnnkfbmgaaCi
namespace Go.Proofs.Ytcaemfnnkfbmgaa.fnExactEaster
open Go.Proofs.Ytcaemfnnkfbmgaa
open Go.ChangeShapes Go.WideShapes Go.ChangeAt Go.RowKit Go.Joins
set_option linter.unusedVariables false
set_option linter.unusedSimpArgs false

theorem own : ownKnob Try.prog.godebug = none := by kernel_rfl
theorem laidOut : laidOutB Try.prog = true := by kernel_rfl

theorem walk (a0 : Int) (w0 : (Lit.int .i64 a0).wf = true) (w : World) :
    Calls Try.prog 18 #[.int .i64 a0] w fun e w' => e = .returned (.bool true) ∧ Below w.heap.size w w' := by
  by_cases h : 1 ≤ a0 ∧ a0 ≤ 4000
  · have H := Lib.hid h
    clear h
    · go_enter Try.func18, Try.ntmps18
      go_wp2_with fail
      refine (sEa_t _ _ H.out.1 H.out.2).mono ?_; rintro e w1 ⟨rfl, hw1⟩
      go_wp2_with fail
      refine (iEa_t _ _ H.out.1 H.out.2).mono ?_; rintro e w2 ⟨rfl, hw2⟩
      obtain ⟨hG4, hC4⟩ := ownb hw2
      have hB4 := bel_next hw1 hC4
      obtain ⟨c4_0, c4_1, c4_2, f4_0, f4_1, f4_2, hz4⟩ := blk3 hG4
      go_wp2_with fail
      refine (eqDate_any _ _ _ _ _ _ _).mono ?_; rintro e w3 ⟨rfl, hw3⟩
      have hB5 := bel_next hB4 (ownb hw3).2
      go_wp2
      go_ret
      exact ⟨rfl, hB5⟩
  · have H := Lib.hid h
    clear h
    · go_enter Try.func18, Try.ntmps18
      go_wp2_with fail
      refine (sEa_f _ _ H.out).mono ?_; rintro e w1 ⟨rfl, hw1⟩
      go_wp2_with fail
      refine (iEa_f _ _ H.out).mono ?_; rintro e w2 ⟨rfl, hw2⟩
      obtain ⟨hG4, hC4⟩ := ownb hw2
      have hB4 := bel_next hw1 hC4
      obtain ⟨c4_0, c4_1, c4_2, f4_0, f4_1, f4_2, hz4⟩ := blk3 hG4
      go_wp2_with fail
      refine (eqDate_any _ _ _ _ _ _ _).mono ?_; rintro e w3 ⟨rfl, hw3⟩
      have hB5 := bel_next hB4 (ownb hw3).2
      go_wp2
      go_ret
      exact ⟨rfl, hB5⟩

set_option maxRecDepth 100000 in
theorem lifted (os : Os) (started : os.Started) (H : Type) (enc : TypeId × Value → H) :
    ReturnsInHanded {} Try.checked os 18 .any (Rows.fnExactEasterSpec.pre6 enc Try.prog Try.f18 Rows.fnExactEasterRow.domain false) (Rows.fnExactEasterSpec.post enc Try.prog Try.f18 false true false false) := by
  refine returnsInHanded_of_change (C := Try.checked) own started (by kernel_rfl) Try.func18
    (ChangeSpec.witness6 (enc := enc) (C := Try.checked) false ⟨#[], #[.int .i64 0], []⟩ 8 (by kernel_rfl) (by kernel_rfl) (by kernel_rfl) (by kernel_rfl)) ?_
  intro W base args ds gs before hval0 hW hcnd _
  have hval : ∀ (j : Nat) t v, Try.f18.params[j]? = some t → args[j]? = some v → Value.okWide Try.prog W .any base t v := hval0
  have hW' := hW
  obtain ⟨p, q, hA0, hV, rfl, hfz, hnd⟩ := hW
  have hA : DataW.TrodAll enc Try.prog W 0 (fun _ => true) true Try.f18.params.toList args.toList ds p := hA0
  rw [Try.params18] at hA hval
  obtain ⟨v0, vs0, d0, ds0, p0, q0, hargs, rfl, rfl, h0, r0⟩ := trodAll_cons hA
  obtain ⟨rfl, rfl, rfl⟩ := trodAll_nil r0
  obtain rfl : args = #[v0] := by cases args; simp_all
  obtain ⟨rfl, rfl⟩ := trodVars_none hV
  have k0 := h0
  have lt0 : ∀ x ∈ p0, x.block < W.heap.size := by obtain ⟨m, hm⟩ := k0; exact DataW.trod_lt m _ _ _ hm
  obtain ⟨a0, rfl, rfl, rfl, w0⟩ := open_int Try.underlying3 (hval 0 3 v0 rfl rfl) h0
  clear hA0 hval0
  refine (walk a0 w0 W).mono fun e W' ⟨he, bel⟩ => ?_
  subst he
  exact ⟨_, rfl, _, _, _, [], _, [], hW', trodAll_mk1 (shut_bool Try.underlying4 _), (trodAll_cons_mk (Below.trod laidOut (by kernel_rfl) (of_decide_eq_true (by kernel_rfl)) k0 bel lt0) trodAll_mk0), rfl, bel.frame _, fun h => by cases h⟩

theorem over : Rows.fnExactEasterRow.holds Try.pinned (OpenSpec.ofChange Rows.fnExactEasterSpec) :=
  OpenClaim.holds_of_wide 18 Try.f18 rfl rfl rfl rfl rfl rfl rfl ⟨rfl, rfl, rfl, rfl, rfl⟩ rfl rfl rfl rfl rfl (by kernel_rfl) Try.func18 (by kernel_rfl)
    (of_decide_eq_true (by kernel_rfl)) (by unfold Func.isWrapper; first | (rw [if_pos (by decide +kernel)]; kernel_rfl) | (rw [if_neg (by decide +kernel)]; exact ⟨rfl, rfl⟩))
    (fun os started H enc _ => lifted os started H enc)

/-- The statement. -/
theorem proved : Rows.FnExactEasterSaid :=
  over
#print axioms proved
end Go.Proofs.Ytcaemfnnkfbmgaa.fnExactEaster
