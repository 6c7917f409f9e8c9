/- FnExactOldOf: whatever the input, the law returns true, and its arguments read as they did. No conditions beyond those of the statement's row. -/
import Derived.Test.YtcaemfnnkfbmgaaCh
namespace Go.Proofs.Ytcaemfnnkfbmgaa.fnExactOldOf
open Go.Proofs.Ytcaemfnnkfbmgaa
open Go.ChangeShapes Go.WideShapes Go.ChangeAt Go.RowKit Go.Joins
set_option linter.unusedVariables false
set_option linter.unusedSimpArgs false

theorem own : ownKnob Try.prog.godebug = none := by kernel_rfl
theorem laidOut : laidOutB Try.prog = true := by kernel_rfl

theorem walk (a0 : Int) (w0 : (Lit.int .i64 a0).wf = true) (w : World) :
    Calls Try.prog 17 #[.int .i64 a0] w fun e w' => e = .returned (.bool true) ∧ Below w.heap.size w w' := by
  by_cases h : -2 ≤ a0 ∧ a0 ≤ 1460969
  · go_enter Try.func17, Try.ntmps17
    go_wp2_with fail
    refine (sOO_t _ _ h.1 h.2).mono ?_; rintro e w1 ⟨y, m, d, rfl, v1, n1, hw1⟩
    go_wp2_with fail
    refine (iOO_t _ _ h.1 h.2).mono ?_; rintro e w2 ⟨y', m', d', rfl, v2, n2, hw2⟩
    obtain ⟨hG4, hC4⟩ := ownb hw2
    have hB4 := bel_next hw1 hC4
    obtain ⟨rfl, rfl, rfl⟩ := onum_inj v1 v2 (n1.trans n2.symm)
    clear n1 n2 v1 v2
    obtain ⟨c4_0, c4_1, c4_2, f4_0, f4_1, f4_2, hz4⟩ := blk3 hG4
    go_wp2_with fail
    refine (eqDate_any _ _ _ _ _ _ _).mono ?_; rintro e w3 ⟨rfl, hw3⟩
    have hB5 := bel_next hB4 (ownb hw3).2
    go_wp2
    go_ret
    exact ⟨rfl, hB5⟩
  · go_enter Try.func17, Try.ntmps17
    go_wp2_with fail
    refine (sOO_f _ _ (by omega)).mono ?_; rintro e w1 ⟨rfl, hw1⟩
    go_wp2_with fail
    refine (iOO_f _ _ (by omega)).mono ?_; rintro e w2 ⟨rfl, hw2⟩
    obtain ⟨hG4, hC4⟩ := ownb hw2
    have hB4 := bel_next hw1 hC4
    obtain ⟨c4_0, c4_1, c4_2, f4_0, f4_1, f4_2, hz4⟩ := blk3 hG4
    go_wp2_with fail
    refine (eqDate_any _ _ _ _ _ _ _).mono ?_; rintro e w3 ⟨rfl, hw3⟩
    have hB5 := bel_next hB4 (ownb hw3).2
    go_wp2
    go_ret
    exact ⟨rfl, hB5⟩

set_option maxRecDepth 100000 in
theorem lifted (os : Os) (started : os.Started) (H : Type) (enc : TypeId × Value → H) :
    ReturnsInHanded {} Try.checked os 17 .any (Rows.fnExactOldOfSpec.pre6 enc Try.prog Try.f17 Rows.fnExactOldOfRow.domain false) (Rows.fnExactOldOfSpec.post enc Try.prog Try.f17 false true false false) := by
  refine returnsInHanded_of_change (C := Try.checked) own started (by kernel_rfl) Try.func17
    (ChangeSpec.witness6 (enc := enc) (C := Try.checked) false ⟨#[], #[.int .i64 0], []⟩ 8 (by kernel_rfl) (by kernel_rfl) (by kernel_rfl) (by kernel_rfl)) ?_
  intro W base args ds gs before hval0 hW hcnd _
  have hval : ∀ (j : Nat) t v, Try.f17.params[j]? = some t → args[j]? = some v → Value.okWide Try.prog W .any base t v := hval0
  have hW' := hW
  obtain ⟨p, q, hA0, hV, rfl, hfz, hnd⟩ := hW
  have hA : DataW.TrodAll enc Try.prog W 0 (fun _ => true) true Try.f17.params.toList args.toList ds p := hA0
  rw [Try.params17] at hA hval
  obtain ⟨v0, vs0, d0, ds0, p0, q0, hargs, rfl, rfl, h0, r0⟩ := trodAll_cons hA
  obtain ⟨rfl, rfl, rfl⟩ := trodAll_nil r0
  obtain rfl : args = #[v0] := by cases args; simp_all
  obtain ⟨rfl, rfl⟩ := trodVars_none hV
  have k0 := h0
  have lt0 : ∀ x ∈ p0, x.block < W.heap.size := by obtain ⟨m, hm⟩ := k0; exact DataW.trod_lt m _ _ _ hm
  obtain ⟨a0, rfl, rfl, rfl, w0⟩ := open_int Try.underlying3 (hval 0 3 v0 rfl rfl) h0
  clear hA0 hval0
  refine (walk a0 w0 W).mono fun e W' ⟨he, bel⟩ => ?_
  subst he
  exact ⟨_, rfl, _, _, _, [], _, [], hW', trodAll_mk1 (shut_bool Try.underlying4 _), (trodAll_cons_mk (Below.trod laidOut (by kernel_rfl) (of_decide_eq_true (by kernel_rfl)) k0 bel lt0) trodAll_mk0), rfl, bel.frame _, fun h => by cases h⟩

theorem over : Rows.fnExactOldOfRow.holds Try.pinned (OpenSpec.ofChange Rows.fnExactOldOfSpec) :=
  OpenClaim.holds_of_wide 17 Try.f17 rfl rfl rfl rfl rfl rfl rfl ⟨rfl, rfl, rfl, rfl, rfl⟩ rfl rfl rfl rfl rfl (by kernel_rfl) Try.func17 (by kernel_rfl)
    (of_decide_eq_true (by kernel_rfl)) (by unfold Func.isWrapper; first | (rw [if_pos (by decide +kernel)]; kernel_rfl) | (rw [if_neg (by decide +kernel)]; exact ⟨rfl, rfl⟩))
    (fun os started H enc _ => lifted os started H enc)

/-- The statement. -/
theorem proved : Rows.FnExactOldOfSaid :=
  over
#print axioms proved
end Go.Proofs.Ytcaemfnnkfbmgaa.fnExactOldOf
