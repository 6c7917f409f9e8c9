/- FnExactRotaTurn: whatever the input, the law returns true, and its arguments read as they did. No conditions beyond those of the statement's row. -/
import Derived.Test.YtkdiognckmjhbaaNq
namespace Go.Proofs.Ytkdiognckmjhbaa.fnExactRotaTurn
open Go.Proofs.Ytkdiognckmjhbaa
open Go.ChangeShapes Go.WideShapes Go.ChangeAt Go.RowKit Go.Joins
set_option linter.unusedVariables false
set_option linter.unusedSimpArgs false
set_option linter.unnecessarySimpa false

theorem own : ownKnob Try.prog.godebug = none := by kernel_rfl
theorem laidOut : laidOutB Try.prog = true := by kernel_rfl

set_option maxRecDepth 100000 in
set_option maxHeartbeats 4000000 in
theorem walk (a0 : Int) (w0 : (Lit.int .i64 a0).wf = true) (a1 : Int) (w1 : (Lit.int .i64 a1).wf = true) (w : World) :
    Calls Try.prog 5 #[.int .i64 a0, .int .i64 a1] w fun e w' => e = .returned (.bool true) ∧ Below w.heap.size w w' := by
  obtain ⟨rows, hr⟩ : ∃ rows, rtI a0 a1 = rows := ⟨_, rfl⟩
  have hbd := rtI_bd a0 a1
  rw [hr] at hbd
  obtain ⟨n, hn⟩ : ∃ n, rows.length = n := ⟨_, rfl⟩
  rw [hn] at hbd
  obtain ⟨hn8, hj6⟩ := hbd
  have hj9 : ∀ j (hj : j < rows.length), rows[j].length ≤ 2000000 := fun j h => by have := hj6 j; rw [rwK_at h] at this; omega
  have hj1 : ∀ j, (rwK rows j).length ≤ 100 := fun j => by have := hj6 j; omega
  have HR := Lib.hid hr
  have HN := Lib.hid hn
  have HJ9 := Lib.hid hj9
  have HJ1 := Lib.hid hj1
  have HP := Lib.hid (pf_bd hj1 n)
  clear hr hn hj6 hj9 hj1
  have hpb : 100 * n ≤ 800 := by omega
  obtain ⟨t, ht⟩ : ∃ t, 1 + pfN rows n = t := ⟨_, rfl⟩
  have ht1 : 1 ≤ t ∧ t ≤ 801 := by have := HP.out; omega
  have HT := Lib.hid ht
  clear ht
  obtain ⟨t0, t1⟩ := ht1
  have htn : ¬ (t : Int) < 0 := by omega
  have htt : ((t : Int) != (t : Int)) = false := by simp
  go_enter Try.func5, Try.ntmps5
  have hB0 := Below.refl w.heap.size w
  go_wp2_with fail
  refine (sRt_is _ HR.out HN.out).mono ?_; rintro e' w1 ⟨AS, cS, hsS, rfl, hS, hw1⟩
  have hS1 := hS.nrow
  clear hS
  go_wp2_with fail
  refine (iRt_is _ HR.out HN.out).mono ?_; rintro e' w2 ⟨AI, cI, hsI, rfl, hI, hw2⟩
  have hS2 := hS1.next hw2
  have hB2 := bel_next hw1 hw2
  have hz1 := hw1.size
  go_wp2_with fail
  refine (eqNN_same _ _ _ _ _ _ rows _ HN.out hI.nrow hS2 (by omega) HJ9.out).mono ?_; rintro e' w3 ⟨rfl, hw3⟩
  have hI3 := hI.next hw3
  have hS3 := hS2.next hw3
  have hB3 := bel_next hB2 hw3
  have hX3 := bel_next hw2 hw3
  go_wp2_with fail
  refine (markNN_any _ _ _ _ rows _ HN.out hI3 hX3.size (by omega) HJ1.out).mono ?_; rintro e' w4 ⟨rfl, hI4, hw4⟩
  rw [HT.out]
  have hX4 := hX3.trans hw4
  have hS4 := hS1.next hX4
  have hB4 := bel_next hw1 hX4
  go_wp2_with fail
  refine (heldNN_any _ _ _ rows _ HN.out hI4.nrow (by omega) HJ1.out HT.out).mono ?_; rintro e' w5 ⟨rfl, hw5⟩
  have hI5 := hI4.next hw5
  have hS5 := hS4.next hw5
  have hB5 := bel_next hB4 hw5
  go_wp2_with fail
  refine (iRt_is _ HR.out HN.out).mono ?_; rintro e' w6 ⟨AJ, cJ, hsJ, rfl, hJ, hw6⟩
  have hI6 := hI5.next hw6
  have hS6 := hS5.next hw6
  have hB6 := bel_next hB5 hw6
  go_wp2_with fail
  refine (eqNN_same _ _ _ _ _ _ rows _ HN.out hJ.nrow hS6 (by omega) HJ9.out).mono ?_; rintro e' w7 ⟨rfl, hw7⟩
  have hI7 := hI6.next hw7
  have hB7 := bel_next hB6 hw7
  go_wp2_with fail
  refine (heldNN_any _ _ _ rows _ HN.out hI7.nrow (by omega) HJ1.out HT.out).mono ?_; rintro e' w8 ⟨rfl, hw8⟩
  have hB8 := bel_next hB7 hw8
  go_wp2
  go_ret
  exact ⟨rfl, hB8⟩

set_option maxRecDepth 100000 in
theorem lifted (os : Os) (started : os.Started) (H : Type) (enc : TypeId × Value → H) :
    ReturnsInHanded {} Try.checked os 5 .any (Rows.fnExactRotaTurnSpec.pre6 enc Try.prog Try.f5 Rows.fnExactRotaTurnRow.domain false) (Rows.fnExactRotaTurnSpec.post enc Try.prog Try.f5 false true false false) := by
  refine returnsInHanded_of_change (C := Try.checked) own started (by kernel_rfl) Try.func5
    (ChangeSpec.witness6 (enc := enc) (C := Try.checked) false ⟨#[], #[.int .i64 0, .int .i64 0], []⟩ 8 (by kernel_rfl) (by kernel_rfl) (by kernel_rfl) (by kernel_rfl)) ?_
  intro W base args ds gs before hval0 hW hcnd _
  have hval : ∀ (j : Nat) t v, Try.f5.params[j]? = some t → args[j]? = some v → Value.okWide Try.prog W .any base t v := hval0
  have hW' := hW
  obtain ⟨p, q, hA0, hV, rfl, hfz, hnd⟩ := hW
  have hA : DataW.TrodAll enc Try.prog W 0 (fun _ => true) true Try.f5.params.toList args.toList ds p := hA0
  rw [Try.params5] at hA hval
  obtain ⟨v0, vs0, d0, ds0, p0, q0, hargs, rfl, rfl, h0, r0⟩ := trodAll_cons hA
  obtain ⟨v1, vs1, d1, ds1, p1, q1, rfl, rfl, rfl, h1, r1⟩ := trodAll_cons r0
  obtain ⟨rfl, rfl, rfl⟩ := trodAll_nil r1
  obtain rfl : args = #[v0, v1] := by cases args; simp_all
  obtain ⟨rfl, rfl⟩ := trodVars_none hV
  have k0 := h0
  have lt0 : ∀ x ∈ p0, x.block < W.heap.size := by obtain ⟨m, hm⟩ := k0; exact DataW.trod_lt m _ _ _ hm
  have k1 := h1
  have lt1 : ∀ x ∈ p1, x.block < W.heap.size := by obtain ⟨m, hm⟩ := k1; exact DataW.trod_lt m _ _ _ hm
  obtain ⟨a0, rfl, rfl, rfl, w0⟩ := open_int Try.underlying3 (hval 0 3 v0 rfl rfl) h0
  obtain ⟨a1, rfl, rfl, rfl, w1⟩ := open_int Try.underlying3 (hval 1 3 v1 rfl rfl) h1
  clear hA0 hval0
  refine (walk a0 w0 a1 w1 W).mono fun e W' ⟨he, bel⟩ => ?_
  subst he
  exact ⟨_, rfl, _, _, _, [], _, [], hW', trodAll_mk1 (shut_bool Try.underlying4 _), (trodAll_cons_mk (Below.trod laidOut (by kernel_rfl) (of_decide_eq_true (by kernel_rfl)) k0 bel lt0) (trodAll_cons_mk (Below.trod laidOut (by kernel_rfl) (of_decide_eq_true (by kernel_rfl)) k1 bel lt1) trodAll_mk0)), rfl, bel.frame _, fun h => by cases h⟩

theorem over : Rows.fnExactRotaTurnRow.holds Try.pinned (OpenSpec.ofChange Rows.fnExactRotaTurnSpec) :=
  OpenClaim.holds_of_wide 5 Try.f5 rfl rfl rfl rfl rfl rfl rfl ⟨rfl, rfl, rfl, rfl, rfl⟩ rfl rfl rfl rfl rfl (by kernel_rfl) Try.func5 (by kernel_rfl)
    (of_decide_eq_true (by kernel_rfl)) (by unfold Func.isWrapper; first | (rw [if_pos (by decide +kernel)]; kernel_rfl) | (rw [if_neg (by decide +kernel)]; exact ⟨rfl, rfl⟩))
    (fun os started H enc _ => lifted os started H enc)

/-- The statement. -/
theorem proved : Rows.FnExactRotaTurnSaid :=
  over
#print axioms proved
end Go.Proofs.Ytkdiognckmjhbaa.fnExactRotaTurn
