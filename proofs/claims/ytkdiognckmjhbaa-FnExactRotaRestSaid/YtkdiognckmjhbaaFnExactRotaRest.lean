/- FnExactRotaRest: whatever the input, the law returns true, and its arguments read as they did. No conditions beyond those of the statement's row. -/
import Derived.Test.YtkdiognckmjhbaaNn
import Derived.Test.YtkdiognckmjhbaaNm
namespace Go.Proofs.Ytkdiognckmjhbaa.fnExactRotaRest
open Go.Proofs.Ytkdiognckmjhbaa
open Go.ChangeShapes Go.WideShapes Go.ChangeAt Go.RowKit Go.Joins
set_option linter.unusedVariables false
set_option linter.unusedSimpArgs false
set_option linter.unnecessarySimpa false

theorem own : ownKnob Try.prog.godebug = none := by kernel_rfl
theorem laidOut : laidOutB Try.prog = true := by kernel_rfl

set_option maxRecDepth 100000 in
set_option maxHeartbeats 4000000 in
theorem walk (w : World) (A0 : Option Addr) (cap0 : Nat) (hs0 : List VH) (xs0 : List (List Int)) (w0 : NRow w A0 hs0 xs0) (l0 : xs0.length ≤ maxLen) (q0 : ∀ j (hj : j < xs0.length), xs0[j].length ≤ maxLen) :
    Calls Try.prog 4 #[.slice A0 xs0.length cap0] w fun e w' => e = .returned (.bool true) ∧ Below w.heap.size w w' := by
  obtain ⟨v, hv⟩ := rr_ex xs0
  have HV := Lib.hid hv
  clear hv
  have l0' := l0
  unfold maxLen at l0'
  go_enter Try.func4, Try.ntmps4
  go_wp2_with fail
  refine (szNN_any A0 cap0 hs0 xs0 1048576 _ rfl w0 (by omega) (by omega) l0 q0).mono ?_; rintro e' w' ⟨r, rfl, hL, rfl⟩
  rcases hL with rfl | ⟨r0, r1, hn, hj⟩
  · go_wp2
    go_ret
    exact ⟨rfl, Below.refl _ _⟩
  · have hr : ¬ r < 0 := by omega
    have hj9 : ∀ j (hj : j < xs0.length), xs0[j].length ≤ 2000000 := fun j h9 => by have := hj j h9; omega
    have HJ := Lib.hid hj9
    clear hj hj9
    have hB0 := Below.refl w.heap.size w
    have hA0 := w0
    go_wp2_with fail
    refine (toNN_any A0 cap0 hs0 xs0 _ rfl hA0 (by omega) HJ.out).mono ?_; rintro e' w1 ⟨gC, hsC, rfl, hC1, hw1⟩
    have hA1 := hA0.next hw1
    have hB1 := bel_next hB0 hw1
    go_wp2_with fail
    refine (sRr_is _ _ _ xs0 _ rfl hC1 (by omega) HJ.out HV.out).mono ?_; rintro e' w2 ⟨rfl, hw2⟩
    have hA2 := hA1.next hw2
    have hC2 := hC1.next hw2
    have hB2 := bel_next hB1 hw2
    go_wp2_with fail
    refine (toNN_any A0 cap0 hs0 xs0 _ rfl hA2 (by omega) HJ.out).mono ?_; rintro e' w3 ⟨gD, hsD, rfl, hD3, hw3⟩
    have hA3 := hA2.next hw3
    have hB3 := bel_next hB2 hw3
    go_wp2_with fail
    refine (iRr_is _ _ _ xs0 _ rfl hD3 (by omega) HJ.out HV.out).mono ?_; rintro e' w4 ⟨rfl, hw4⟩
    have hA4 := hA3.next hw4
    have hD4 := hD3.next hw4
    have hB4 := bel_next hB3 hw4
    go_wp2_with fail
    refine (toNN_any A0 cap0 hs0 xs0 _ rfl hA4 (by omega) HJ.out).mono ?_; rintro e' w5 ⟨gE, hsE, rfl, hE5, hw5⟩
    have hA5 := hA4.next hw5
    have hD5 := hD4.next hw5
    have hB5 := bel_next hB4 hw5
    go_wp2_with fail
    refine (eqNN_same _ _ _ _ _ _ xs0 _ rfl hD5 hE5 (by omega) HJ.out).mono ?_; rintro e' w6 ⟨rfl, hw6⟩
    have hA6 := hA5.next hw6
    have hD6 := hD5.next hw6
    have hE6 := hE5.next hw6
    have hB6 := bel_next hB5 hw6
    go_wp2
    go_ret
    exact ⟨rfl, hB6⟩

set_option maxRecDepth 100000 in
theorem lifted (os : Os) (started : os.Started) (H : Type) (enc : TypeId × Value → H) :
    ReturnsInHanded {} Try.checked os 4 .any (Rows.fnExactRotaRestSpec.pre6 enc Try.prog Try.f4 Rows.fnExactRotaRestRow.domain false) (Rows.fnExactRotaRestSpec.post enc Try.prog Try.f4 false true false false) := by
  refine returnsInHanded_of_change (C := Try.checked) own started (by kernel_rfl) Try.func4
    (ChangeSpec.witness6 (enc := enc) (C := Try.checked) false ⟨#[], #[.slice none 0 0], []⟩ 8 (by kernel_rfl) (by kernel_rfl) (by kernel_rfl) (by kernel_rfl)) ?_
  intro W base args ds gs before hval0 hW hcnd _
  have hval : ∀ (j : Nat) t v, Try.f4.params[j]? = some t → args[j]? = some v → Value.okWide Try.prog W .any base t v := hval0
  have hW' := hW
  obtain ⟨p, q, hA0, hV, rfl, hfz, hnd⟩ := hW
  have hA : DataW.TrodAll enc Try.prog W 0 (fun _ => true) true Try.f4.params.toList args.toList ds p := hA0
  rw [Try.params4] at hA hval
  obtain ⟨v0, vs0, d0, ds0, p0, q0, hargs, rfl, rfl, h0, r0⟩ := trodAll_cons hA
  obtain ⟨rfl, rfl, rfl⟩ := trodAll_nil r0
  obtain rfl : args = #[v0] := by cases args; simp_all
  obtain ⟨rfl, rfl⟩ := trodVars_none hV
  have k0 := h0
  have lt0 : ∀ x ∈ p0, x.block < W.heap.size := by obtain ⟨m, hm⟩ := k0; exact DataW.trod_lt m _ _ _ hm
  obtain ⟨A0, len0, cap0, rfl⟩ := okWide_slice Try.underlying22 (hval 0 22 v0 rfl rfl)
  obtain ⟨hs0, xs0, w0, l0, q0, hlen0⟩ : ∃ hs xs, NRow W A0 hs xs ∧ xs.length ≤ maxLen ∧ (∀ j (hj : j < xs.length), xs[j].length ≤ maxLen) ∧ xs.length = len0 := by
    obtain ⟨fuel, hf⟩ := h0
    obtain ⟨A, cap, hs, xs, hcs, hl, hr, hq⟩ := openNumSS hf
    simp [Value.cells] at hcs
    obtain ⟨rfl, hn, rfl⟩ := hcs
    exact ⟨hs, xs, hr, hl, hq, hn.symm⟩
  subst hlen0
  clear hA0 hval0
  refine (walk W A0 cap0 hs0 xs0 w0 l0 q0).mono fun e W' ⟨he, bel⟩ => ?_
  subst he
  exact ⟨_, rfl, _, _, _, [], _, [], hW', trodAll_mk1 (shut_bool Try.underlying4 _), (trodAll_cons_mk (Below.trod laidOut (by kernel_rfl) (of_decide_eq_true (by kernel_rfl)) k0 bel lt0) trodAll_mk0), rfl, bel.frame _, fun h => by cases h⟩

theorem over : Rows.fnExactRotaRestRow.holds Try.pinned (OpenSpec.ofChange Rows.fnExactRotaRestSpec) :=
  OpenClaim.holds_of_wide 4 Try.f4 rfl rfl rfl rfl rfl rfl rfl ⟨rfl, rfl, rfl, rfl, rfl⟩ rfl rfl rfl rfl rfl (by kernel_rfl) Try.func4 (by kernel_rfl)
    (of_decide_eq_true (by kernel_rfl)) (by unfold Func.isWrapper; first | (rw [if_pos (by decide +kernel)]; kernel_rfl) | (rw [if_neg (by decide +kernel)]; exact ⟨rfl, rfl⟩))
    (fun os started H enc _ => lifted os started H enc)

/-- The statement. -/
theorem proved : Rows.FnExactRotaRestSaid :=
  over
#print axioms proved
end Go.Proofs.Ytkdiognckmjhbaa.fnExactRotaRest
