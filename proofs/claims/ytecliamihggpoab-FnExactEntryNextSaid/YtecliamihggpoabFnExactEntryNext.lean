/- FnExactEntryNext: whatever the input, the law returns true, and its arguments read as they did. No conditions beyond those of the statement's row. -/
import Derived.Test.YtecliamihggpoabBw
namespace Go.Proofs.Ytecliamihggpoab.fnExactEntryNext
open Go.Proofs.Ytecliamihggpoab
open Go.ChangeShapes Go.WideShapes Go.ChangeAt Go.RowKit Go.Joins
set_option linter.unusedVariables false
set_option linter.unusedSimpArgs false
set_option linter.unnecessarySimpa false

theorem own : ownKnob Try.prog.godebug = none := by kernel_rfl
theorem laidOut : laidOutB Try.prog = true := by kernel_rfl

set_option maxRecDepth 100000 in
set_option maxHeartbeats 4000000 in
theorem walk (w : World) (A0 : Option Addr) (cap0 : Nat) (xs0 : List VEntry) (w0 : SRow encEntry w A0 xs0) (l0 : xs0.length ≤ maxLen) (q0 : ∀ v ∈ xs0, Wf v.1 ∧ v.2.size ≤ maxLen) (a1 : Int) (w1 : (Lit.int .i64 a1).wf = true) :
    Calls Try.prog 8 #[.slice A0 xs0.length cap0, .int .i64 a1] w fun e w' => e = .returned (.bool true) ∧ Below w.heap.size w w' := by
  have hq : ∀ v ∈ xs0, v.2.size ≤ maxLen := fun v hv => (q0 v hv).2
  have HQ := Lib.hid hq
  have HQ0 := Lib.hid q0
  clear hq q0
  obtain ⟨v, hv⟩ : ∃ v, nxN xs0 a1 = v := ⟨_, rfl⟩
  have HV := Lib.hid hv
  clear hv
  go_enter Try.func8, Try.ntmps8
  go_wp2_with fail
  refine (szEntryS_any A0 cap0 xs0 1048576 _ rfl w0 HQ0.out (by omega) (by omega) l0).mono ?_; rintro e' w1 ⟨r, rfl, hL, hw1⟩
  rcases hL with rfl | ⟨r0, r1, hn⟩
  · go_wp2
    go_ret
    exact ⟨rfl, hw1⟩
  · have hr : ¬ r < 0 := by omega
    have hn2 : xs0.length ≤ 1048576 := by omega
    have hB0 := hw1
    have hA0 := w0.next hw1
    go_wp2_with fail
    refine (toEntryS_any A0 cap0 xs0 _ hA0 (by omega)).mono ?_; rintro e' w1 ⟨gC, rfl, hgC, hC1, hw1⟩
    have hA1 := hA0.next hw1
    have hB1 := bel_next hB0 hw1
    go_wp2_with fail
    refine (sEx_is _ _ xs0 _ _ rfl hC1.row HQ.out (by omega) HV.out).mono ?_; rintro e' w2 ⟨rfl, hw2⟩
    have hA2 := hA1.next hw2
    have hC2 := hC1.next hw2
    have hB2 := bel_next hB1 hw2
    go_wp2_with fail
    refine (toEntryS_any A0 cap0 xs0 _ hA2 (by omega)).mono ?_; rintro e' w3 ⟨gD, rfl, hgD, hD3, hw3⟩
    have hA3 := hA2.next hw3
    have hC3 := hC2.next hw3
    have hB3 := bel_next hB2 hw3
    go_wp2_with fail
    refine (iEx_is _ _ xs0 _ _ rfl hD3.row HQ.out (by omega) HV.out).mono ?_; rintro e' w4 ⟨rfl, hw4⟩
    have hA4 := hA3.next hw4
    have hC4 := hC3.next hw4
    have hD4 := hD3.next hw4
    have hB4 := bel_next hB3 hw4
    go_wp2_with fail
    refine (toEntryS_any A0 cap0 xs0 _ hA4 (by omega)).mono ?_; rintro e' w5 ⟨gE, rfl, hgE, hE5, hw5⟩
    have hA5 := hA4.next hw5
    have hC5 := hC4.next hw5
    have hD5 := hD4.next hw5
    have hB5 := bel_next hB4 hw5
    go_wp2_with fail
    refine (eqEntryS_same _ _ _ _ xs0 rfl hD5.row hE5.row (by omega)).mono ?_; rintro e' w6 ⟨rfl, hw6⟩
    have hA6 := hA5.next hw6
    have hC6 := hC5.next hw6
    have hD6 := hD5.next hw6
    have hE6 := hE5.next hw6
    have hB6 := bel_next hB5 hw6
    go_wp2
    go_ret
    exact ⟨rfl, by first | exact hB6 | exact hB6.drew⟩

set_option maxRecDepth 100000 in
theorem lifted (os : Os) (started : os.Started) (H : Type) (enc : TypeId × Value → H) :
    ReturnsInHanded {} Try.checked os 8 .any (Rows.fnExactEntryNextSpec.pre6 enc Try.prog Try.f8 Rows.fnExactEntryNextRow.domain false) (Rows.fnExactEntryNextSpec.post enc Try.prog Try.f8 false true false false) := by
  refine returnsInHanded_of_change (C := Try.checked) own started (by kernel_rfl) Try.func8
    (ChangeSpec.witness6 (enc := enc) (C := Try.checked) false ⟨#[], #[.slice none 0 0, .int .i64 0], []⟩ 8 (by kernel_rfl) (by kernel_rfl) (by kernel_rfl) (by kernel_rfl)) ?_
  intro W base args ds gs before hval0 hW hcnd _
  have hval : ∀ (j : Nat) t v, Try.f8.params[j]? = some t → args[j]? = some v → Value.okWide Try.prog W .any base t v := hval0
  have hW' := hW
  obtain ⟨p, q, hA0, hV, rfl, hfz, hnd⟩ := hW
  have hA : DataW.TrodAll enc Try.prog W 0 (fun _ => true) true Try.f8.params.toList args.toList ds p := hA0
  rw [Try.params8] at hA hval
  obtain ⟨v0, vs0, d0, ds0, p0, q0, hargs, rfl, rfl, h0, r0⟩ := trodAll_cons hA
  obtain ⟨v1, vs1, d1, ds1, p1, q1, rfl, rfl, rfl, h1, r1⟩ := trodAll_cons r0
  obtain ⟨rfl, rfl, rfl⟩ := trodAll_nil r1
  obtain rfl : args = #[v0, v1] := by cases args; simp_all
  obtain ⟨rfl, rfl⟩ := trodVars_none hV
  have k0 := h0
  have lt0 : ∀ x ∈ p0, x.block < W.heap.size := by obtain ⟨m, hm⟩ := k0; exact DataW.trod_lt m _ _ _ hm
  have k1 := h1
  have lt1 : ∀ x ∈ p1, x.block < W.heap.size := by obtain ⟨m, hm⟩ := k1; exact DataW.trod_lt m _ _ _ hm
  obtain ⟨A0, len0, cap0, rfl⟩ := okWide_slice Try.underlying34 (hval 0 34 v0 rfl rfl)
  obtain ⟨xs0, w0, l0, q0, hlen0⟩ : ∃ xs, SRow encEntry W A0 xs ∧ xs.length ≤ maxLen ∧ (∀ v ∈ xs, Wf v.1 ∧ v.2.size ≤ maxLen) ∧ xs.length = len0 := by
    obtain ⟨fuel, hf⟩ := h0
    obtain ⟨A, cap, xs, hcs, hl, hr, hq⟩ := openEntryS hf
    simp [Value.cells] at hcs
    obtain ⟨rfl, hn, rfl⟩ := hcs
    exact ⟨xs, hr, hl, hq, hn.symm⟩
  subst hlen0
  obtain ⟨a1, rfl, rfl, rfl, w1⟩ := open_int Try.underlying3 (hval 1 3 v1 rfl rfl) h1
  clear hA0 hval0
  refine (walk W A0 cap0 xs0 w0 l0 q0 a1 w1).mono fun e W' ⟨he, bel⟩ => ?_
  subst he
  exact ⟨_, rfl, _, _, _, [], _, [], hW', trodAll_mk1 (shut_bool Try.underlying4 _), (trodAll_cons_mk (Below.trod laidOut (by kernel_rfl) (of_decide_eq_true (by kernel_rfl)) k0 bel lt0) (trodAll_cons_mk (Below.trod laidOut (by kernel_rfl) (of_decide_eq_true (by kernel_rfl)) k1 bel lt1) trodAll_mk0)), rfl, bel.frame _, fun h => by cases h⟩

theorem over : Rows.fnExactEntryNextRow.holds Try.pinned (OpenSpec.ofChange Rows.fnExactEntryNextSpec) :=
  OpenClaim.holds_of_wide 8 Try.f8 rfl rfl rfl rfl rfl rfl rfl ⟨rfl, rfl, rfl, rfl, rfl⟩ rfl rfl rfl rfl rfl (by kernel_rfl) Try.func8 (by kernel_rfl)
    (of_decide_eq_true (by kernel_rfl)) (by unfold Func.isWrapper; first | (rw [if_pos (by decide +kernel)]; kernel_rfl) | (rw [if_neg (by decide +kernel)]; exact ⟨rfl, rfl⟩))
    (fun os started H enc _ => lifted os started H enc)

/-- The statement. -/
theorem proved : Rows.FnExactEntryNextSaid :=
  over
#print axioms proved
end Go.Proofs.Ytecliamihggpoab.fnExactEntryNext
