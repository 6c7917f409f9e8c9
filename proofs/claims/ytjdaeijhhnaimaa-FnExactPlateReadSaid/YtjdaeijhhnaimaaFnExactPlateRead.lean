/- FnExactPlateRead: whatever the input, the law returns true, and its arguments read as they did. No conditions beyond those of the statement's row. -/
import Derived.Test.YtjdaeijhhnaimaaPq
namespace Go.Proofs.Ytjdaeijhhnaimaa.fnExactPlateRead
open Go.Proofs.Ytjdaeijhhnaimaa
open Go.ChangeShapes Go.WideShapes Go.ChangeAt Go.RowKit Go.Joins
set_option linter.unusedVariables false
set_option linter.unusedSimpArgs false
set_option linter.unnecessarySimpa false

theorem own : ownKnob Try.prog.godebug = none := by kernel_rfl
theorem laidOut : laidOutB Try.prog = true := by kernel_rfl
theorem cells1 : Try.prog.cellsOf 30 = 2 := by kernel_rfl
set_option maxRecDepth 100000 in
set_option maxHeartbeats 4000000 in
theorem walk (w : World) (A0 : Option Addr) (cap0 : Nat) (xs0 : List VMark) (w0 : SRow encMark w A0 xs0) (l0 : xs0.length ≤ maxLen) (q0 : ∀ v ∈ xs0, Wf v.1 ∧ Wf v.2.1 ∧ v.2.2.size ≤ maxLen) (a1_0 : Int) (w1_0 : (Lit.int .i64 a1_0).wf = true) (a1_1 : Int) (w1_1 : (Lit.int .i64 a1_1).wf = true) :
    Calls Try.prog 6 #[.slice A0 xs0.length cap0, .agg #[.int .i64 a1_0, .int .i64 a1_1]] w fun e w' => e = .returned (.bool true) ∧ Below w.heap.size w w' := by
  have hq : ∀ v ∈ xs0, v.2.2.size ≤ maxLen := fun v hv => (q0 v hv).2.2
  have HQ := Lib.hid hq
  have HQ0 := Lib.hid q0
  clear hq q0
  go_enter Try.func6, Try.ntmps6
  go_wp2_with fail
  refine (szMarkS_any A0 cap0 xs0 1048576 _ rfl (w0.next (bel1 _ _)) HQ0.out (by omega) (by omega) l0).mono ?_; rintro e' w1 ⟨r, rfl, hL, hw1⟩
  obtain ⟨hP1, hC1⟩ := ownb hw1
  rcases hL with rfl | ⟨r0, r1, hn⟩
  · go_wp2
    go_ret
    exact ⟨rfl, hC1⟩
  · have hr : ¬ r < 0 := by omega
    have hn2 : xs0.length ≤ 1048576 := by omega
    have hB0 := hC1
    have hA0 := w0.next hC1
    have hP0 := hP1
    go_wp2_with fail
    refine wp_region_held_drew (S := (fun w' => w'.heap[w.heap.size]? = some (.cells #[.int .i64 a1_0, .int .i64 a1_1] 30) ∧ SRow encMark w' A0 xs0 ∧ Below w.heap.size w w')) (by kernel_rfl) ⟨hP0, hA0, hB0.drew⟩ (fun hHeld => ?_)
    obtain ⟨hP_0, hA_0, hB_0⟩ := id hHeld
    refine wpAnyH_take (i := 0) (oi := _) (v := ?_) rfl (by kernel_rfl) (by kernel_rfl) (by kernel_rfl) (fun _ _ _ h => h) (Or.inl ⟨by rfl, ?_⟩) (by assumption) ?_
    (rotate_left); (focus (intro wv hSw; (obtain ⟨qP, qA, qB⟩ := hSw);  go_simp; (try with_reducible rfl)))
    try simp only [Act.put, List.getElem_toArray, List.getElem_cons_succ, List.getElem_cons_zero, List.setIfInBounds_toArray, List.set_cons_zero, List.set_cons_succ]
    refine wpAnyH_take (i := 2) (oi := _) (v := ?_) rfl (by kernel_rfl) (by kernel_rfl) (by kernel_rfl) (fun _ _ _ h => h) (Or.inl ⟨by rfl, ?_⟩) (by assumption) ?_
    (rotate_left); (focus (intro wv hSw; (obtain ⟨qP, qA, qB⟩ := hSw); obtain ⟨u0, u1, _, _, _⟩ := blk2 qP; go_simp; (try with_reducible rfl)))
    try simp only [Act.put, List.getElem_toArray, List.getElem_cons_succ, List.getElem_cons_zero, List.setIfInBounds_toArray, List.set_cons_zero, List.set_cons_succ]
    refine wpAnyH_ready (rs := [1]) (by kernel_rfl) (by simp) ?_
    refine AllReadyH.cons (o := _) rfl (fun K hK => ?_) AllReadyH.nil
    go_simp
    (go_at_call 9; refine (toMarkS_any A0 cap0 xs0 _ hA_0 (by omega)).mono ?_; rintro e x0c ⟨gC, rfl, hgC, hC_0c, hw_0c⟩)
    refine hK.out _ _ ⟨blk_next hP_0 hw_0c, hA_0.next hw_0c, bel_next hB_0 hw_0c⟩ (fun hHeld => ?_)
    clear hK K
    try simp only [Act.put, List.getElem_toArray, List.getElem_cons_succ, List.getElem_cons_zero, List.setIfInBounds_toArray, List.set_cons_zero, List.set_cons_succ]
    obtain ⟨hP_0c, hA_0c, hB_0c⟩ := id hHeld
    refine wpAnyH_ready (rs := [3]) (by kernel_rfl) (by simp) ?_
    refine AllReadyH.cons (o := _) rfl (fun K hK => ?_) AllReadyH.nil
    go_simp
    (go_at_call 21; refine (toWay_any _ _ _).mono ?_; rintro e x0cc ⟨rfl, hw_0cc⟩)
    refine hK.out _ _ ⟨blk_next hP_0c hw_0cc, hA_0c.next hw_0cc, bel_next hB_0c hw_0cc⟩ (fun hHeld => ?_)
    clear hK K
    try simp only [Act.put, List.getElem_toArray, List.getElem_cons_succ, List.getElem_cons_zero, List.setIfInBounds_toArray, List.set_cons_zero, List.set_cons_succ]
    obtain ⟨hP_0cc, hA_0cc, hB_0cc⟩ := id hHeld
    have hC_0cc := hC_0c.next hw_0cc
    refine wpAnyH_ready (rs := [4]) (by kernel_rfl) (by simp) ?_
    refine AllReadyH.cons (o := _) rfl (fun K hK => ?_) AllReadyH.nil
    go_simp
    (go_at_call 20; refine (sPR_any _ _ xs0 _ _ _ rfl hC_0cc.row HQ.out (by omega)).mono ?_; rintro e x0ccc ⟨rfl, hw_0ccc⟩)
    refine hK.out _ _ ⟨blk_next hP_0cc hw_0ccc, hA_0cc.next hw_0ccc, bel_next hB_0cc hw_0ccc⟩ (fun hHeld => ?_)
    clear hK K
    try simp only [Act.put, List.getElem_toArray, List.getElem_cons_succ, List.getElem_cons_zero, List.setIfInBounds_toArray, List.set_cons_zero, List.set_cons_succ]
    obtain ⟨hP_0ccc, hA_0ccc, hB_0ccc⟩ := id hHeld
    refine wpAnyH_take (i := 5) (oi := _) (v := ?_) rfl (by kernel_rfl) (by kernel_rfl) (by kernel_rfl) (fun _ _ _ h => h) (Or.inl ⟨by rfl, ?_⟩) (by assumption) ?_
    (rotate_left); (focus (intro wv hSw; (obtain ⟨qP, qA, qB⟩ := hSw);  go_simp; (try with_reducible rfl)))
    try simp only [Act.put, List.getElem_toArray, List.getElem_cons_succ, List.getElem_cons_zero, List.setIfInBounds_toArray, List.set_cons_zero, List.set_cons_succ]
    refine wpAnyH_done (by kernel_rfl) ?_ _
    have hP3 := hP_0ccc
    have hA3 := hA_0ccc
    have hB3 := hB_0ccc
    go_wp2_with fail
    refine (toMarkS_any A0 cap0 xs0 _ hA3 (by omega)).mono ?_; rintro e' w4 ⟨gD, rfl, hgD, hD4, hw4⟩
    have hP4 := blk_next hP3 hw4
    have hA4 := hA3.next hw4
    have hB4 := bel_next hB3 hw4
    obtain ⟨cP4_0, cP4_1, fP4_0, fP4_1, zP4⟩ := blk2 hP4
    go_wp2_with fail
    refine (toWay_any _ _ _).mono ?_; rintro e' w5 ⟨rfl, hw5⟩
    have hP5 := blk_next hP4 hw5
    have hA5 := hA4.next hw5
    have hD5 := hD4.next hw5
    have hB5 := bel_next hB4 hw5
    go_wp2_with fail
    refine (iPR_any _ _ xs0 _ _ _ rfl hD5.row HQ.out (by omega)).mono ?_; rintro e' w6 ⟨rfl, hw6⟩
    have hP6 := blk_next hP5 hw6
    have hA6 := hA5.next hw6
    have hD6 := hD5.next hw6
    have hB6 := bel_next hB5 hw6
    go_wp2_with fail
    refine (toMarkS_any A0 cap0 xs0 _ hA6 (by omega)).mono ?_; rintro e' w7 ⟨gE, rfl, hgE, hE7, hw7⟩
    have hP7 := blk_next hP6 hw7
    have hA7 := hA6.next hw7
    have hD7 := hD6.next hw7
    have hB7 := bel_next hB6 hw7
    go_wp2_with fail
    refine (eqMarkS_same _ _ _ _ xs0 rfl hD7.row hE7.row (by omega)).mono ?_; rintro e' w8 ⟨rfl, hw8⟩
    have hP8 := blk_next hP7 hw8
    have hA8 := hA7.next hw8
    have hD8 := hD7.next hw8
    have hE8 := hE7.next hw8
    have hB8 := bel_next hB7 hw8
    go_wp2
    go_ret
    exact ⟨rfl, by first | exact hB8 | exact hB8.drew⟩

set_option maxRecDepth 100000 in
theorem lifted (os : Os) (started : os.Started) (H : Type) (enc : TypeId × Value → H) :
    ReturnsInHanded {} Try.checked os 6 .any (Rows.fnExactPlateReadSpec.pre6 enc Try.prog Try.f6 Rows.fnExactPlateReadRow.domain false) (Rows.fnExactPlateReadSpec.post enc Try.prog Try.f6 false true false false) := by
  refine returnsInHanded_of_change (C := Try.checked) own started (by kernel_rfl) Try.func6
    (ChangeSpec.witness6 (enc := enc) (C := Try.checked) false ⟨#[], #[.slice none 0 0, .agg #[.int .i64 0, .int .i64 0]], []⟩ 8 (by kernel_rfl) (by kernel_rfl) (by kernel_rfl) (by kernel_rfl)) ?_
  intro W base args ds gs before hval0 hW hcnd _
  have hval : ∀ (j : Nat) t v, Try.f6.params[j]? = some t → args[j]? = some v → Value.okWide Try.prog W .any base t v := hval0
  have hW' := hW
  obtain ⟨p, q, hA0, hV, rfl, hfz, hnd⟩ := hW
  have hA : DataW.TrodAll enc Try.prog W 0 (fun _ => true) true Try.f6.params.toList args.toList ds p := hA0
  rw [Try.params6] at hA hval
  obtain ⟨v0, vs0, d0, ds0, p0, q0, hargs, rfl, rfl, h0, r0⟩ := trodAll_cons hA
  obtain ⟨v1, vs1, d1, ds1, p1, q1, rfl, rfl, rfl, h1, r1⟩ := trodAll_cons r0
  obtain ⟨rfl, rfl, rfl⟩ := trodAll_nil r1
  obtain rfl : args = #[v0, v1] := by cases args; simp_all
  obtain ⟨rfl, rfl⟩ := trodVars_none hV
  have k0 := h0
  have lt0 : ∀ x ∈ p0, x.block < W.heap.size := by obtain ⟨m, hm⟩ := k0; exact DataW.trod_lt m _ _ _ hm
  have k1 := h1
  have lt1 : ∀ x ∈ p1, x.block < W.heap.size := by obtain ⟨m, hm⟩ := k1; exact DataW.trod_lt m _ _ _ hm
  obtain ⟨A0, len0, cap0, rfl⟩ := okWide_slice Try.underlying22 (hval 0 22 v0 rfl rfl)
  obtain ⟨xs0, w0, l0, q0, hlen0⟩ : ∃ xs, SRow encMark W A0 xs ∧ xs.length ≤ maxLen ∧ (∀ v ∈ xs, Wf v.1 ∧ Wf v.2.1 ∧ v.2.2.size ≤ maxLen) ∧ xs.length = len0 := by
    obtain ⟨fuel, hf⟩ := h0
    obtain ⟨A, cap, xs, hcs, hl, hr, hq⟩ := openMarkS hf
    simp [Value.cells] at hcs
    obtain ⟨rfl, hn, rfl⟩ := hcs
    exact ⟨xs, hr, hl, hq, hn.symm⟩
  subst hlen0
  obtain ⟨c1_0, c1_1, y1_0, y1_1, m1, rfl, rfl, rfl, hy1_0, hy1_1⟩ := open_agg2 Try.underlying30 (by kernel_rfl) cells1 (hval 1 30 v1 rfl rfl) h1
  obtain ⟨a1_0, e1_0, rfl, w1_0⟩ := DataW.trod_int Try.underlying3 hy1_0
  simp at e1_0
  subst e1_0
  obtain ⟨a1_1, e1_1, rfl, w1_1⟩ := DataW.trod_int Try.underlying3 hy1_1
  simp at e1_1
  subst e1_1
  clear hA0 hval0
  refine (walk W A0 cap0 xs0 w0 l0 q0 a1_0 w1_0 a1_1 w1_1).mono fun e W' ⟨he, bel⟩ => ?_
  subst he
  exact ⟨_, rfl, _, _, _, [], _, [], hW', trodAll_mk1 (shut_bool Try.underlying4 _), (trodAll_cons_mk (Below.trod laidOut (by kernel_rfl) (of_decide_eq_true (by kernel_rfl)) k0 bel lt0) (trodAll_cons_mk (Below.trod laidOut (by kernel_rfl) (of_decide_eq_true (by kernel_rfl)) k1 bel lt1) trodAll_mk0)), rfl, bel.frame _, fun h => by cases h⟩

theorem over : Rows.fnExactPlateReadRow.holds Try.pinned (OpenSpec.ofChange Rows.fnExactPlateReadSpec) :=
  OpenClaim.holds_of_wide 6 Try.f6 rfl rfl rfl rfl rfl rfl rfl ⟨rfl, rfl, rfl, rfl, rfl⟩ rfl rfl rfl rfl rfl (by kernel_rfl) Try.func6 (by kernel_rfl)
    (of_decide_eq_true (by kernel_rfl)) (by unfold Func.isWrapper; first | (rw [if_pos (by decide +kernel)]; kernel_rfl) | (rw [if_neg (by decide +kernel)]; exact ⟨rfl, rfl⟩))
    (fun os started H enc _ => lifted os started H enc)

/-- The statement. -/
theorem proved : Rows.FnExactPlateReadSaid :=
  over
#print axioms proved
end Go.Proofs.Ytjdaeijhhnaimaa.fnExactPlateRead
