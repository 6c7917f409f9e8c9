/- FnExactKeepLit: whatever the input, the law returns true, and its arguments read as they did. No conditions beyond those of the statement's row. -/
import Derived.Test.YtidppabconifkabYz
import Derived.Test.YtidppabconifkabYu
namespace Go.Proofs.Ytidppabconifkab.fnExactKeepLit
open Go.Proofs.Ytidppabconifkab
open Go.ChangeShapes Go.WideShapes Go.ChangeAt Go.RowKit Go.Joins
set_option linter.unusedVariables false
set_option linter.unusedSimpArgs false
set_option linter.unnecessarySimpa false

theorem own : ownKnob Try.prog.godebug = none := by kernel_rfl
theorem laidOut : laidOutB Try.prog = true := by kernel_rfl
theorem cells0 : Try.prog.cellsOf 51 = 2 := by kernel_rfl
set_option maxRecDepth 100000 in
set_option maxHeartbeats 4000000 in
theorem walk (w : World) (d0 : Int) (A0 : Option Addr) (cap0 : Nat) (xs0 : List Int) (w0 : SRow encNum w A0 xs0) (l0 : xs0.length ≤ maxLen) (q0 : Wf d0) (a1 : Int) (w1 : (Lit.int .i64 a1).wf = true) (a2 : Int) (w2 : (Lit.int .i64 a2).wf = true) (a3 : Int) (w3 : (Lit.int .i64 a3).wf = true) :
    Calls Try.prog 7 #[.agg #[.int .i64 d0, .slice A0 xs0.length cap0], .int .i64 a1, .int .i64 a2, .int .i64 a3] w fun e w' => e = .returned (.bool true) ∧ Below w.heap.size w w' := by
  obtain ⟨v, hv⟩ : ∃ v, kpI d0 xs0 a1 a2 a3 = v := ⟨_, rfl⟩
  have HV := Lib.hid hv
  clear hv
  have hW0 := w0
  clear q0
  have l0' := l0
  unfold maxLen at l0'
  go_enter Try.func7, Try.ntmps7
  go_wp2_with fail
  refine (szCity_any d0 A0 _ cap0 1048576 _ (by omega) (by omega) l0).mono ?_; rintro e' w1 ⟨r, rfl, hL, hw1⟩
  obtain ⟨hP1, hB1⟩ := ownb hw1
  rcases hL with rfl | ⟨r0, r1, hq⟩
  · go_wp2
    go_ret
    exact ⟨rfl, hB1⟩
  · have hr : ¬ r < 0 := by omega
    have hn : xs0.length ≤ 1048576 := by omega
    clear hq
    have hB0 := hB1
    have hP0 := hP1
    have hA_0 := hW0.next hB1
    obtain ⟨cP0_0, cP0_1, fP0_0, fP0_1, zP0⟩ := blk2 hP0
    go_wp2_with fail
    refine (toCity_any d0 A0 cap0 xs0 _ hA_0 (by omega)).mono ?_; rintro e' w1 ⟨gC, rfl, hgC, hC1, hw1⟩
    have hP1 := blk_next hP0 hw1
    have hA_1 := hA_0.next hw1
    have hB1 := bel_next hB0 hw1
    go_wp2_with fail
    refine (sKl_is d0 _ _ xs0 a1 a2 a3 _ rfl hC1.row (by omega) HV.out).mono ?_; rintro e' w2 ⟨rfl, hw2⟩
    have hP2 := blk_next hP1 hw2
    have hA_2 := hA_1.next hw2
    have hC2 := hC1.next hw2
    have hB2 := bel_next hB1 hw2
    obtain ⟨cP2_0, cP2_1, fP2_0, fP2_1, zP2⟩ := blk2 hP2
    go_wp2_with fail
    refine (toCity_any d0 A0 cap0 xs0 _ hA_2 (by omega)).mono ?_; rintro e' w3 ⟨gD, rfl, hgD, hD3, hw3⟩
    have hP3 := blk_next hP2 hw3
    have hA_3 := hA_2.next hw3
    have hB3 := bel_next hB2 hw3
    obtain ⟨zX, hzX⟩ : ∃ z, w3.heap.size = z := ⟨_, rfl⟩
    have hXl : w.heap.size < zX := by have := blk_lt hP3; omega
    have hDl := hD3.lt
    have hX4 := blk_new w3 (.cells #[.int .i64 d0, .slice (some ⟨gD, 0, none⟩) xs0.length xs0.length] 54 (0, 0))
    have hP4 := blk_old hP3 (.cells #[.int .i64 d0, .slice (some ⟨gD, 0, none⟩) xs0.length xs0.length] 54 (0, 0))
    have hB4 := hB3.alloc hB3.size (.cells #[.int .i64 d0, .slice (some ⟨gD, 0, none⟩) xs0.length xs0.length] 54 (0, 0))
    have hA_4 := hA_3.next (bel1 _ (.cells #[.int .i64 d0, .slice (some ⟨gD, 0, none⟩) xs0.length xs0.length] 54 (0, 0)))
    have hD4 := hD3.next (bel1 _ (.cells #[.int .i64 d0, .slice (some ⟨gD, 0, none⟩) xs0.length xs0.length] 54 (0, 0)))
    rw [hzX] at hX4
    have HZX := Lib.hid hzX
    obtain ⟨cX4_0, cX4_1, fX4_0, fX4_1, zX4⟩ := blk2 hX4
    go_wp2_with fail
    refine (iKl_is d0 _ _ xs0 a1 a2 a3 _ rfl hD4.row (by omega) HV.out).mono ?_; rintro e' w5 ⟨rfl, hw5⟩
    have hP5 := blk_next hP4 hw5
    have hX5 := blk_next hX4 hw5
    have hA_5 := hA_4.next hw5
    have hD5 := hD4.next hw5
    have hB5 := bel_next hB4 hw5
    go_wp2_with fail
    refine wp_region_held_drew (S := (fun w' => w'.heap[w.heap.size]? = some (.cells #[.int .i64 d0, .slice A0 xs0.length cap0] 51 (0, 0)) ∧ w'.heap[zX]? = some (.cells #[.int .i64 d0, .slice (some ⟨gD, 0, none⟩) xs0.length xs0.length] 54 (0, 0)) ∧ SRow encNum w' A0 xs0 ∧ SBlk encNum w' gD 3 xs0 ∧ Below w.heap.size w w')) (by kernel_rfl) ⟨hP5, hX5, hA_5, hD5, hB5.drew⟩ (fun hHeld => ?_)
    obtain ⟨hP_0, hX_0, hA_0, hD_0, hB_0⟩ := id hHeld
    refine wpAnyH_take (i := 0) (oi := _) (v := ?_) rfl (by kernel_rfl) (by kernel_rfl) (by kernel_rfl) (fun _ _ _ h => h) (Or.inl ⟨by rfl, ?_⟩) (by assumption) ?_
    (rotate_left); (focus (intro wv hSw; (obtain ⟨qP, qX, qA, qD, qB⟩ := hSw); obtain ⟨u0, u1, _, _, _⟩ := blk2 qX; go_simp; (try with_reducible rfl)))
    try simp only [Act.put, List.getElem_toArray, List.getElem_cons_succ, List.getElem_cons_zero, List.setIfInBounds_toArray, List.set_cons_zero, List.set_cons_succ]
    refine wpAnyH_take (i := 1) (oi := _) (v := ?_) rfl (by kernel_rfl) (by kernel_rfl) (by kernel_rfl) (fun _ _ _ h => h) (Or.inl ⟨by rfl, ?_⟩) (by assumption) ?_
    (rotate_left); (focus (intro wv hSw; (obtain ⟨qP, qX, qA, qD, qB⟩ := hSw); obtain ⟨u0, u1, _, _, _⟩ := blk2 qP; go_simp; (try with_reducible rfl)))
    try simp only [Act.put, List.getElem_toArray, List.getElem_cons_succ, List.getElem_cons_zero, List.setIfInBounds_toArray, List.set_cons_zero, List.set_cons_succ]
    refine wpAnyH_ready (rs := [2]) (by kernel_rfl) (by simp) ?_
    refine AllReadyH.cons (o := _) rfl (fun K hK => ?_) AllReadyH.nil
    go_simp
    (go_at_call 26; refine (toCity_any d0 A0 cap0 xs0 _ hA_0 (by omega)).mono ?_; rintro e x0c ⟨gE, rfl, hgE, hE_0c, hw_0c⟩)
    refine hK.out _ _ ⟨blk_next hP_0 hw_0c, blk_next hX_0 hw_0c, hA_0.next hw_0c, hD_0.next hw_0c, bel_next hB_0 hw_0c⟩ (fun hHeld => ?_)
    clear hK K
    try simp only [Act.put, List.getElem_toArray, List.getElem_cons_succ, List.getElem_cons_zero, List.setIfInBounds_toArray, List.set_cons_zero, List.set_cons_succ]
    obtain ⟨hP_0c, hX_0c, hA_0c, hD_0c, hB_0c⟩ := id hHeld
    refine wpAnyH_ready (rs := [3]) (by kernel_rfl) (by simp) ?_
    refine AllReadyH.cons (o := _) rfl (fun K hK => ?_) AllReadyH.nil
    go_simp
    (go_at_call 28; refine (eqCity_same d0 _ _ _ _ xs0 rfl hD_0c.row hE_0c.row (by omega)).mono ?_; rintro e x0cc ⟨rfl, hw_0cc⟩)
    refine hK.out _ _ ⟨blk_next hP_0c hw_0cc, blk_next hX_0c hw_0cc, hA_0c.next hw_0cc, hD_0c.next hw_0cc, bel_next hB_0c hw_0cc⟩ (fun hHeld => ?_)
    clear hK K
    try simp only [Act.put, List.getElem_toArray, List.getElem_cons_succ, List.getElem_cons_zero, List.setIfInBounds_toArray, List.set_cons_zero, List.set_cons_succ]
    obtain ⟨hP_0cc, hX_0cc, hA_0cc, hD_0cc, hB_0cc⟩ := id hHeld
    refine wpAnyH_take (i := 4) (oi := _) (v := ?_) rfl (by kernel_rfl) (by kernel_rfl) (by kernel_rfl) (fun _ _ _ h => h) (Or.inl ⟨by rfl, ?_⟩) (by assumption) ?_
    (rotate_left); (focus (intro wv hSw; (obtain ⟨qP, qX, qA, qD, qB⟩ := hSw);  go_simp; (try with_reducible rfl)))
    try simp only [Act.put, List.getElem_toArray, List.getElem_cons_succ, List.getElem_cons_zero, List.setIfInBounds_toArray, List.set_cons_zero, List.set_cons_succ]
    refine wpAnyH_done (by kernel_rfl) ?_ _
    have hP6 := hP_0cc
    have hX6 := hX_0cc
    have hA_6 := hA_0cc
    have hD6 := hD_0cc
    have hB6 := hB_0cc
    go_wp2
    go_ret
    exact ⟨rfl, hB6⟩

set_option maxRecDepth 100000 in
theorem lifted (os : Os) (started : os.Started) (H : Type) (enc : TypeId × Value → H) :
    ReturnsInHanded {} Try.checked os 7 .any (Rows.fnExactKeepLitSpec.pre6 enc Try.prog Try.f7 Rows.fnExactKeepLitRow.domain false) (Rows.fnExactKeepLitSpec.post enc Try.prog Try.f7 false true false false) := by
  refine returnsInHanded_of_change (C := Try.checked) own started (by kernel_rfl) Try.func7
    (ChangeSpec.witness6 (enc := enc) (C := Try.checked) false ⟨#[], #[.agg #[.int .i64 0, .slice none 0 0], .int .i64 0, .int .i64 0, .int .i64 0], []⟩ 8 (by kernel_rfl) (by kernel_rfl) (by kernel_rfl) (by kernel_rfl)) ?_
  intro W base args ds gs before hval0 hW hcnd _
  have hval : ∀ (j : Nat) t v, Try.f7.params[j]? = some t → args[j]? = some v → Value.okWide Try.prog W .any base t v := hval0
  have hW' := hW
  obtain ⟨p, q, hA0, hV, rfl, hfz, hnd⟩ := hW
  have hA : DataW.TrodAll enc Try.prog W 0 (fun _ => true) true Try.f7.params.toList args.toList ds p := hA0
  rw [Try.params7] at hA hval
  obtain ⟨v0, vs0, d0, ds0, p0, q0, hargs, rfl, rfl, h0, r0⟩ := trodAll_cons hA
  obtain ⟨v1, vs1, d1, ds1, p1, q1, rfl, rfl, rfl, h1, r1⟩ := trodAll_cons r0
  obtain ⟨v2, vs2, d2, ds2, p2, q2, rfl, rfl, rfl, h2, r2⟩ := trodAll_cons r1
  obtain ⟨v3, vs3, d3, ds3, p3, q3, rfl, rfl, rfl, h3, r3⟩ := trodAll_cons r2
  obtain ⟨rfl, rfl, rfl⟩ := trodAll_nil r3
  obtain rfl : args = #[v0, v1, v2, v3] := by cases args; simp_all
  obtain ⟨rfl, rfl⟩ := trodVars_none hV
  have k0 := h0
  have lt0 : ∀ x ∈ p0, x.block < W.heap.size := by obtain ⟨m, hm⟩ := k0; exact DataW.trod_lt m _ _ _ hm
  have k1 := h1
  have lt1 : ∀ x ∈ p1, x.block < W.heap.size := by obtain ⟨m, hm⟩ := k1; exact DataW.trod_lt m _ _ _ hm
  have k2 := h2
  have lt2 : ∀ x ∈ p2, x.block < W.heap.size := by obtain ⟨m, hm⟩ := k2; exact DataW.trod_lt m _ _ _ hm
  have k3 := h3
  have lt3 : ∀ x ∈ p3, x.block < W.heap.size := by obtain ⟨m, hm⟩ := k3; exact DataW.trod_lt m _ _ _ hm
  obtain ⟨c0_0, c0_1, y0_0, y0_1, m0, rfl, rfl, rfl, hy0_0, hy0_1⟩ := open_agg2 Try.underlying51 (by kernel_rfl) cells0 (hval 0 51 v0 rfl rfl) h0
  obtain ⟨d0, e0, rfl, q0⟩ := DataW.trod_int Try.underlying3 hy0_0
  simp at e0
  subst e0
  obtain ⟨A0, cap0, xs0, hcs0, l0, w0, _⟩ := openNumS hy0_1
  simp at hcs0
  subst hcs0
  obtain ⟨a1, rfl, rfl, rfl, w1⟩ := open_int Try.underlying3 (hval 1 3 v1 rfl rfl) h1
  obtain ⟨a2, rfl, rfl, rfl, w2⟩ := open_int Try.underlying3 (hval 2 3 v2 rfl rfl) h2
  obtain ⟨a3, rfl, rfl, rfl, w3⟩ := open_int Try.underlying3 (hval 3 3 v3 rfl rfl) h3
  clear hA0 hval0
  refine (walk W d0 A0 cap0 xs0 w0 l0 q0 a1 w1 a2 w2 a3 w3).mono fun e W' ⟨he, bel⟩ => ?_
  subst he
  exact ⟨_, rfl, _, _, _, [], _, [], hW', trodAll_mk1 (shut_bool Try.underlying4 _), (trodAll_cons_mk (Below.trod laidOut (by kernel_rfl) (of_decide_eq_true (by kernel_rfl)) k0 bel lt0) (trodAll_cons_mk (Below.trod laidOut (by kernel_rfl) (of_decide_eq_true (by kernel_rfl)) k1 bel lt1) (trodAll_cons_mk (Below.trod laidOut (by kernel_rfl) (of_decide_eq_true (by kernel_rfl)) k2 bel lt2) (trodAll_cons_mk (Below.trod laidOut (by kernel_rfl) (of_decide_eq_true (by kernel_rfl)) k3 bel lt3) trodAll_mk0)))), rfl, bel.frame _, fun h => by cases h⟩

theorem over : Rows.fnExactKeepLitRow.holds Try.pinned (OpenSpec.ofChange Rows.fnExactKeepLitSpec) :=
  OpenClaim.holds_of_wide 7 Try.f7 rfl rfl rfl rfl rfl rfl rfl ⟨rfl, rfl, rfl, rfl, rfl⟩ rfl rfl rfl rfl rfl (by kernel_rfl) Try.func7 (by kernel_rfl)
    (of_decide_eq_true (by kernel_rfl)) (by unfold Func.isWrapper; first | (rw [if_pos (by decide +kernel)]; kernel_rfl) | (rw [if_neg (by decide +kernel)]; exact ⟨rfl, rfl⟩))
    (fun os started H enc _ => lifted os started H enc)

/-- The statement. -/
theorem proved : Rows.FnExactKeepLitSaid :=
  over
#print axioms proved
end Go.Proofs.Ytidppabconifkab.fnExactKeepLit
