/- FnFaceGain: whatever the input, the law returns true, and its arguments read as they did. No conditions beyond those of the statement's row. -/
import Derived.Test.YtfgaggdiepielaaZ3
import Derived.Test.YtfgaggdiepielaaLp
namespace Go.Proofs.Ytfgaggdiepielaa.fnFaceGain
open Go.Proofs.Ytfgaggdiepielaa
open Go.ChangeShapes Go.WideShapes Go.ChangeAt Go.RowKit Go.Joins
set_option linter.unusedVariables false
set_option linter.unusedSimpArgs false
set_option linter.unnecessarySimpa false

theorem own : ownKnob Try.prog.godebug = none := by kernel_rfl
theorem laidOut : laidOutB Try.prog = true := by kernel_rfl

set_option maxRecDepth 100000 in
set_option maxHeartbeats 4000000 in
theorem walk (w : World) (a0 : Option Addr) (len0 cap0 : Nat) (w0 : CodeOk w a0 len0 cap0) :
    Calls Try.prog 4 #[.slice a0 len0 cap0] w fun e w' => e = .returned (.bool true) ∧ Below w.heap.size w w' := by
  by_cases hl : 1048576 < len0
  · have w0' := w0.2.1
    unfold maxLen at w0'
    clear w0
    go_enter Try.func4, Try.ntmps4
    go_wp2
    go_ret
    exact ⟨rfl, Below.refl _ _⟩
  · have w0' := w0.2.1
    unfold maxLen at w0'
    have hle := w0.1
    have HW := Lib.hid w0
    clear w0
    go_enter Try.func4, Try.ntmps4
    go_wp2_with fail
    refine (drFaceGain_any _ _ _ _ HW.out).mono ?_; rintro e w1 ⟨a, b, c, p, q, s, rfl, ha, hb, hc, hp, hq, hs, hB1⟩
    obtain ⟨v, hv⟩ : ∃ v, fgI a b c p q s = v := ⟨_, rfl⟩
    have HV := Lib.hid hv
    have hP0 := blk_old (blk_new w1 (.cells #[.int .i64 a, .int .i64 b, .int .i64 c] 24)) (.cells #[.int .i64 p, .int .i64 q, .int .i64 s] 29)
    have hQ0 := new2 w1 (.cells #[.int .i64 a, .int .i64 b, .int .i64 c] 24) (.cells #[.int .i64 p, .int .i64 q, .int .i64 s] 29)
    have hB0 := (hB1.alloc hB1.size (.cells #[.int .i64 a, .int .i64 b, .int .i64 c] 24)).alloc (hB1.alloc hB1.size (.cells #[.int .i64 a, .int .i64 b, .int .i64 c] 24)).size (.cells #[.int .i64 p, .int .i64 q, .int .i64 s] 29)
    cases hf : (fcB a b c && ryB p q s)
    · obtain rfl : v = -1 := by rw [← hv]; unfold fgI; rw [hf]; rfl
      clear hv hf ha hb hc hp hq hs
      go_wp2_with fail
      refine (iFG_is _ HV.out).mono ?_; rintro e w2 ⟨rfl, hw2⟩
      have hP2 := blk_next hP0 hw2
      have hQ2 := blk_next hQ0 hw2
      have hB2 := bel_next hB0 hw2
      obtain ⟨p0_, p1_, p2_, _, _, _, zp⟩ := blk3 hP2
      obtain ⟨q0_, q1_, q2_, _, _, _, zq⟩ := blk3 hQ2
      go_wp2_with fail
      refine (sFG_is _ HV.out).mono ?_; rintro e w3 ⟨rfl, hw3⟩
      have hP3 := blk_next hP2 hw3
      have hQ3 := blk_next hQ2 hw3
      have hB3 := bel_next hB2 hw3
      obtain ⟨p0_, p1_, p2_, _, _, _, zp⟩ := blk3 hP3
      obtain ⟨q0_, q1_, q2_, _, _, _, zq⟩ := blk3 hQ3
      go_wp2_with fail
      refine (alive_any _).mono ?_; rintro e w' ⟨rfl, rfl⟩
      go_wp2
      go_ret
      exact ⟨rfl, hB3⟩
    · rw [Bool.and_eq_true] at hf
      obtain ⟨hf1, hf2⟩ := hf
      have HTV : Hid (fgI (-b) a c (-q) p s = v) := Lib.hid (by rw [fgI_turn]; exact hv)
      have HRY := Lib.hid hf2
      have hca := fgI_cauchy hf1 hf2
      obtain ⟨v0, v1⟩ := fgI_bd hf1 hf2
      rw [hv] at hca v0 v1
      have h1 := fcB_iff.1 hf1
      have h2 := ryB_iff.1 hf2
      clear hf1 hf2 hv ha hb hc hp hq hs
      obtain ⟨x0, x1, x2, x3, x4, x5, _⟩ := h1
      obtain ⟨y0, y1, y2, y3, y4, y5⟩ := h2
      have sa0 := sq_nn a
      have sa1 : a * a ≤ 100 := by have := mul_sq7 (x := a) (m := 10) (by omega) (by omega); omega
      have sb0 := sq_nn b
      have sb1 : b * b ≤ 100 := by have := mul_sq7 (x := b) (m := 10) (by omega) (by omega); omega
      have sc0 := sq_nn c
      have sc1 : c * c ≤ 100 := by have := mul_sq7 (x := c) (m := 10) (by omega) (by omega); omega
      have sp0 := sq_nn p
      have sp1 : p * p ≤ 400 := by have := mul_sq7 (x := p) (m := 20) (by omega) (by omega); omega
      have sq0 := sq_nn q
      have sq1 : q * q ≤ 400 := by have := mul_sq7 (x := q) (m := 20) (by omega) (by omega); omega
      have ss0 := sq_nn s
      have ss1 : s * s ≤ 400 := by have := mul_sq7 (x := s) (m := 20) (by omega) (by omega); omega
      have hvv0 := sq_nn v
      have hvv1 : v * v ≤ 360000 := by have := mul_sq7 (x := v) (m := 600) (by omega) (by omega); omega
      have hvn : ¬ v < 0 := by omega
      have hpr : (a * a + b * b + c * c) * (p * p + q * q + s * s) ≤ 300 * 1200 := Int.mul_le_mul (by omega) (by omega) (by omega) (by omega)
      have hpr0 : 0 ≤ (a * a + b * b + c * c) * (p * p + q * q + s * s) := Int.mul_nonneg (by omega) (by omega)
      have wv : IntKind.i64.wrap (v * v) = v * v := IntWalk.i64_in _ (by omega)
      have wp9 : IntKind.i64.wrap ((a * a + b * b + c * c) * (p * p + q * q + s * s)) = (a * a + b * b + c * c) * (p * p + q * q + s * s) := IntWalk.i64_in _ (by omega)
      have hdd : decide (v * v ≤ (a * a + b * b + c * c) * (p * p + q * q + s * s)) = true := decide_eq_true hca
      have wnb : IntKind.i64.wrap (-b) = -b := IntWalk.i64_in _ (by omega)
      clear hpr hpr0
      go_wp2_with fail
      refine (iFG_is _ HV.out).mono ?_; rintro e w2 ⟨rfl, hw2⟩
      have hP2 := blk_next hP0 hw2
      have hQ2 := blk_next hQ0 hw2
      have hB2 := bel_next hB0 hw2
      obtain ⟨p0_, p1_, p2_, _, _, _, zp⟩ := blk3 hP2
      obtain ⟨q0_, q1_, q2_, _, _, _, zq⟩ := blk3 hQ2
      go_wp2_with fail
      refine (sFG_is _ HV.out).mono ?_; rintro e w3 ⟨rfl, hw3⟩
      have hP3 := blk_next hP2 hw3
      have hQ3 := blk_next hQ2 hw3
      have hB3 := bel_next hB2 hw3
      obtain ⟨p0_, p1_, p2_, _, _, _, zp⟩ := blk3 hP3
      obtain ⟨q0_, q1_, q2_, _, _, _, zq⟩ := blk3 hQ3
      clear p0_ p1_ p2_ q0_ q1_ q2_ zp zq
      obtain ⟨p0_, p1_, p2_, _, _, _, zp⟩ := blk3 hP3
      obtain ⟨q0_, q1_, q2_, _, _, _, zq⟩ := blk3 hQ3
      go_wp2_with fail
      refine wp_region_held_drew (S := (fun w' => w'.heap[w1.heap.size]? = some (.cells #[.int .i64 a, .int .i64 b, .int .i64 c] 24) ∧ w'.heap[w1.heap.size + 1]? = some (.cells #[.int .i64 p, .int .i64 q, .int .i64 s] 29) ∧ Below w.heap.size w w')) (by kernel_rfl) ⟨hP3, hQ3, hB3.drew⟩ (fun hHeld => ?_)
      obtain ⟨hP_0, hQ_0, hB_0⟩ := id hHeld
      refine wpAnyH_take (i := 0) (oi := _) (v := ?_) rfl (by kernel_rfl) (by kernel_rfl) (by kernel_rfl) (fun _ _ _ h => h) (Or.inl ⟨by rfl, ?_⟩) (by assumption) ?_
      (rotate_left); (focus (intro wv hSw; (obtain ⟨qP, qQ, qB⟩ := hSw); obtain ⟨u0, u1, u2, _, _, _, _⟩ := blk3 qP; obtain ⟨t0, t1, t2, _, _, _, _⟩ := blk3 qQ; go_simp; (try with_reducible rfl)))
      try simp only [Act.put, List.getElem_toArray, List.getElem_cons_succ, List.getElem_cons_zero, List.setIfInBounds_toArray, List.set_cons_zero, List.set_cons_succ]
      refine wpAnyH_take (i := 1) (oi := _) (v := ?_) rfl (by kernel_rfl) (by kernel_rfl) (by kernel_rfl) (fun _ _ _ h => h) (Or.inl ⟨by rfl, ?_⟩) (by assumption) ?_
      (rotate_left); (focus (intro wv hSw; (obtain ⟨qP, qQ, qB⟩ := hSw); obtain ⟨u0, u1, u2, _, _, _, _⟩ := blk3 qP; obtain ⟨t0, t1, t2, _, _, _, _⟩ := blk3 qQ; go_simp; (try with_reducible rfl)))
      try simp only [Act.put, List.getElem_toArray, List.getElem_cons_succ, List.getElem_cons_zero, List.setIfInBounds_toArray, List.set_cons_zero, List.set_cons_succ]
      refine wpAnyH_take (i := 2) (oi := _) (v := ?_) rfl (by kernel_rfl) (by kernel_rfl) (by kernel_rfl) (fun _ _ _ h => h) (Or.inl ⟨by rfl, ?_⟩) (by assumption) ?_
      (rotate_left); (focus (intro wv hSw; (obtain ⟨qP, qQ, qB⟩ := hSw); obtain ⟨u0, u1, u2, _, _, _, _⟩ := blk3 qP; obtain ⟨t0, t1, t2, _, _, _, _⟩ := blk3 qQ; go_simp; (try with_reducible rfl)))
      try simp only [Act.put, List.getElem_toArray, List.getElem_cons_succ, List.getElem_cons_zero, List.setIfInBounds_toArray, List.set_cons_zero, List.set_cons_succ]
      refine wpAnyH_take (i := 3) (oi := _) (v := ?_) rfl (by kernel_rfl) (by kernel_rfl) (by kernel_rfl) (fun _ _ _ h => h) (Or.inl ⟨by rfl, ?_⟩) (by assumption) ?_
      (rotate_left); (focus (intro wv hSw; (obtain ⟨qP, qQ, qB⟩ := hSw); obtain ⟨u0, u1, u2, _, _, _, _⟩ := blk3 qP; obtain ⟨t0, t1, t2, _, _, _, _⟩ := blk3 qQ; go_simp; (try with_reducible rfl)))
      try simp only [Act.put, List.getElem_toArray, List.getElem_cons_succ, List.getElem_cons_zero, List.setIfInBounds_toArray, List.set_cons_zero, List.set_cons_succ]
      refine wpAnyH_take (i := 4) (oi := _) (v := ?_) rfl (by kernel_rfl) (by kernel_rfl) (by kernel_rfl) (fun _ _ _ h => h) (Or.inl ⟨by rfl, ?_⟩) (by assumption) ?_
      (rotate_left); (focus (intro wv hSw; (obtain ⟨qP, qQ, qB⟩ := hSw); obtain ⟨u0, u1, u2, _, _, _, _⟩ := blk3 qP; obtain ⟨t0, t1, t2, _, _, _, _⟩ := blk3 qQ; go_simp; (try with_reducible rfl)))
      try simp only [Act.put, List.getElem_toArray, List.getElem_cons_succ, List.getElem_cons_zero, List.setIfInBounds_toArray, List.set_cons_zero, List.set_cons_succ]
      refine wpAnyH_take (i := 5) (oi := _) (v := ?_) rfl (by kernel_rfl) (by kernel_rfl) (by kernel_rfl) (fun _ _ _ h => h) (Or.inl ⟨by rfl, ?_⟩) (by assumption) ?_
      (rotate_left); (focus (intro wv hSw; (obtain ⟨qP, qQ, qB⟩ := hSw); obtain ⟨u0, u1, u2, _, _, _, _⟩ := blk3 qP; obtain ⟨t0, t1, t2, _, _, _, _⟩ := blk3 qQ; go_simp; (try with_reducible rfl)))
      try simp only [Act.put, List.getElem_toArray, List.getElem_cons_succ, List.getElem_cons_zero, List.setIfInBounds_toArray, List.set_cons_zero, List.set_cons_succ]
      refine wpAnyH_take (i := 6) (oi := _) (v := ?_) rfl (by kernel_rfl) (by kernel_rfl) (by kernel_rfl) (fun _ _ _ h => h) (Or.inl ⟨by rfl, ?_⟩) (by assumption) ?_
      (rotate_left); (focus (intro wv hSw; (obtain ⟨qP, qQ, qB⟩ := hSw); obtain ⟨u0, u1, u2, _, _, _, _⟩ := blk3 qP; obtain ⟨t0, t1, t2, _, _, _, _⟩ := blk3 qQ; go_simp; (try with_reducible rfl)))
      try simp only [Act.put, List.getElem_toArray, List.getElem_cons_succ, List.getElem_cons_zero, List.setIfInBounds_toArray, List.set_cons_zero, List.set_cons_succ]
      refine wpAnyH_take (i := 7) (oi := _) (v := ?_) rfl (by kernel_rfl) (by kernel_rfl) (by kernel_rfl) (fun _ _ _ h => h) (Or.inl ⟨by rfl, ?_⟩) (by assumption) ?_
      (rotate_left); (focus (intro wv hSw; (obtain ⟨qP, qQ, qB⟩ := hSw); obtain ⟨u0, u1, u2, _, _, _, _⟩ := blk3 qP; obtain ⟨t0, t1, t2, _, _, _, _⟩ := blk3 qQ; go_simp; (try with_reducible rfl)))
      try simp only [Act.put, List.getElem_toArray, List.getElem_cons_succ, List.getElem_cons_zero, List.setIfInBounds_toArray, List.set_cons_zero, List.set_cons_succ]
      refine wpAnyH_take (i := 8) (oi := _) (v := ?_) rfl (by kernel_rfl) (by kernel_rfl) (by kernel_rfl) (fun _ _ _ h => h) (Or.inl ⟨by rfl, ?_⟩) (by assumption) ?_
      (rotate_left); (focus (intro wv hSw; (obtain ⟨qP, qQ, qB⟩ := hSw); obtain ⟨u0, u1, u2, _, _, _, _⟩ := blk3 qP; obtain ⟨t0, t1, t2, _, _, _, _⟩ := blk3 qQ; go_simp; (try with_reducible rfl)))
      try simp only [Act.put, List.getElem_toArray, List.getElem_cons_succ, List.getElem_cons_zero, List.setIfInBounds_toArray, List.set_cons_zero, List.set_cons_succ]
      refine wpAnyH_take (i := 9) (oi := _) (v := ?_) rfl (by kernel_rfl) (by kernel_rfl) (by kernel_rfl) (fun _ _ _ h => h) (Or.inl ⟨by rfl, ?_⟩) (by assumption) ?_
      (rotate_left); (focus (intro wv hSw; (obtain ⟨qP, qQ, qB⟩ := hSw); obtain ⟨u0, u1, u2, _, _, _, _⟩ := blk3 qP; obtain ⟨t0, t1, t2, _, _, _, _⟩ := blk3 qQ; go_simp; (try with_reducible rfl)))
      try simp only [Act.put, List.getElem_toArray, List.getElem_cons_succ, List.getElem_cons_zero, List.setIfInBounds_toArray, List.set_cons_zero, List.set_cons_succ]
      refine wpAnyH_take (i := 10) (oi := _) (v := ?_) rfl (by kernel_rfl) (by kernel_rfl) (by kernel_rfl) (fun _ _ _ h => h) (Or.inl ⟨by rfl, ?_⟩) (by assumption) ?_
      (rotate_left); (focus (intro wv hSw; (obtain ⟨qP, qQ, qB⟩ := hSw); obtain ⟨u0, u1, u2, _, _, _, _⟩ := blk3 qP; obtain ⟨t0, t1, t2, _, _, _, _⟩ := blk3 qQ; go_simp; (try with_reducible rfl)))
      try simp only [Act.put, List.getElem_toArray, List.getElem_cons_succ, List.getElem_cons_zero, List.setIfInBounds_toArray, List.set_cons_zero, List.set_cons_succ]
      refine wpAnyH_take (i := 11) (oi := _) (v := ?_) rfl (by kernel_rfl) (by kernel_rfl) (by kernel_rfl) (fun _ _ _ h => h) (Or.inl ⟨by rfl, ?_⟩) (by assumption) ?_
      (rotate_left); (focus (intro wv hSw; (obtain ⟨qP, qQ, qB⟩ := hSw); obtain ⟨u0, u1, u2, _, _, _, _⟩ := blk3 qP; obtain ⟨t0, t1, t2, _, _, _, _⟩ := blk3 qQ; go_simp; (try with_reducible rfl)))
      try simp only [Act.put, List.getElem_toArray, List.getElem_cons_succ, List.getElem_cons_zero, List.setIfInBounds_toArray, List.set_cons_zero, List.set_cons_succ]
      refine wpAnyH_take (i := 12) (oi := _) (v := ?_) rfl (by kernel_rfl) (by kernel_rfl) (by kernel_rfl) (fun _ _ _ h => h) (Or.inl ⟨by rfl, ?_⟩) (by assumption) ?_
      (rotate_left); (focus (intro wv hSw; (obtain ⟨qP, qQ, qB⟩ := hSw); obtain ⟨u0, u1, u2, _, _, _, _⟩ := blk3 qP; obtain ⟨t0, t1, t2, _, _, _, _⟩ := blk3 qQ; go_simp; (try with_reducible rfl)))
      try simp only [Act.put, List.getElem_toArray, List.getElem_cons_succ, List.getElem_cons_zero, List.setIfInBounds_toArray, List.set_cons_zero, List.set_cons_succ]
      refine wpAnyH_take (i := 13) (oi := _) (v := ?_) rfl (by kernel_rfl) (by kernel_rfl) (by kernel_rfl) (fun _ _ _ h => h) (Or.inl ⟨by rfl, ?_⟩) (by assumption) ?_
      (rotate_left); (focus (intro wv hSw; (obtain ⟨qP, qQ, qB⟩ := hSw); obtain ⟨u0, u1, u2, _, _, _, _⟩ := blk3 qP; obtain ⟨t0, t1, t2, _, _, _, _⟩ := blk3 qQ; go_simp; (try with_reducible rfl)))
      try simp only [Act.put, List.getElem_toArray, List.getElem_cons_succ, List.getElem_cons_zero, List.setIfInBounds_toArray, List.set_cons_zero, List.set_cons_succ]
      refine wpAnyH_take (i := 14) (oi := _) (v := ?_) rfl (by kernel_rfl) (by kernel_rfl) (by kernel_rfl) (fun _ _ _ h => h) (Or.inl ⟨by rfl, ?_⟩) (by assumption) ?_
      (rotate_left); (focus (intro wv hSw; (obtain ⟨qP, qQ, qB⟩ := hSw); obtain ⟨u0, u1, u2, _, _, _, _⟩ := blk3 qP; obtain ⟨t0, t1, t2, _, _, _, _⟩ := blk3 qQ; go_simp; (try with_reducible rfl)))
      try simp only [Act.put, List.getElem_toArray, List.getElem_cons_succ, List.getElem_cons_zero, List.setIfInBounds_toArray, List.set_cons_zero, List.set_cons_succ]
      refine wpAnyH_take (i := 15) (oi := _) (v := ?_) rfl (by kernel_rfl) (by kernel_rfl) (by kernel_rfl) (fun _ _ _ h => h) (Or.inl ⟨by rfl, ?_⟩) (by assumption) ?_
      (rotate_left); (focus (intro wv hSw; (obtain ⟨qP, qQ, qB⟩ := hSw); obtain ⟨u0, u1, u2, _, _, _, _⟩ := blk3 qP; obtain ⟨t0, t1, t2, _, _, _, _⟩ := blk3 qQ; go_simp; (try with_reducible rfl)))
      try simp only [Act.put, List.getElem_toArray, List.getElem_cons_succ, List.getElem_cons_zero, List.setIfInBounds_toArray, List.set_cons_zero, List.set_cons_succ]
      refine wpAnyH_take (i := 16) (oi := _) (v := ?_) rfl (by kernel_rfl) (by kernel_rfl) (by kernel_rfl) (fun _ _ _ h => h) (Or.inl ⟨by rfl, ?_⟩) (by assumption) ?_
      (rotate_left); (focus (intro wv hSw; (obtain ⟨qP, qQ, qB⟩ := hSw); obtain ⟨u0, u1, u2, _, _, _, _⟩ := blk3 qP; obtain ⟨t0, t1, t2, _, _, _, _⟩ := blk3 qQ; go_simp; (try with_reducible rfl)))
      try simp only [Act.put, List.getElem_toArray, List.getElem_cons_succ, List.getElem_cons_zero, List.setIfInBounds_toArray, List.set_cons_zero, List.set_cons_succ]
      refine wpAnyH_take (i := 19) (oi := _) (v := ?_) rfl (by kernel_rfl) (by kernel_rfl) (by kernel_rfl) (fun _ _ _ h => h) (Or.inl ⟨by rfl, ?_⟩) (by assumption) ?_
      (rotate_left); (focus (intro wv hSw; (obtain ⟨qP, qQ, qB⟩ := hSw); obtain ⟨u0, u1, u2, _, _, _, _⟩ := blk3 qP; obtain ⟨t0, t1, t2, _, _, _, _⟩ := blk3 qQ; go_simp; (try with_reducible rfl)))
      try simp only [Act.put, List.getElem_toArray, List.getElem_cons_succ, List.getElem_cons_zero, List.setIfInBounds_toArray, List.set_cons_zero, List.set_cons_succ]
      refine wpAnyH_ready (rs := [17]) (by kernel_rfl) (by simp) ?_
      refine AllReadyH.cons (o := _) rfl (fun K hK => ?_) AllReadyH.nil
      go_simp
      (go_at_call 18; refine (iRT7 _ _ _ _ HRY.out).mono ?_; rintro e x0c ⟨rfl, hw_0c⟩)
      refine hK.out _ _ ⟨blk_next hP_0 hw_0c, blk_next hQ_0 hw_0c, bel_next hB_0 hw_0c⟩ (fun hHeld => ?_)
      clear hK K
      try simp only [Act.put, List.getElem_toArray, List.getElem_cons_succ, List.getElem_cons_zero, List.setIfInBounds_toArray, List.set_cons_zero, List.set_cons_succ]
      obtain ⟨hP_0c, hQ_0c, hB_0c⟩ := id hHeld
      refine wpAnyH_ready (rs := [18]) (by kernel_rfl) (by simp) ?_
      refine AllReadyH.cons (o := _) rfl (fun K hK => ?_) AllReadyH.nil
      go_simp
      (go_at_call 16; refine (iFG_is _ HTV.out).mono ?_; rintro e x0cc ⟨rfl, hw_0cc⟩)
      refine hK.out _ _ ⟨blk_next hP_0c hw_0cc, blk_next hQ_0c hw_0cc, bel_next hB_0c hw_0cc⟩ (fun hHeld => ?_)
      clear hK K
      try simp only [Act.put, List.getElem_toArray, List.getElem_cons_succ, List.getElem_cons_zero, List.setIfInBounds_toArray, List.set_cons_zero, List.set_cons_succ]
      obtain ⟨hP_0cc, hQ_0cc, hB_0cc⟩ := id hHeld
      refine wpAnyH_take (i := 20) (oi := _) (v := ?_) rfl (by kernel_rfl) (by kernel_rfl) (by kernel_rfl) (fun _ _ _ h => h) (Or.inl ⟨by rfl, ?_⟩) (by assumption) ?_
      (rotate_left); (focus (intro wv hSw; (obtain ⟨qP, qQ, qB⟩ := hSw); obtain ⟨u0, u1, u2, _, _, _, _⟩ := blk3 qP; obtain ⟨t0, t1, t2, _, _, _, _⟩ := blk3 qQ; go_simp; (try with_reducible rfl)))
      try simp only [Act.put, List.getElem_toArray, List.getElem_cons_succ, List.getElem_cons_zero, List.setIfInBounds_toArray, List.set_cons_zero, List.set_cons_succ]
      refine wpAnyH_take (i := 21) (oi := _) (v := ?_) rfl (by kernel_rfl) (by kernel_rfl) (by kernel_rfl) (fun _ _ _ h => h) (Or.inl ⟨by rfl, ?_⟩) (by assumption) ?_
      (rotate_left); (focus (intro wv hSw; (obtain ⟨qP, qQ, qB⟩ := hSw); obtain ⟨u0, u1, u2, _, _, _, _⟩ := blk3 qP; obtain ⟨t0, t1, t2, _, _, _, _⟩ := blk3 qQ; go_simp; (try with_reducible rfl)))
      try simp only [Act.put, List.getElem_toArray, List.getElem_cons_succ, List.getElem_cons_zero, List.setIfInBounds_toArray, List.set_cons_zero, List.set_cons_succ]
      refine wpAnyH_take (i := 22) (oi := _) (v := ?_) rfl (by kernel_rfl) (by kernel_rfl) (by kernel_rfl) (fun _ _ _ h => h) (Or.inl ⟨by rfl, ?_⟩) (by assumption) ?_
      (rotate_left); (focus (intro wv hSw; (obtain ⟨qP, qQ, qB⟩ := hSw); obtain ⟨u0, u1, u2, _, _, _, _⟩ := blk3 qP; obtain ⟨t0, t1, t2, _, _, _, _⟩ := blk3 qQ; go_simp; (try with_reducible rfl)))
      try simp only [Act.put, List.getElem_toArray, List.getElem_cons_succ, List.getElem_cons_zero, List.setIfInBounds_toArray, List.set_cons_zero, List.set_cons_succ]
      refine wpAnyH_done (by kernel_rfl) ?_ _
      go_wp2
      go_ret
      exact ⟨rfl, hB_0cc⟩

set_option maxRecDepth 100000 in
theorem lifted (os : Os) (started : os.Started) (H : Type) (enc : TypeId × Value → H) :
    ReturnsInHanded {} Try.checked os 4 .any (Rows.fnFaceGainSpec.pre6 enc Try.prog Try.f4 Rows.fnFaceGainRow.domain false) (Rows.fnFaceGainSpec.post enc Try.prog Try.f4 false true false false) := by
  refine returnsInHanded_of_change (C := Try.checked) own started (by kernel_rfl) Try.func4
    (ChangeSpec.witness6 (enc := enc) (C := Try.checked) false ⟨#[], #[.slice none 0 0], []⟩ 8 (by kernel_rfl) (by kernel_rfl) (by kernel_rfl) (by kernel_rfl)) ?_
  intro W base args ds gs before hval0 hW hcnd _
  have hval : ∀ (j : Nat) t v, Try.f4.params[j]? = some t → args[j]? = some v → Value.okWide Try.prog W .any base t v := hval0
  have hW' := hW
  obtain ⟨p, q, hA0, hV, rfl, hfz, hnd⟩ := hW
  have hA : DataW.TrodAll enc Try.prog W 0 (fun _ => true) true Try.f4.params.toList args.toList ds p := hA0
  rw [Try.params4] at hA hval
  obtain ⟨v0, vs0, d0, ds0, p0, q0, hargs, rfl, rfl, h0, r0⟩ := trodAll_cons hA
  obtain ⟨rfl, rfl, rfl⟩ := trodAll_nil r0
  obtain rfl : args = #[v0] := by cases args; simp_all
  obtain ⟨rfl, rfl⟩ := trodVars_none hV
  have k0 := h0
  have lt0 : ∀ x ∈ p0, x.block < W.heap.size := by obtain ⟨m, hm⟩ := k0; exact DataW.trod_lt m _ _ _ hm
  obtain ⟨a0, len0, cap0, rfl⟩ := okWide_slice Try.underlying22 (hval 0 22 v0 rfl rfl)
  have w0 : CodeOk W a0 len0 cap0 := by
    obtain ⟨fuel, hf⟩ := h0
    rcases open_ints Try.underlying22 Try.underlying5 (by kernel_rfl) hf with ⟨hcs, _⟩ | ⟨x, l, c, zs, hcs, _, hl, hm, hz, _, hcell, hwz⟩
    · simp [Value.cells] at hcs
      obtain ⟨rfl, rfl, rfl⟩ := hcs
      exact code_nil W
    · simp [Value.cells] at hcs
      obtain ⟨rfl, rfl, rfl⟩ := hcs
      exact code_ok hl hm (by simp at hz; omega) hcell hwz
  clear hA0 hval0
  refine (walk W a0 len0 cap0 w0).mono fun e W' ⟨he, bel⟩ => ?_
  subst he
  exact ⟨_, rfl, _, _, _, [], _, [], hW', trodAll_mk1 (shut_bool Try.underlying4 _), (trodAll_cons_mk (Below.trod laidOut (by kernel_rfl) (of_decide_eq_true (by kernel_rfl)) k0 bel lt0) trodAll_mk0), rfl, bel.frame _, fun h => by cases h⟩

theorem over : Rows.fnFaceGainRow.holds Try.pinned (OpenSpec.ofChange Rows.fnFaceGainSpec) :=
  OpenClaim.holds_of_wide 4 Try.f4 rfl rfl rfl rfl rfl rfl rfl ⟨rfl, rfl, rfl, rfl, rfl⟩ rfl rfl rfl rfl rfl (by kernel_rfl) Try.func4 (by kernel_rfl)
    (of_decide_eq_true (by kernel_rfl)) (by unfold Func.isWrapper; first | (rw [if_pos (by decide +kernel)]; kernel_rfl) | (rw [if_neg (by decide +kernel)]; exact ⟨rfl, rfl⟩))
    (fun os started H enc _ => lifted os started H enc)

/-- The statement. -/
theorem proved : Rows.FnFaceGainSaid :=
  over
#print axioms proved
end Go.Proofs.Ytfgaggdiepielaa.fnFaceGain
