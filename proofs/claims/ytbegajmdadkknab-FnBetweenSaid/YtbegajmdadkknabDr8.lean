/- Three ways that are drawn out of a code. -/
import Derived.Test.YtbegajmdadkknabDr5
import Derived.Test.YtbegajmdadkknabHlp2
namespace Go.Proofs.Ytbegajmdadkknab
open Go.ChangeShapes Go.WideShapes Go.ChangeAt Go.RowKit
set_option linter.unusedSimpArgs false
set_option linter.unusedVariables false

def DrewThree (w : World) (e : Ending) (w' : World) : Prop :=
  ∃ a b c d f g : Int, e = .returned (.tuple #[.agg #[.int .i64 a, .int .i64 b], .agg #[.int .i64 c, .int .i64 d], .agg #[.int .i64 f, .int .i64 g]]) ∧ -1001 ≤ a ∧ a ≤ 1001 ∧ -1001 ≤ b ∧ b ≤ 1001 ∧ -3003 ≤ c ∧ c ≤ 3003 ∧ -3003 ≤ d ∧ d ≤ 3003 ∧ -3003 ≤ f ∧ f ≤ 3003 ∧ -3003 ≤ g ∧ g ≤ 3003 ∧ Below w.heap.size w w'
set_option maxHeartbeats 8000000 in
theorem drBetween_any (a : Option Addr) (len cap : Nat) (w : World) (h : CodeOk w a len cap) : Calls Try.prog 24 #[.slice a len cap] w (DrewThree w) := by
  go_enter Try.func24, Try.ntmps24
  go_wp2_with fail
  refine (open_any _ _ _ _ (code_below h (bel3 _ _ _ _))).mono ?_; rintro e w1 ⟨B, rfl, hB, h1, hb1⟩
  obtain ⟨hP1, hQ1, hR1, hB1⟩ := ownb3 hb1
  have hz1 := blk_lt hR1
  have hB' : w.heap.size + 1 + 1 < B := by simp at hB; omega
  clear hB
  go_wp2_with fail
  refine (way_any B 0 20 _ h1 (by omega) (by omega) (by omega)).mono ?_; rintro e w2 ⟨a, b, rfl, a0, a1, b0, b1, h2, hx2⟩
  have hP2 := blk_ext hP1 hx2 (by omega)
  have hQ2 := blk_ext hQ1 hx2 (by omega)
  have hR2 := blk_ext hR1 hx2 (by omega)
  have hz2 := h2.lt
  have hzR2 := blk_lt hR2
  have hB2 := hB1.trans (hx2.below (N := w.heap.size) (by omega) (by omega))
  go_wp2_with fail
  have hA := blk_new w2 (.cells #[.int .i64 a, .int .i64 b] 24)
  have h2d : RdU B 8 (w2.alloc (.cells #[.int .i64 a, .int .i64 b] 24)).drew := h2.alloc _
  have hAd : (w2.alloc (.cells #[.int .i64 a, .int .i64 b] 24)).drew.heap[w2.heap.size]? = some (.cells #[.int .i64 a, .int .i64 b] 24) := hA
  have hPd : (w2.alloc (.cells #[.int .i64 a, .int .i64 b] 24)).drew.heap[w.heap.size]? = _ := blk_old hP2 _
  have hQd : (w2.alloc (.cells #[.int .i64 a, .int .i64 b] 24)).drew.heap[w.heap.size + 1]? = _ := blk_old hQ2 _
  have hRd : (w2.alloc (.cells #[.int .i64 a, .int .i64 b] 24)).drew.heap[w.heap.size + 1 + 1]? = _ := blk_old hR2 _
  have hBd : Below w.heap.size w (w2.alloc (.cells #[.int .i64 a, .int .i64 b] 24)).drew := (hB2.alloc (by have := hB2.size; omega) _).drew
  have hsz : (w2.alloc (.cells #[.int .i64 a, .int .i64 b] 24)).drew.heap.size = w2.heap.size + 1 := by simp
  refine wp_region_held_drew (S := fun w' => w'.heap[w2.heap.size]? = some (.cells #[.int .i64 a, .int .i64 b] 24 (0, 0))) (by kernel_rfl) hA (fun hHeld => ?_)
  refine wpAnyH_take (i := 0) (oi := _) (v := ?_) rfl (by kernel_rfl) (by kernel_rfl) (by kernel_rfl) (fun _ _ _ h => h) (Or.inl ⟨by rfl, ?_⟩) (by assumption) ?_
  (rotate_left); (focus (intro wv hSw; (obtain ⟨_, _, _, _, _⟩ := blk2 hSw); go_simp; (try with_reducible rfl)))
  try simp only [Act.put, List.getElem_toArray, List.getElem_cons_succ, List.getElem_cons_zero, List.setIfInBounds_toArray, List.set_cons_zero, List.set_cons_succ]
  refine wpAnyH_take (i := 1) (oi := _) (v := ?_) rfl (by kernel_rfl) (by kernel_rfl) (by kernel_rfl) (fun _ _ _ h => h) (Or.inl ⟨by rfl, ?_⟩) (by assumption) ?_
  (rotate_left); (focus (intro wv hSw; (obtain ⟨_, _, _, _, _⟩ := blk2 hSw); go_simp; (try with_reducible rfl)))
  try simp only [Act.put, List.getElem_toArray, List.getElem_cons_succ, List.getElem_cons_zero, List.setIfInBounds_toArray, List.set_cons_zero, List.set_cons_succ]
  refine wpAnyH_take (i := 2) (oi := _) (v := ?_) rfl (by kernel_rfl) (by kernel_rfl) (by kernel_rfl) (fun _ _ _ h => h) (Or.inl ⟨by rfl, ?_⟩) (by assumption) ?_
  (rotate_left); (focus (intro wv hSw; (obtain ⟨_, _, _, _, _⟩ := blk2 hSw); go_simp; (try with_reducible rfl)))
  try simp only [Act.put, List.getElem_toArray, List.getElem_cons_succ, List.getElem_cons_zero, List.setIfInBounds_toArray, List.set_cons_zero, List.set_cons_succ]
  refine wpAnyH_take (i := 4) (oi := _) (v := ?_) rfl (by kernel_rfl) (by kernel_rfl) (by kernel_rfl) (fun _ _ _ h => h) (Or.inl ⟨by rfl, ?_⟩) (by assumption) ?_
  (rotate_left); (focus (intro wv hSw; (obtain ⟨_, _, _, _, _⟩ := blk2 hSw); go_simp; (try with_reducible rfl)))
  try simp only [Act.put, List.getElem_toArray, List.getElem_cons_succ, List.getElem_cons_zero, List.setIfInBounds_toArray, List.set_cons_zero, List.set_cons_succ]
  refine wpAnyH_take (i := 5) (oi := _) (v := ?_) rfl (by kernel_rfl) (by kernel_rfl) (by kernel_rfl) (fun _ _ _ h => h) (Or.inl ⟨by rfl, ?_⟩) (by assumption) ?_
  (rotate_left); (focus (intro wv hSw; (obtain ⟨_, _, _, _, _⟩ := blk2 hSw); go_simp; (try with_reducible rfl)))
  try simp only [Act.put, List.getElem_toArray, List.getElem_cons_succ, List.getElem_cons_zero, List.setIfInBounds_toArray, List.set_cons_zero, List.set_cons_succ]
  refine wpAnyH_ready (rs := [3]) (by kernel_rfl) (by simp) ?_
  refine AllReadyH.cons (o := _) rfl (fun K hK => ?_) AllReadyH.nil
  go_simp
  (go_at_call 50; refine (other_any B 8 a b _ h2d (by omega) a0 a1 b0 b1).mono ?_; rintro e w3 ⟨c, d, rfl, c0, c1, d0, d1, h3, hx3⟩)
  have hA3 := blk_ext hAd hx3 (by omega)
  refine hK.out _ _ hA3 (fun hHeld => ?_)
  clear hK K
  try simp only [Act.put, List.getElem_toArray, List.getElem_cons_succ, List.getElem_cons_zero, List.setIfInBounds_toArray, List.set_cons_zero, List.set_cons_succ]
  have hP3 := blk_ext hPd hx3 (by omega)
  have hQ3 := blk_ext hQd hx3 (by omega)
  have hR3 := blk_ext hRd hx3 (by omega)
  refine wpAnyH_ready (rs := [6]) (by kernel_rfl) (by simp) ?_
  refine AllReadyH.cons (o := _) rfl (fun K hK => ?_) AllReadyH.nil
  go_simp
  (go_at_call 50; refine (other_any B 17 a b _ h3 (by omega) a0 a1 b0 b1).mono ?_; rintro e w4 ⟨f, g, rfl, f0, f1, g0, g1, h4, hx4⟩)
  have hA4 := blk_ext hA3 hx4 (by omega)
  refine hK.out _ _ hA4 (fun hHeld => ?_)
  clear hK K
  try simp only [Act.put, List.getElem_toArray, List.getElem_cons_succ, List.getElem_cons_zero, List.setIfInBounds_toArray, List.set_cons_zero, List.set_cons_succ]
  have hP4 := blk_ext hP3 hx4 (by omega)
  have hQ4 := blk_ext hQ3 hx4 (by omega)
  have hR4 := blk_ext hR3 hx4 (by omega)
  have hB4 := hBd.trans ((hx3.trans hx4).below (N := w.heap.size) (by omega) (by omega))
  obtain ⟨s00, s01, s02, s03, s04⟩ := blk2 hP4
  refine wpAnyH_ready (rs := [7]) (by kernel_rfl) (by simp) ?_
  refine AllReadyH.cons (o := _) rfl (fun K hK => ?_) AllReadyH.nil
  go_simp
  have hA5 := blk_store2 (C := w.heap.size) hA4 (by omega) (.int .i64 a) (.int .i64 b)
  refine hK.out _ _ hA5 (fun hHeld => ?_)
  clear hK K
  try simp only [Act.put, List.getElem_toArray, List.getElem_cons_succ, List.getElem_cons_zero, List.setIfInBounds_toArray, List.set_cons_zero, List.set_cons_succ]
  have hP5 := blk2_set (a := .int .i64 a) (b := .int .i64 b) hP4
  have hQ5 := blk_store2 (C := w.heap.size) hQ4 (by omega) (.int .i64 a) (.int .i64 b)
  have hR5 := blk_store2 (C := w.heap.size) hR4 (by omega) (.int .i64 a) (.int .i64 b)
  have hB5 := store2_bel hB4 (C := w.heap.size) (by omega) (.int .i64 a) (.int .i64 b)
  obtain ⟨s10, s11, s12, s13, s14⟩ := blk2 hQ5
  refine wpAnyH_ready (rs := [8]) (by kernel_rfl) (by simp) ?_
  refine AllReadyH.cons (o := _) rfl (fun K hK => ?_) AllReadyH.nil
  go_simp
  have hA6 := blk_store2 (C := w.heap.size + 1) hA5 (by omega) (.int .i64 c) (.int .i64 d)
  refine hK.out _ _ hA6 (fun hHeld => ?_)
  clear hK K
  try simp only [Act.put, List.getElem_toArray, List.getElem_cons_succ, List.getElem_cons_zero, List.setIfInBounds_toArray, List.set_cons_zero, List.set_cons_succ]
  have hP6 := blk_store2 (C := w.heap.size + 1) hP5 (by omega) (.int .i64 c) (.int .i64 d)
  have hQ6 := blk2_set (a := .int .i64 c) (b := .int .i64 d) hQ5
  have hR6 := blk_store2 (C := w.heap.size + 1) hR5 (by omega) (.int .i64 c) (.int .i64 d)
  have hB6 := store2_bel hB5 (C := w.heap.size + 1) (by omega) (.int .i64 c) (.int .i64 d)
  obtain ⟨s20, s21, s22, s23, s24⟩ := blk2 hR6
  refine wpAnyH_ready (rs := [9]) (by kernel_rfl) (by simp) ?_
  refine AllReadyH.cons (o := _) rfl (fun K hK => ?_) AllReadyH.nil
  go_simp
  have hA7 := blk_store2 (C := w.heap.size + 1 + 1) hA6 (by omega) (.int .i64 f) (.int .i64 g)
  refine hK.out _ _ hA7 (fun hHeld => ?_)
  clear hK K
  try simp only [Act.put, List.getElem_toArray, List.getElem_cons_succ, List.getElem_cons_zero, List.setIfInBounds_toArray, List.set_cons_zero, List.set_cons_succ]
  have hP7 := blk_store2 (C := w.heap.size + 1 + 1) hP6 (by omega) (.int .i64 f) (.int .i64 g)
  have hQ7 := blk_store2 (C := w.heap.size + 1 + 1) hQ6 (by omega) (.int .i64 f) (.int .i64 g)
  have hR7 := blk2_set (a := .int .i64 f) (b := .int .i64 g) hR6
  have hB7 := store2_bel hB6 (C := w.heap.size + 1 + 1) (by omega) (.int .i64 f) (.int .i64 g)
  obtain ⟨u0, u1, _, _, _⟩ := blk2 hP7
  obtain ⟨v0, v1, _, _, _⟩ := blk2 hQ7
  obtain ⟨x0, x1, _, _, _⟩ := blk2 hR7
  refine wpAnyH_done (by kernel_rfl) ?_ _
  go_wp2_with fail
  exact bodyPost_ret (v := .tuple #[.agg #[.int .i64 a, .int .i64 b], .agg #[.int .i64 c, .int .i64 d], .agg #[.int .i64 f, .int .i64 g]]) (by simp [results, Try.results24, go_sem, u0, u1, v0, v1, x0, x1, s00, s01, s10, s11, s20, s21]) rfl ⟨_, _, _, _, _, _, rfl, a0, a1, b0, b1, c0, c1, d0, d1, f0, f1, g0, g1, hB7⟩
end Go.Proofs.Ytbegajmdadkknab
