/- What the law of BandStep draws. -/
import Derived.Test.YtpmbjdfecbmgoaaBe
namespace Go.Proofs.Ytpmbjdfecbmgoaa
open Go Go.ChangeShapes Go.WideShapes Go.ChangeAt Go.RowKit
set_option linter.unusedSimpArgs false
set_option linter.unusedVariables false

def DrewStep (w : World) (e : Ending) (w' : World) : Prop := ∃ (s : Bool) (lo hi x : Int), e = .returned (.tuple #[.bool s, .agg #[.int .i64 lo, .int .i64 hi], .int .i64 x]) ∧ (-1 ≤ lo ∧ lo ≤ 60) ∧ (0 ≤ hi ∧ hi ≤ 101) ∧ (-1 ≤ x ∧ x ≤ 101) ∧ Below w.heap.size w w'
set_option maxRecDepth 100000 in
set_option maxHeartbeats 4000000 in
theorem drBandStep_any (a : Option Addr) (len cap : Nat) (w : World) (h : CodeOk w a len cap) : Calls Try.prog 19 #[.slice a len cap] w (DrewStep w) := by
  go_enter Try.func19, Try.ntmps19
  go_wp2_with fail
  refine (open_any _ _ _ _ (code_below h (bel1 w (.cells #[.int .i64 0, .int .i64 0] 24)))).mono ?_; rintro e w1 ⟨B, rfl, hB, h1, hb1⟩
  obtain ⟨hR1, hB1⟩ := ownb hb1
  simp at hB
  go_wp2_with fail
  refine (band_any B 0 9 _ h1 (by omega) (by omega) (by omega)).mono ?_; rintro e w2 ⟨lo, hi, rfl, ⟨lo0, lo1⟩, ⟨hi0, hi1⟩, h2, hx2⟩
  have hR2 := blk_ext hR1 hx2 (by omega)
  have hz2 := hx2.size
  have hbl := h2.lt
  have hX := blk_new w2 (.cells #[.int .i64 lo, .int .i64 hi] 24)
  have hR3 := blk_old hR2 (.cells #[.int .i64 lo, .int .i64 hi] 24)
  have h3 := h2.alloc (.cells #[.int .i64 lo, .int .i64 hi] 24)
  have hE3 := hx2.alloc (.cells #[.int .i64 lo, .int .i64 hi] 24)
  have hRl := blk_lt hR2
  go_wp2_with fail
  refine wp_region_held_drew (S := (fun w' => w'.heap[w2.heap.size]? = some (.cells #[.int .i64 lo, .int .i64 hi] 24))) (by kernel_rfl) hX (fun hHeld => ?_)
  clear hHeld
  have hX0 : (w2.alloc (.cells #[.int .i64 lo, .int .i64 hi] 24)).drew.heap[w2.heap.size]? = some (.cells #[.int .i64 lo, .int .i64 hi] 24) := hX
  have hR0 : (w2.alloc (.cells #[.int .i64 lo, .int .i64 hi] 24)).drew.heap[w.heap.size]? = some (.cells #[.int .i64 0, .int .i64 0] 24) := hR3
  have hd0 : RdU B _ (w2.alloc (.cells #[.int .i64 lo, .int .i64 hi] 24)).drew := h3
  have hE0 : Ext B w1 (w2.alloc (.cells #[.int .i64 lo, .int .i64 hi] 24)).drew := hE3.drewN 1
  refine wpAnyH_take (i := 0) (oi := _) (v := ?_) rfl (by kernel_rfl) (by kernel_rfl) (by kernel_rfl) (fun _ _ _ h => h) (Or.inl ⟨by rfl, ?_⟩) (by assumption) ?_
  (rotate_left); (focus (intro wv qX;  go_simp; (try with_reducible rfl)))
  try simp only [Act.put, List.getElem_toArray, List.getElem_cons_succ, List.getElem_cons_zero, List.setIfInBounds_toArray, List.set_cons_zero, List.set_cons_succ]
  refine wpAnyH_take (i := 4) (oi := _) (v := ?_) rfl (by kernel_rfl) (by kernel_rfl) (by kernel_rfl) (fun _ _ _ h => h) (Or.inl ⟨by rfl, ?_⟩) (by assumption) ?_
  (rotate_left); (focus (intro wv qX;  go_simp; (try with_reducible rfl)))
  try simp only [Act.put, List.getElem_toArray, List.getElem_cons_succ, List.getElem_cons_zero, List.setIfInBounds_toArray, List.set_cons_zero, List.set_cons_succ]
  refine wpAnyH_take (i := 6) (oi := _) (v := ?_) rfl (by kernel_rfl) (by kernel_rfl) (by kernel_rfl) (fun _ _ _ h => h) (Or.inl ⟨by rfl, ?_⟩) (by assumption) ?_
  (rotate_left); (focus (intro wv qX;  go_simp; (try with_reducible rfl)))
  try simp only [Act.put, List.getElem_toArray, List.getElem_cons_succ, List.getElem_cons_zero, List.setIfInBounds_toArray, List.set_cons_zero, List.set_cons_succ]
  refine wpAnyH_take (i := 8) (oi := _) (v := ?_) rfl (by kernel_rfl) (by kernel_rfl) (by kernel_rfl) (fun _ _ _ h => h) (Or.inl ⟨by rfl, ?_⟩) (by assumption) ?_
  (rotate_left); (focus (intro wv qX;  go_simp; (try with_reducible rfl)))
  try simp only [Act.put, List.getElem_toArray, List.getElem_cons_succ, List.getElem_cons_zero, List.setIfInBounds_toArray, List.set_cons_zero, List.set_cons_succ]
  refine wpAnyH_take (i := 10) (oi := _) (v := ?_) rfl (by kernel_rfl) (by kernel_rfl) (by kernel_rfl) (fun _ _ _ h => h) (Or.inl ⟨by rfl, ?_⟩) (by assumption) ?_
  (rotate_left); (focus (intro wv qX;  go_simp; (try with_reducible rfl)))
  try simp only [Act.put, List.getElem_toArray, List.getElem_cons_succ, List.getElem_cons_zero, List.setIfInBounds_toArray, List.set_cons_zero, List.set_cons_succ]
  refine wpAnyH_take (i := 13) (oi := _) (v := ?_) rfl (by kernel_rfl) (by kernel_rfl) (by kernel_rfl) (fun _ _ _ h => h) (Or.inl ⟨by rfl, ?_⟩) (by assumption) ?_
  (rotate_left); (focus (intro wv qX;  go_simp; (try with_reducible rfl)))
  try simp only [Act.put, List.getElem_toArray, List.getElem_cons_succ, List.getElem_cons_zero, List.setIfInBounds_toArray, List.set_cons_zero, List.set_cons_succ]
  refine wpAnyH_take (i := 3) (oi := _) (v := ?_) rfl (by kernel_rfl) (by kernel_rfl) (by kernel_rfl) (fun _ _ _ h => h) (Or.inl ⟨by rfl, ?_⟩) (by assumption) ?_
  (rotate_left); (focus (intro wv qX; obtain ⟨u0, u1, _, _, _⟩ := blk2 qX; go_simp; (try with_reducible rfl)))
  try simp only [Act.put, List.getElem_toArray, List.getElem_cons_succ, List.getElem_cons_zero, List.setIfInBounds_toArray, List.set_cons_zero, List.set_cons_succ]
  refine wpAnyH_take (i := 5) (oi := _) (v := ?_) rfl (by kernel_rfl) (by kernel_rfl) (by kernel_rfl) (fun _ _ _ h => h) (Or.inl ⟨by rfl, ?_⟩) (by assumption) ?_
  (rotate_left); (focus (intro wv qX; obtain ⟨u0, u1, _, _, _⟩ := blk2 qX; go_simp; (try with_reducible rfl)))
  try simp only [Act.put, List.getElem_toArray, List.getElem_cons_succ, List.getElem_cons_zero, List.setIfInBounds_toArray, List.set_cons_zero, List.set_cons_succ]
  refine wpAnyH_take (i := 7) (oi := _) (v := ?_) rfl (by kernel_rfl) (by kernel_rfl) (by kernel_rfl) (fun _ _ _ h => h) (Or.inl ⟨by rfl, ?_⟩) (by assumption) ?_
  (rotate_left); (focus (intro wv qX; obtain ⟨u0, u1, _, _, _⟩ := blk2 qX; go_simp; (try with_reducible rfl)))
  try simp only [Act.put, List.getElem_toArray, List.getElem_cons_succ, List.getElem_cons_zero, List.setIfInBounds_toArray, List.set_cons_zero, List.set_cons_succ]
  refine wpAnyH_ready (rs := [1]) (by kernel_rfl) (by simp) ?_
  refine AllReadyH.cons (o := _) rfl (fun K hK => ?_) (AllReadyH.nil)
  go_simp
  (go_at_call 48; refine (pick_any B _ 2 _ hd0 (by omega) (by omega) (by omega)).mono ?_; rintro e y1 ⟨a, rfl, a0, a1, hy1, hxy1⟩)
  have hXy1 := blk_ext hX0 hxy1 (by omega)
  have hRy1 := blk_ext hR0 hxy1 (by omega)
  have hEy1 := hE0.trans hxy1
  refine hK.out _ _ (hXy1) (fun hHeld => ?_)
  clear hHeld hK K
  try simp only [Act.put, List.getElem_toArray, List.getElem_cons_succ, List.getElem_cons_zero, List.setIfInBounds_toArray, List.set_cons_zero, List.set_cons_succ]
  refine wpAnyH_take (i := 2) (oi := _) (v := ?_) rfl (by kernel_rfl) (by kernel_rfl) (by kernel_rfl) (fun _ _ _ h => h) (Or.inl ⟨by rfl, ?_⟩) (by assumption) ?_
  (rotate_left); (focus (intro wv qX;  go_simp; (try with_reducible rfl)))
  try simp only [Act.put, List.getElem_toArray, List.getElem_cons_succ, List.getElem_cons_zero, List.setIfInBounds_toArray, List.set_cons_zero, List.set_cons_succ]
  refine wpAnyH_ready (rs := [9]) (by kernel_rfl) (by simp) ?_
  refine AllReadyH.cons (o := _) rfl (fun K hK => ?_) (AllReadyH.nil)
  go_simp
  (go_at_call 48; refine (pick_any B _ 101 _ hy1 (by omega) (by omega) (by omega)).mono ?_; rintro e y2 ⟨c, rfl, c0, c1, hy2, hxy2⟩)
  have hXy2 := blk_ext hXy1 hxy2 (by omega)
  have hRy2 := blk_ext hRy1 hxy2 (by omega)
  have hEy2 := hEy1.trans hxy2
  refine hK.out _ _ (hXy2) (fun hHeld => ?_)
  clear hHeld hK K
  try simp only [Act.put, List.getElem_toArray, List.getElem_cons_succ, List.getElem_cons_zero, List.setIfInBounds_toArray, List.set_cons_zero, List.set_cons_succ]
  refine wpAnyH_ready (rs := [11]) (by kernel_rfl) (by simp) ?_
  refine AllReadyH.cons (o := _) rfl (fun K hK => ?_) (AllReadyH.nil)
  go_simp
  (go_at_call 48; refine (pick_any B _ 101 _ hy2 (by omega) (by omega) (by omega)).mono ?_; rintro e y3 ⟨d, rfl, d0, d1, hy3, hxy3⟩)
  have hXy3 := blk_ext hXy2 hxy3 (by omega)
  have hRy3 := blk_ext hRy2 hxy3 (by omega)
  have hEy3 := hEy2.trans hxy3
  refine hK.out _ _ (hXy3) (fun hHeld => ?_)
  clear hHeld hK K
  try simp only [Act.put, List.getElem_toArray, List.getElem_cons_succ, List.getElem_cons_zero, List.setIfInBounds_toArray, List.set_cons_zero, List.set_cons_succ]
  have hz3 := hEy3.size
  have hb3 := hy3.lt
  have hXl := blk_lt hXy3
  have hRy := blk_lt hRy3
  refine wpAnyH_ready (rs := [12, 14]) (by kernel_rfl) (by simp) ?_
  refine AllReadyH.cons (o := _) rfl (fun K hK => ?_) (AllReadyH.cons (o := _) rfl (fun K hK => ?_) (AllReadyH.nil))
  · go_simp
    have hXa := blk_old hXy3 (.cells #[.int .i64 lo, .int .i64 hi, .int .i64 c, .int .i64 d] 3)
    have hRa := blk_old hRy3 (.cells #[.int .i64 lo, .int .i64 hi, .int .i64 c, .int .i64 d] 3)
    have hEa := hEy3.alloc (.cells #[.int .i64 lo, .int .i64 hi, .int .i64 c, .int .i64 d] 3)
    have hLa := blk_new y3 (.cells #[.int .i64 lo, .int .i64 hi, .int .i64 c, .int .i64 d] 3)
    refine hK.out _ _ (hXa) (fun hHeld => ?_)
    clear hHeld hK K
    try simp only [Act.put, List.getElem_toArray, List.getElem_cons_succ, List.getElem_cons_zero, List.setIfInBounds_toArray, List.set_cons_zero, List.set_cons_succ]
    refine wpAnyH_ready (rs := [14]) (by kernel_rfl) (by simp) ?_
    refine AllReadyH.cons (o := _) rfl (fun K hK => ?_) (AllReadyH.nil)
    go_simp
    (go_at_call 48; refine (pick_any B _ 4 _ (hy3.alloc (.cells #[.int .i64 lo, .int .i64 hi, .int .i64 c, .int .i64 d] 3)) (by omega) (by omega) (by omega)).mono ?_; rintro e y4 ⟨j, rfl, j0, j1, hy4, hxy4⟩)
    have hX4 := blk_ext hXa hxy4 (by omega)
    have hR4 := blk_ext hRa hxy4 (by omega)
    have hE4 := hEa.trans hxy4
    have hL4 := blk_ext hLa hxy4 (by omega)
    refine hK.out _ _ (hX4) (fun hHeld => ?_)
    clear hHeld hK K
    try simp only [Act.put, List.getElem_toArray, List.getElem_cons_succ, List.getElem_cons_zero, List.setIfInBounds_toArray, List.set_cons_zero, List.set_cons_succ]
    have hBf := hB1.trans (hE4.below (N := w.heap.size) (by omega) hB1.size)
    refine wpAnyH_take (i := 17) (oi := _) (v := ?_) rfl (by kernel_rfl) (by kernel_rfl) (by kernel_rfl) (fun _ _ _ h => h) (Or.inl ⟨by rfl, ?_⟩) (by assumption) ?_
    (rotate_left); (focus (intro wv qX;  go_simp; (try with_reducible rfl)))
    try simp only [Act.put, List.getElem_toArray, List.getElem_cons_succ, List.getElem_cons_zero, List.setIfInBounds_toArray, List.set_cons_zero, List.set_cons_succ]
    by_cases k0 : j = 0
    · subst k0
      refine wpAnyH_take (i := 15) (oi := _) (v := ?_) rfl (by kernel_rfl) (by kernel_rfl) (by kernel_rfl) (fun _ _ _ h => h) (Or.inl ⟨by rfl, ?_⟩) (by assumption) ?_
      (rotate_left); (focus (intro wv qX;  go_simp; (try with_reducible rfl)))
      try simp only [Act.put, List.getElem_toArray, List.getElem_cons_succ, List.getElem_cons_zero, List.setIfInBounds_toArray, List.set_cons_zero, List.set_cons_succ]
      refine wpAnyH_ready (rs := [16, 18]) (by kernel_rfl) (by simp) ?_
      refine AllReadyH.cons (o := _) rfl (fun K hK => ?_) (AllReadyH.cons (o := _) rfl (fun K hK => ?_) (AllReadyH.nil))
      · have lA16 : y4.cell? ⟨y3.heap.size, 0, none⟩ = some (.int .i64 lo) := by simp [World.cell?, hL4]
        go_simp
        refine hK.out _ _ (hX4) (fun hHeld => ?_)
        clear hHeld hK K
        try simp only [Act.put, List.getElem_toArray, List.getElem_cons_succ, List.getElem_cons_zero, List.setIfInBounds_toArray, List.set_cons_zero, List.set_cons_succ]
        refine wpAnyH_ready (rs := [18]) (by kernel_rfl) (by simp) ?_
        refine AllReadyH.cons (o := _) rfl (fun K hK => ?_) (AllReadyH.nil)
        obtain ⟨r0, r1, fr0, fr1, zr⟩ := blk2 hR4
        go_simp
        have hXA1618 := blk_store2 (C := w.heap.size) hX4 (by omega) (.int .i64 lo) (.int .i64 hi)
        have hRA1618 := blk2_set (a := .int .i64 lo) (b := .int .i64 hi) hR4
        have hFA1618 := store2_bel (C := w.heap.size) hBf (Nat.le_refl _) (.int .i64 lo) (.int .i64 hi)
        have hLA1618 := blk_store2 (C := w.heap.size) hL4 (by omega) (.int .i64 lo) (.int .i64 hi)
        refine hK.out _ _ (hXA1618) (fun hHeld => ?_)
        clear hHeld hK K
        try simp only [Act.put, List.getElem_toArray, List.getElem_cons_succ, List.getElem_cons_zero, List.setIfInBounds_toArray, List.set_cons_zero, List.set_cons_succ]
        generalize hyA1618 : ((y4.setCell ⟨w.heap.size, 0, none⟩ (.int .i64 lo)).setCell ⟨w.heap.size, 1, none⟩ (.int .i64 hi)) = vA1618 at hXA1618 hRA1618 hFA1618 hLA1618 ⊢
        clear hyA1618
        refine wpAnyH_take (i := 19) (oi := _) (v := ?_) rfl (by kernel_rfl) (by kernel_rfl) (by kernel_rfl) (fun _ _ _ h => h) (Or.inl ⟨by rfl, ?_⟩) (by assumption) ?_
        (rotate_left); (focus (intro wv qX;  go_simp; (try with_reducible rfl)))
        try simp only [Act.put, List.getElem_toArray, List.getElem_cons_succ, List.getElem_cons_zero, List.setIfInBounds_toArray, List.set_cons_zero, List.set_cons_succ]
        refine wpAnyH_done (by kernel_rfl) ?_ _
        obtain ⟨z0, z1_, _⟩ := blk2 hRA1618
        generalize (a == 0) = s
        go_wp2_with fail
        exact bodyPost_ret (v := .tuple #[.bool s, .agg #[.int .i64 lo, .int .i64 hi], .int .i64 lo]) (by simp [results, Try.results19, go_sem, z0, z1_]) rfl ⟨s, lo, hi, lo, rfl, ⟨lo0, lo1⟩, ⟨hi0, hi1⟩, ⟨by omega, by omega⟩, hFA1618⟩
      · obtain ⟨r0, r1, fr0, fr1, zr⟩ := blk2 hR4
        go_simp
        have hXA18 := blk_store2 (C := w.heap.size) hX4 (by omega) (.int .i64 lo) (.int .i64 hi)
        have hRA18 := blk2_set (a := .int .i64 lo) (b := .int .i64 hi) hR4
        have hFA18 := store2_bel (C := w.heap.size) hBf (Nat.le_refl _) (.int .i64 lo) (.int .i64 hi)
        have hLA18 := blk_store2 (C := w.heap.size) hL4 (by omega) (.int .i64 lo) (.int .i64 hi)
        refine hK.out _ _ (hXA18) (fun hHeld => ?_)
        clear hHeld hK K
        try simp only [Act.put, List.getElem_toArray, List.getElem_cons_succ, List.getElem_cons_zero, List.setIfInBounds_toArray, List.set_cons_zero, List.set_cons_succ]
        generalize hyA18 : ((y4.setCell ⟨w.heap.size, 0, none⟩ (.int .i64 lo)).setCell ⟨w.heap.size, 1, none⟩ (.int .i64 hi)) = vA18 at hXA18 hRA18 hFA18 hLA18 ⊢
        clear hyA18
        refine wpAnyH_ready (rs := [16]) (by kernel_rfl) (by simp) ?_
        refine AllReadyH.cons (o := _) rfl (fun K hK => ?_) (AllReadyH.nil)
        have lA1816 : vA18.cell? ⟨y3.heap.size, 0, none⟩ = some (.int .i64 lo) := by simp [World.cell?, hLA18]
        go_simp
        refine hK.out _ _ (hXA18) (fun hHeld => ?_)
        clear hHeld hK K
        try simp only [Act.put, List.getElem_toArray, List.getElem_cons_succ, List.getElem_cons_zero, List.setIfInBounds_toArray, List.set_cons_zero, List.set_cons_succ]
        refine wpAnyH_take (i := 19) (oi := _) (v := ?_) rfl (by kernel_rfl) (by kernel_rfl) (by kernel_rfl) (fun _ _ _ h => h) (Or.inl ⟨by rfl, ?_⟩) (by assumption) ?_
        (rotate_left); (focus (intro wv qX;  go_simp; (try with_reducible rfl)))
        try simp only [Act.put, List.getElem_toArray, List.getElem_cons_succ, List.getElem_cons_zero, List.setIfInBounds_toArray, List.set_cons_zero, List.set_cons_succ]
        refine wpAnyH_done (by kernel_rfl) ?_ _
        obtain ⟨z0, z1_, _⟩ := blk2 hRA18
        generalize (a == 0) = s
        go_wp2_with fail
        exact bodyPost_ret (v := .tuple #[.bool s, .agg #[.int .i64 lo, .int .i64 hi], .int .i64 lo]) (by simp [results, Try.results19, go_sem, z0, z1_]) rfl ⟨s, lo, hi, lo, rfl, ⟨lo0, lo1⟩, ⟨hi0, hi1⟩, ⟨by omega, by omega⟩, hFA18⟩
    · by_cases k1 : j = 1
      · subst k1
        refine wpAnyH_take (i := 15) (oi := _) (v := ?_) rfl (by kernel_rfl) (by kernel_rfl) (by kernel_rfl) (fun _ _ _ h => h) (Or.inl ⟨by rfl, ?_⟩) (by assumption) ?_
        (rotate_left); (focus (intro wv qX;  go_simp; (try with_reducible rfl)))
        try simp only [Act.put, List.getElem_toArray, List.getElem_cons_succ, List.getElem_cons_zero, List.setIfInBounds_toArray, List.set_cons_zero, List.set_cons_succ]
        refine wpAnyH_ready (rs := [16, 18]) (by kernel_rfl) (by simp) ?_
        refine AllReadyH.cons (o := _) rfl (fun K hK => ?_) (AllReadyH.cons (o := _) rfl (fun K hK => ?_) (AllReadyH.nil))
        · have lA16 : y4.cell? ⟨y3.heap.size, 1, none⟩ = some (.int .i64 hi) := by simp [World.cell?, hL4]
          go_simp
          refine hK.out _ _ (hX4) (fun hHeld => ?_)
          clear hHeld hK K
          try simp only [Act.put, List.getElem_toArray, List.getElem_cons_succ, List.getElem_cons_zero, List.setIfInBounds_toArray, List.set_cons_zero, List.set_cons_succ]
          refine wpAnyH_ready (rs := [18]) (by kernel_rfl) (by simp) ?_
          refine AllReadyH.cons (o := _) rfl (fun K hK => ?_) (AllReadyH.nil)
          obtain ⟨r0, r1, fr0, fr1, zr⟩ := blk2 hR4
          go_simp
          have hXA1618 := blk_store2 (C := w.heap.size) hX4 (by omega) (.int .i64 lo) (.int .i64 hi)
          have hRA1618 := blk2_set (a := .int .i64 lo) (b := .int .i64 hi) hR4
          have hFA1618 := store2_bel (C := w.heap.size) hBf (Nat.le_refl _) (.int .i64 lo) (.int .i64 hi)
          have hLA1618 := blk_store2 (C := w.heap.size) hL4 (by omega) (.int .i64 lo) (.int .i64 hi)
          refine hK.out _ _ (hXA1618) (fun hHeld => ?_)
          clear hHeld hK K
          try simp only [Act.put, List.getElem_toArray, List.getElem_cons_succ, List.getElem_cons_zero, List.setIfInBounds_toArray, List.set_cons_zero, List.set_cons_succ]
          generalize hyA1618 : ((y4.setCell ⟨w.heap.size, 0, none⟩ (.int .i64 lo)).setCell ⟨w.heap.size, 1, none⟩ (.int .i64 hi)) = vA1618 at hXA1618 hRA1618 hFA1618 hLA1618 ⊢
          clear hyA1618
          refine wpAnyH_take (i := 19) (oi := _) (v := ?_) rfl (by kernel_rfl) (by kernel_rfl) (by kernel_rfl) (fun _ _ _ h => h) (Or.inl ⟨by rfl, ?_⟩) (by assumption) ?_
          (rotate_left); (focus (intro wv qX;  go_simp; (try with_reducible rfl)))
          try simp only [Act.put, List.getElem_toArray, List.getElem_cons_succ, List.getElem_cons_zero, List.setIfInBounds_toArray, List.set_cons_zero, List.set_cons_succ]
          refine wpAnyH_done (by kernel_rfl) ?_ _
          obtain ⟨z0, z1_, _⟩ := blk2 hRA1618
          generalize (a == 0) = s
          go_wp2_with fail
          exact bodyPost_ret (v := .tuple #[.bool s, .agg #[.int .i64 lo, .int .i64 hi], .int .i64 hi]) (by simp [results, Try.results19, go_sem, z0, z1_]) rfl ⟨s, lo, hi, hi, rfl, ⟨lo0, lo1⟩, ⟨hi0, hi1⟩, ⟨by omega, by omega⟩, hFA1618⟩
        · obtain ⟨r0, r1, fr0, fr1, zr⟩ := blk2 hR4
          go_simp
          have hXA18 := blk_store2 (C := w.heap.size) hX4 (by omega) (.int .i64 lo) (.int .i64 hi)
          have hRA18 := blk2_set (a := .int .i64 lo) (b := .int .i64 hi) hR4
          have hFA18 := store2_bel (C := w.heap.size) hBf (Nat.le_refl _) (.int .i64 lo) (.int .i64 hi)
          have hLA18 := blk_store2 (C := w.heap.size) hL4 (by omega) (.int .i64 lo) (.int .i64 hi)
          refine hK.out _ _ (hXA18) (fun hHeld => ?_)
          clear hHeld hK K
          try simp only [Act.put, List.getElem_toArray, List.getElem_cons_succ, List.getElem_cons_zero, List.setIfInBounds_toArray, List.set_cons_zero, List.set_cons_succ]
          generalize hyA18 : ((y4.setCell ⟨w.heap.size, 0, none⟩ (.int .i64 lo)).setCell ⟨w.heap.size, 1, none⟩ (.int .i64 hi)) = vA18 at hXA18 hRA18 hFA18 hLA18 ⊢
          clear hyA18
          refine wpAnyH_ready (rs := [16]) (by kernel_rfl) (by simp) ?_
          refine AllReadyH.cons (o := _) rfl (fun K hK => ?_) (AllReadyH.nil)
          have lA1816 : vA18.cell? ⟨y3.heap.size, 1, none⟩ = some (.int .i64 hi) := by simp [World.cell?, hLA18]
          go_simp
          refine hK.out _ _ (hXA18) (fun hHeld => ?_)
          clear hHeld hK K
          try simp only [Act.put, List.getElem_toArray, List.getElem_cons_succ, List.getElem_cons_zero, List.setIfInBounds_toArray, List.set_cons_zero, List.set_cons_succ]
          refine wpAnyH_take (i := 19) (oi := _) (v := ?_) rfl (by kernel_rfl) (by kernel_rfl) (by kernel_rfl) (fun _ _ _ h => h) (Or.inl ⟨by rfl, ?_⟩) (by assumption) ?_
          (rotate_left); (focus (intro wv qX;  go_simp; (try with_reducible rfl)))
          try simp only [Act.put, List.getElem_toArray, List.getElem_cons_succ, List.getElem_cons_zero, List.setIfInBounds_toArray, List.set_cons_zero, List.set_cons_succ]
          refine wpAnyH_done (by kernel_rfl) ?_ _
          obtain ⟨z0, z1_, _⟩ := blk2 hRA18
          generalize (a == 0) = s
          go_wp2_with fail
          exact bodyPost_ret (v := .tuple #[.bool s, .agg #[.int .i64 lo, .int .i64 hi], .int .i64 hi]) (by simp [results, Try.results19, go_sem, z0, z1_]) rfl ⟨s, lo, hi, hi, rfl, ⟨lo0, lo1⟩, ⟨hi0, hi1⟩, ⟨by omega, by omega⟩, hFA18⟩
      · by_cases k2 : j = 2
        · subst k2
          refine wpAnyH_take (i := 15) (oi := _) (v := ?_) rfl (by kernel_rfl) (by kernel_rfl) (by kernel_rfl) (fun _ _ _ h => h) (Or.inl ⟨by rfl, ?_⟩) (by assumption) ?_
          (rotate_left); (focus (intro wv qX;  go_simp; (try with_reducible rfl)))
          try simp only [Act.put, List.getElem_toArray, List.getElem_cons_succ, List.getElem_cons_zero, List.setIfInBounds_toArray, List.set_cons_zero, List.set_cons_succ]
          refine wpAnyH_ready (rs := [16, 18]) (by kernel_rfl) (by simp) ?_
          refine AllReadyH.cons (o := _) rfl (fun K hK => ?_) (AllReadyH.cons (o := _) rfl (fun K hK => ?_) (AllReadyH.nil))
          · have lA16 : y4.cell? ⟨y3.heap.size, 2, none⟩ = some (.int .i64 c) := by simp [World.cell?, hL4]
            go_simp
            refine hK.out _ _ (hX4) (fun hHeld => ?_)
            clear hHeld hK K
            try simp only [Act.put, List.getElem_toArray, List.getElem_cons_succ, List.getElem_cons_zero, List.setIfInBounds_toArray, List.set_cons_zero, List.set_cons_succ]
            refine wpAnyH_ready (rs := [18]) (by kernel_rfl) (by simp) ?_
            refine AllReadyH.cons (o := _) rfl (fun K hK => ?_) (AllReadyH.nil)
            obtain ⟨r0, r1, fr0, fr1, zr⟩ := blk2 hR4
            go_simp
            have hXA1618 := blk_store2 (C := w.heap.size) hX4 (by omega) (.int .i64 lo) (.int .i64 hi)
            have hRA1618 := blk2_set (a := .int .i64 lo) (b := .int .i64 hi) hR4
            have hFA1618 := store2_bel (C := w.heap.size) hBf (Nat.le_refl _) (.int .i64 lo) (.int .i64 hi)
            have hLA1618 := blk_store2 (C := w.heap.size) hL4 (by omega) (.int .i64 lo) (.int .i64 hi)
            refine hK.out _ _ (hXA1618) (fun hHeld => ?_)
            clear hHeld hK K
            try simp only [Act.put, List.getElem_toArray, List.getElem_cons_succ, List.getElem_cons_zero, List.setIfInBounds_toArray, List.set_cons_zero, List.set_cons_succ]
            generalize hyA1618 : ((y4.setCell ⟨w.heap.size, 0, none⟩ (.int .i64 lo)).setCell ⟨w.heap.size, 1, none⟩ (.int .i64 hi)) = vA1618 at hXA1618 hRA1618 hFA1618 hLA1618 ⊢
            clear hyA1618
            refine wpAnyH_take (i := 19) (oi := _) (v := ?_) rfl (by kernel_rfl) (by kernel_rfl) (by kernel_rfl) (fun _ _ _ h => h) (Or.inl ⟨by rfl, ?_⟩) (by assumption) ?_
            (rotate_left); (focus (intro wv qX;  go_simp; (try with_reducible rfl)))
            try simp only [Act.put, List.getElem_toArray, List.getElem_cons_succ, List.getElem_cons_zero, List.setIfInBounds_toArray, List.set_cons_zero, List.set_cons_succ]
            refine wpAnyH_done (by kernel_rfl) ?_ _
            obtain ⟨z0, z1_, _⟩ := blk2 hRA1618
            generalize (a == 0) = s
            go_wp2_with fail
            exact bodyPost_ret (v := .tuple #[.bool s, .agg #[.int .i64 lo, .int .i64 hi], .int .i64 c]) (by simp [results, Try.results19, go_sem, z0, z1_]) rfl ⟨s, lo, hi, c, rfl, ⟨lo0, lo1⟩, ⟨hi0, hi1⟩, ⟨by omega, by omega⟩, hFA1618⟩
          · obtain ⟨r0, r1, fr0, fr1, zr⟩ := blk2 hR4
            go_simp
            have hXA18 := blk_store2 (C := w.heap.size) hX4 (by omega) (.int .i64 lo) (.int .i64 hi)
            have hRA18 := blk2_set (a := .int .i64 lo) (b := .int .i64 hi) hR4
            have hFA18 := store2_bel (C := w.heap.size) hBf (Nat.le_refl _) (.int .i64 lo) (.int .i64 hi)
            have hLA18 := blk_store2 (C := w.heap.size) hL4 (by omega) (.int .i64 lo) (.int .i64 hi)
            refine hK.out _ _ (hXA18) (fun hHeld => ?_)
            clear hHeld hK K
            try simp only [Act.put, List.getElem_toArray, List.getElem_cons_succ, List.getElem_cons_zero, List.setIfInBounds_toArray, List.set_cons_zero, List.set_cons_succ]
            generalize hyA18 : ((y4.setCell ⟨w.heap.size, 0, none⟩ (.int .i64 lo)).setCell ⟨w.heap.size, 1, none⟩ (.int .i64 hi)) = vA18 at hXA18 hRA18 hFA18 hLA18 ⊢
            clear hyA18
            refine wpAnyH_ready (rs := [16]) (by kernel_rfl) (by simp) ?_
            refine AllReadyH.cons (o := _) rfl (fun K hK => ?_) (AllReadyH.nil)
            have lA1816 : vA18.cell? ⟨y3.heap.size, 2, none⟩ = some (.int .i64 c) := by simp [World.cell?, hLA18]
            go_simp
            refine hK.out _ _ (hXA18) (fun hHeld => ?_)
            clear hHeld hK K
            try simp only [Act.put, List.getElem_toArray, List.getElem_cons_succ, List.getElem_cons_zero, List.setIfInBounds_toArray, List.set_cons_zero, List.set_cons_succ]
            refine wpAnyH_take (i := 19) (oi := _) (v := ?_) rfl (by kernel_rfl) (by kernel_rfl) (by kernel_rfl) (fun _ _ _ h => h) (Or.inl ⟨by rfl, ?_⟩) (by assumption) ?_
            (rotate_left); (focus (intro wv qX;  go_simp; (try with_reducible rfl)))
            try simp only [Act.put, List.getElem_toArray, List.getElem_cons_succ, List.getElem_cons_zero, List.setIfInBounds_toArray, List.set_cons_zero, List.set_cons_succ]
            refine wpAnyH_done (by kernel_rfl) ?_ _
            obtain ⟨z0, z1_, _⟩ := blk2 hRA18
            generalize (a == 0) = s
            go_wp2_with fail
            exact bodyPost_ret (v := .tuple #[.bool s, .agg #[.int .i64 lo, .int .i64 hi], .int .i64 c]) (by simp [results, Try.results19, go_sem, z0, z1_]) rfl ⟨s, lo, hi, c, rfl, ⟨lo0, lo1⟩, ⟨hi0, hi1⟩, ⟨by omega, by omega⟩, hFA18⟩
        · obtain rfl : j = 3 := by omega
          refine wpAnyH_take (i := 15) (oi := _) (v := ?_) rfl (by kernel_rfl) (by kernel_rfl) (by kernel_rfl) (fun _ _ _ h => h) (Or.inl ⟨by rfl, ?_⟩) (by assumption) ?_
          (rotate_left); (focus (intro wv qX;  go_simp; (try with_reducible rfl)))
          try simp only [Act.put, List.getElem_toArray, List.getElem_cons_succ, List.getElem_cons_zero, List.setIfInBounds_toArray, List.set_cons_zero, List.set_cons_succ]
          refine wpAnyH_ready (rs := [16, 18]) (by kernel_rfl) (by simp) ?_
          refine AllReadyH.cons (o := _) rfl (fun K hK => ?_) (AllReadyH.cons (o := _) rfl (fun K hK => ?_) (AllReadyH.nil))
          · have lA16 : y4.cell? ⟨y3.heap.size, 3, none⟩ = some (.int .i64 d) := by simp [World.cell?, hL4]
            go_simp
            refine hK.out _ _ (hX4) (fun hHeld => ?_)
            clear hHeld hK K
            try simp only [Act.put, List.getElem_toArray, List.getElem_cons_succ, List.getElem_cons_zero, List.setIfInBounds_toArray, List.set_cons_zero, List.set_cons_succ]
            refine wpAnyH_ready (rs := [18]) (by kernel_rfl) (by simp) ?_
            refine AllReadyH.cons (o := _) rfl (fun K hK => ?_) (AllReadyH.nil)
            obtain ⟨r0, r1, fr0, fr1, zr⟩ := blk2 hR4
            go_simp
            have hXA1618 := blk_store2 (C := w.heap.size) hX4 (by omega) (.int .i64 lo) (.int .i64 hi)
            have hRA1618 := blk2_set (a := .int .i64 lo) (b := .int .i64 hi) hR4
            have hFA1618 := store2_bel (C := w.heap.size) hBf (Nat.le_refl _) (.int .i64 lo) (.int .i64 hi)
            have hLA1618 := blk_store2 (C := w.heap.size) hL4 (by omega) (.int .i64 lo) (.int .i64 hi)
            refine hK.out _ _ (hXA1618) (fun hHeld => ?_)
            clear hHeld hK K
            try simp only [Act.put, List.getElem_toArray, List.getElem_cons_succ, List.getElem_cons_zero, List.setIfInBounds_toArray, List.set_cons_zero, List.set_cons_succ]
            generalize hyA1618 : ((y4.setCell ⟨w.heap.size, 0, none⟩ (.int .i64 lo)).setCell ⟨w.heap.size, 1, none⟩ (.int .i64 hi)) = vA1618 at hXA1618 hRA1618 hFA1618 hLA1618 ⊢
            clear hyA1618
            refine wpAnyH_take (i := 19) (oi := _) (v := ?_) rfl (by kernel_rfl) (by kernel_rfl) (by kernel_rfl) (fun _ _ _ h => h) (Or.inl ⟨by rfl, ?_⟩) (by assumption) ?_
            (rotate_left); (focus (intro wv qX;  go_simp; (try with_reducible rfl)))
            try simp only [Act.put, List.getElem_toArray, List.getElem_cons_succ, List.getElem_cons_zero, List.setIfInBounds_toArray, List.set_cons_zero, List.set_cons_succ]
            refine wpAnyH_done (by kernel_rfl) ?_ _
            obtain ⟨z0, z1_, _⟩ := blk2 hRA1618
            generalize (a == 0) = s
            go_wp2_with fail
            exact bodyPost_ret (v := .tuple #[.bool s, .agg #[.int .i64 lo, .int .i64 hi], .int .i64 d]) (by simp [results, Try.results19, go_sem, z0, z1_]) rfl ⟨s, lo, hi, d, rfl, ⟨lo0, lo1⟩, ⟨hi0, hi1⟩, ⟨by omega, by omega⟩, hFA1618⟩
          · obtain ⟨r0, r1, fr0, fr1, zr⟩ := blk2 hR4
            go_simp
            have hXA18 := blk_store2 (C := w.heap.size) hX4 (by omega) (.int .i64 lo) (.int .i64 hi)
            have hRA18 := blk2_set (a := .int .i64 lo) (b := .int .i64 hi) hR4
            have hFA18 := store2_bel (C := w.heap.size) hBf (Nat.le_refl _) (.int .i64 lo) (.int .i64 hi)
            have hLA18 := blk_store2 (C := w.heap.size) hL4 (by omega) (.int .i64 lo) (.int .i64 hi)
            refine hK.out _ _ (hXA18) (fun hHeld => ?_)
            clear hHeld hK K
            try simp only [Act.put, List.getElem_toArray, List.getElem_cons_succ, List.getElem_cons_zero, List.setIfInBounds_toArray, List.set_cons_zero, List.set_cons_succ]
            generalize hyA18 : ((y4.setCell ⟨w.heap.size, 0, none⟩ (.int .i64 lo)).setCell ⟨w.heap.size, 1, none⟩ (.int .i64 hi)) = vA18 at hXA18 hRA18 hFA18 hLA18 ⊢
            clear hyA18
            refine wpAnyH_ready (rs := [16]) (by kernel_rfl) (by simp) ?_
            refine AllReadyH.cons (o := _) rfl (fun K hK => ?_) (AllReadyH.nil)
            have lA1816 : vA18.cell? ⟨y3.heap.size, 3, none⟩ = some (.int .i64 d) := by simp [World.cell?, hLA18]
            go_simp
            refine hK.out _ _ (hXA18) (fun hHeld => ?_)
            clear hHeld hK K
            try simp only [Act.put, List.getElem_toArray, List.getElem_cons_succ, List.getElem_cons_zero, List.setIfInBounds_toArray, List.set_cons_zero, List.set_cons_succ]
            refine wpAnyH_take (i := 19) (oi := _) (v := ?_) rfl (by kernel_rfl) (by kernel_rfl) (by kernel_rfl) (fun _ _ _ h => h) (Or.inl ⟨by rfl, ?_⟩) (by assumption) ?_
            (rotate_left); (focus (intro wv qX;  go_simp; (try with_reducible rfl)))
            try simp only [Act.put, List.getElem_toArray, List.getElem_cons_succ, List.getElem_cons_zero, List.setIfInBounds_toArray, List.set_cons_zero, List.set_cons_succ]
            refine wpAnyH_done (by kernel_rfl) ?_ _
            obtain ⟨z0, z1_, _⟩ := blk2 hRA18
            generalize (a == 0) = s
            go_wp2_with fail
            exact bodyPost_ret (v := .tuple #[.bool s, .agg #[.int .i64 lo, .int .i64 hi], .int .i64 d]) (by simp [results, Try.results19, go_sem, z0, z1_]) rfl ⟨s, lo, hi, d, rfl, ⟨lo0, lo1⟩, ⟨hi0, hi1⟩, ⟨by omega, by omega⟩, hFA18⟩
  · go_simp
    (go_at_call 48; refine (pick_any B _ 4 _ hy3 (by omega) (by omega) (by omega)).mono ?_; rintro e y4 ⟨j, rfl, j0, j1, hy4, hxy4⟩)
    have hX4 := blk_ext hXy3 hxy4 (by omega)
    have hR4 := blk_ext hRy3 hxy4 (by omega)
    have hE4 := hEy3.trans hxy4
    refine hK.out _ _ (hX4) (fun hHeld => ?_)
    clear hHeld hK K
    try simp only [Act.put, List.getElem_toArray, List.getElem_cons_succ, List.getElem_cons_zero, List.setIfInBounds_toArray, List.set_cons_zero, List.set_cons_succ]
    have hBf := hB1.trans (hE4.below (N := w.heap.size) (by omega) hB1.size)
    refine wpAnyH_take (i := 17) (oi := _) (v := ?_) rfl (by kernel_rfl) (by kernel_rfl) (by kernel_rfl) (fun _ _ _ h => h) (Or.inl ⟨by rfl, ?_⟩) (by assumption) ?_
    (rotate_left); (focus (intro wv qX;  go_simp; (try with_reducible rfl)))
    try simp only [Act.put, List.getElem_toArray, List.getElem_cons_succ, List.getElem_cons_zero, List.setIfInBounds_toArray, List.set_cons_zero, List.set_cons_succ]
    by_cases k0 : j = 0
    · subst k0
      refine wpAnyH_ready (rs := [12, 18]) (by kernel_rfl) (by simp) ?_
      refine AllReadyH.cons (o := _) rfl (fun K hK => ?_) (AllReadyH.cons (o := _) rfl (fun K hK => ?_) (AllReadyH.nil))
      · go_simp
        have hXB12 := blk_old hX4 (.cells #[.int .i64 lo, .int .i64 hi, .int .i64 c, .int .i64 d] 3)
        have hRB12 := blk_old hR4 (.cells #[.int .i64 lo, .int .i64 hi, .int .i64 c, .int .i64 d] 3)
        have hLB12 := blk_new y4 (.cells #[.int .i64 lo, .int .i64 hi, .int .i64 c, .int .i64 d] 3)
        have hFB12 := hBf.alloc hBf.size (.cells #[.int .i64 lo, .int .i64 hi, .int .i64 c, .int .i64 d] 3)
        have hNB12 := blk_lt hR4
        refine hK.out _ _ (hXB12) (fun hHeld => ?_)
        clear hHeld hK K
        try simp only [Act.put, List.getElem_toArray, List.getElem_cons_succ, List.getElem_cons_zero, List.setIfInBounds_toArray, List.set_cons_zero, List.set_cons_succ]
        generalize hyB12 : y4.alloc (.cells #[.int .i64 lo, .int .i64 hi, .int .i64 c, .int .i64 d] 3) = vB12 at hXB12 hRB12 hLB12 hFB12 ⊢
        clear hyB12
        refine wpAnyH_take (i := 15) (oi := _) (v := ?_) rfl (by kernel_rfl) (by kernel_rfl) (by kernel_rfl) (fun _ _ _ h => h) (Or.inl ⟨by rfl, ?_⟩) (by assumption) ?_
        (rotate_left); (focus (intro wv qX;  go_simp; (try with_reducible rfl)))
        try simp only [Act.put, List.getElem_toArray, List.getElem_cons_succ, List.getElem_cons_zero, List.setIfInBounds_toArray, List.set_cons_zero, List.set_cons_succ]
        refine wpAnyH_ready (rs := [16, 18]) (by kernel_rfl) (by simp) ?_
        refine AllReadyH.cons (o := _) rfl (fun K hK => ?_) (AllReadyH.cons (o := _) rfl (fun K hK => ?_) (AllReadyH.nil))
        · have lB1216 : vB12.cell? ⟨y4.heap.size, 0, none⟩ = some (.int .i64 lo) := by simp [World.cell?, hLB12]
          go_simp
          refine hK.out _ _ (hXB12) (fun hHeld => ?_)
          clear hHeld hK K
          try simp only [Act.put, List.getElem_toArray, List.getElem_cons_succ, List.getElem_cons_zero, List.setIfInBounds_toArray, List.set_cons_zero, List.set_cons_succ]
          refine wpAnyH_ready (rs := [18]) (by kernel_rfl) (by simp) ?_
          refine AllReadyH.cons (o := _) rfl (fun K hK => ?_) (AllReadyH.nil)
          obtain ⟨r0, r1, fr0, fr1, zr⟩ := blk2 hRB12
          go_simp
          have hXB121618 := blk_store2 (C := w.heap.size) hXB12 (by omega) (.int .i64 lo) (.int .i64 hi)
          have hRB121618 := blk2_set (a := .int .i64 lo) (b := .int .i64 hi) hRB12
          have hFB121618 := store2_bel (C := w.heap.size) hFB12 (Nat.le_refl _) (.int .i64 lo) (.int .i64 hi)
          have hLB121618 := blk_store2 (C := w.heap.size) hLB12 (by omega) (.int .i64 lo) (.int .i64 hi)
          refine hK.out _ _ (hXB121618) (fun hHeld => ?_)
          clear hHeld hK K
          try simp only [Act.put, List.getElem_toArray, List.getElem_cons_succ, List.getElem_cons_zero, List.setIfInBounds_toArray, List.set_cons_zero, List.set_cons_succ]
          generalize hyB121618 : ((vB12.setCell ⟨w.heap.size, 0, none⟩ (.int .i64 lo)).setCell ⟨w.heap.size, 1, none⟩ (.int .i64 hi)) = vB121618 at hXB121618 hRB121618 hFB121618 hLB121618 ⊢
          clear hyB121618
          refine wpAnyH_take (i := 19) (oi := _) (v := ?_) rfl (by kernel_rfl) (by kernel_rfl) (by kernel_rfl) (fun _ _ _ h => h) (Or.inl ⟨by rfl, ?_⟩) (by assumption) ?_
          (rotate_left); (focus (intro wv qX;  go_simp; (try with_reducible rfl)))
          try simp only [Act.put, List.getElem_toArray, List.getElem_cons_succ, List.getElem_cons_zero, List.setIfInBounds_toArray, List.set_cons_zero, List.set_cons_succ]
          refine wpAnyH_done (by kernel_rfl) ?_ _
          obtain ⟨z0, z1_, _⟩ := blk2 hRB121618
          generalize (a == 0) = s
          go_wp2_with fail
          exact bodyPost_ret (v := .tuple #[.bool s, .agg #[.int .i64 lo, .int .i64 hi], .int .i64 lo]) (by simp [results, Try.results19, go_sem, z0, z1_]) rfl ⟨s, lo, hi, lo, rfl, ⟨lo0, lo1⟩, ⟨hi0, hi1⟩, ⟨by omega, by omega⟩, hFB121618⟩
        · obtain ⟨r0, r1, fr0, fr1, zr⟩ := blk2 hRB12
          go_simp
          have hXB1218 := blk_store2 (C := w.heap.size) hXB12 (by omega) (.int .i64 lo) (.int .i64 hi)
          have hRB1218 := blk2_set (a := .int .i64 lo) (b := .int .i64 hi) hRB12
          have hFB1218 := store2_bel (C := w.heap.size) hFB12 (Nat.le_refl _) (.int .i64 lo) (.int .i64 hi)
          have hLB1218 := blk_store2 (C := w.heap.size) hLB12 (by omega) (.int .i64 lo) (.int .i64 hi)
          refine hK.out _ _ (hXB1218) (fun hHeld => ?_)
          clear hHeld hK K
          try simp only [Act.put, List.getElem_toArray, List.getElem_cons_succ, List.getElem_cons_zero, List.setIfInBounds_toArray, List.set_cons_zero, List.set_cons_succ]
          generalize hyB1218 : ((vB12.setCell ⟨w.heap.size, 0, none⟩ (.int .i64 lo)).setCell ⟨w.heap.size, 1, none⟩ (.int .i64 hi)) = vB1218 at hXB1218 hRB1218 hFB1218 hLB1218 ⊢
          clear hyB1218
          refine wpAnyH_ready (rs := [16]) (by kernel_rfl) (by simp) ?_
          refine AllReadyH.cons (o := _) rfl (fun K hK => ?_) (AllReadyH.nil)
          have lB121816 : vB1218.cell? ⟨y4.heap.size, 0, none⟩ = some (.int .i64 lo) := by simp [World.cell?, hLB1218]
          go_simp
          refine hK.out _ _ (hXB1218) (fun hHeld => ?_)
          clear hHeld hK K
          try simp only [Act.put, List.getElem_toArray, List.getElem_cons_succ, List.getElem_cons_zero, List.setIfInBounds_toArray, List.set_cons_zero, List.set_cons_succ]
          refine wpAnyH_take (i := 19) (oi := _) (v := ?_) rfl (by kernel_rfl) (by kernel_rfl) (by kernel_rfl) (fun _ _ _ h => h) (Or.inl ⟨by rfl, ?_⟩) (by assumption) ?_
          (rotate_left); (focus (intro wv qX;  go_simp; (try with_reducible rfl)))
          try simp only [Act.put, List.getElem_toArray, List.getElem_cons_succ, List.getElem_cons_zero, List.setIfInBounds_toArray, List.set_cons_zero, List.set_cons_succ]
          refine wpAnyH_done (by kernel_rfl) ?_ _
          obtain ⟨z0, z1_, _⟩ := blk2 hRB1218
          generalize (a == 0) = s
          go_wp2_with fail
          exact bodyPost_ret (v := .tuple #[.bool s, .agg #[.int .i64 lo, .int .i64 hi], .int .i64 lo]) (by simp [results, Try.results19, go_sem, z0, z1_]) rfl ⟨s, lo, hi, lo, rfl, ⟨lo0, lo1⟩, ⟨hi0, hi1⟩, ⟨by omega, by omega⟩, hFB1218⟩
      · obtain ⟨r0, r1, fr0, fr1, zr⟩ := blk2 hR4
        go_simp
        have hXB18 := blk_store2 (C := w.heap.size) hX4 (by omega) (.int .i64 lo) (.int .i64 hi)
        have hRB18 := blk2_set (a := .int .i64 lo) (b := .int .i64 hi) hR4
        have hFB18 := store2_bel (C := w.heap.size) hBf (Nat.le_refl _) (.int .i64 lo) (.int .i64 hi)
        refine hK.out _ _ (hXB18) (fun hHeld => ?_)
        clear hHeld hK K
        try simp only [Act.put, List.getElem_toArray, List.getElem_cons_succ, List.getElem_cons_zero, List.setIfInBounds_toArray, List.set_cons_zero, List.set_cons_succ]
        generalize hyB18 : ((y4.setCell ⟨w.heap.size, 0, none⟩ (.int .i64 lo)).setCell ⟨w.heap.size, 1, none⟩ (.int .i64 hi)) = vB18 at hXB18 hRB18 hFB18 ⊢
        clear hyB18
        refine wpAnyH_ready (rs := [12]) (by kernel_rfl) (by simp) ?_
        refine AllReadyH.cons (o := _) rfl (fun K hK => ?_) (AllReadyH.nil)
        go_simp
        have hXB1812 := blk_old hXB18 (.cells #[.int .i64 lo, .int .i64 hi, .int .i64 c, .int .i64 d] 3)
        have hRB1812 := blk_old hRB18 (.cells #[.int .i64 lo, .int .i64 hi, .int .i64 c, .int .i64 d] 3)
        have hLB1812 := blk_new vB18 (.cells #[.int .i64 lo, .int .i64 hi, .int .i64 c, .int .i64 d] 3)
        have hFB1812 := hFB18.alloc hFB18.size (.cells #[.int .i64 lo, .int .i64 hi, .int .i64 c, .int .i64 d] 3)
        have hNB1812 := blk_lt hRB18
        refine hK.out _ _ (hXB1812) (fun hHeld => ?_)
        clear hHeld hK K
        try simp only [Act.put, List.getElem_toArray, List.getElem_cons_succ, List.getElem_cons_zero, List.setIfInBounds_toArray, List.set_cons_zero, List.set_cons_succ]
        generalize hyB1812 : vB18.alloc (.cells #[.int .i64 lo, .int .i64 hi, .int .i64 c, .int .i64 d] 3) = vB1812 at hXB1812 hRB1812 hLB1812 hFB1812 ⊢
        clear hyB1812
        refine wpAnyH_take (i := 15) (oi := _) (v := ?_) rfl (by kernel_rfl) (by kernel_rfl) (by kernel_rfl) (fun _ _ _ h => h) (Or.inl ⟨by rfl, ?_⟩) (by assumption) ?_
        (rotate_left); (focus (intro wv qX;  go_simp; (try with_reducible rfl)))
        try simp only [Act.put, List.getElem_toArray, List.getElem_cons_succ, List.getElem_cons_zero, List.setIfInBounds_toArray, List.set_cons_zero, List.set_cons_succ]
        refine wpAnyH_ready (rs := [16]) (by kernel_rfl) (by simp) ?_
        refine AllReadyH.cons (o := _) rfl (fun K hK => ?_) (AllReadyH.nil)
        have lB181216 : vB1812.cell? ⟨vB18.heap.size, 0, none⟩ = some (.int .i64 lo) := by simp [World.cell?, hLB1812]
        go_simp
        refine hK.out _ _ (hXB1812) (fun hHeld => ?_)
        clear hHeld hK K
        try simp only [Act.put, List.getElem_toArray, List.getElem_cons_succ, List.getElem_cons_zero, List.setIfInBounds_toArray, List.set_cons_zero, List.set_cons_succ]
        refine wpAnyH_take (i := 19) (oi := _) (v := ?_) rfl (by kernel_rfl) (by kernel_rfl) (by kernel_rfl) (fun _ _ _ h => h) (Or.inl ⟨by rfl, ?_⟩) (by assumption) ?_
        (rotate_left); (focus (intro wv qX;  go_simp; (try with_reducible rfl)))
        try simp only [Act.put, List.getElem_toArray, List.getElem_cons_succ, List.getElem_cons_zero, List.setIfInBounds_toArray, List.set_cons_zero, List.set_cons_succ]
        refine wpAnyH_done (by kernel_rfl) ?_ _
        obtain ⟨z0, z1_, _⟩ := blk2 hRB1812
        generalize (a == 0) = s
        go_wp2_with fail
        exact bodyPost_ret (v := .tuple #[.bool s, .agg #[.int .i64 lo, .int .i64 hi], .int .i64 lo]) (by simp [results, Try.results19, go_sem, z0, z1_]) rfl ⟨s, lo, hi, lo, rfl, ⟨lo0, lo1⟩, ⟨hi0, hi1⟩, ⟨by omega, by omega⟩, hFB1812⟩
    · by_cases k1 : j = 1
      · subst k1
        refine wpAnyH_ready (rs := [12, 18]) (by kernel_rfl) (by simp) ?_
        refine AllReadyH.cons (o := _) rfl (fun K hK => ?_) (AllReadyH.cons (o := _) rfl (fun K hK => ?_) (AllReadyH.nil))
        · go_simp
          have hXB12 := blk_old hX4 (.cells #[.int .i64 lo, .int .i64 hi, .int .i64 c, .int .i64 d] 3)
          have hRB12 := blk_old hR4 (.cells #[.int .i64 lo, .int .i64 hi, .int .i64 c, .int .i64 d] 3)
          have hLB12 := blk_new y4 (.cells #[.int .i64 lo, .int .i64 hi, .int .i64 c, .int .i64 d] 3)
          have hFB12 := hBf.alloc hBf.size (.cells #[.int .i64 lo, .int .i64 hi, .int .i64 c, .int .i64 d] 3)
          have hNB12 := blk_lt hR4
          refine hK.out _ _ (hXB12) (fun hHeld => ?_)
          clear hHeld hK K
          try simp only [Act.put, List.getElem_toArray, List.getElem_cons_succ, List.getElem_cons_zero, List.setIfInBounds_toArray, List.set_cons_zero, List.set_cons_succ]
          generalize hyB12 : y4.alloc (.cells #[.int .i64 lo, .int .i64 hi, .int .i64 c, .int .i64 d] 3) = vB12 at hXB12 hRB12 hLB12 hFB12 ⊢
          clear hyB12
          refine wpAnyH_take (i := 15) (oi := _) (v := ?_) rfl (by kernel_rfl) (by kernel_rfl) (by kernel_rfl) (fun _ _ _ h => h) (Or.inl ⟨by rfl, ?_⟩) (by assumption) ?_
          (rotate_left); (focus (intro wv qX;  go_simp; (try with_reducible rfl)))
          try simp only [Act.put, List.getElem_toArray, List.getElem_cons_succ, List.getElem_cons_zero, List.setIfInBounds_toArray, List.set_cons_zero, List.set_cons_succ]
          refine wpAnyH_ready (rs := [16, 18]) (by kernel_rfl) (by simp) ?_
          refine AllReadyH.cons (o := _) rfl (fun K hK => ?_) (AllReadyH.cons (o := _) rfl (fun K hK => ?_) (AllReadyH.nil))
          · have lB1216 : vB12.cell? ⟨y4.heap.size, 1, none⟩ = some (.int .i64 hi) := by simp [World.cell?, hLB12]
            go_simp
            refine hK.out _ _ (hXB12) (fun hHeld => ?_)
            clear hHeld hK K
            try simp only [Act.put, List.getElem_toArray, List.getElem_cons_succ, List.getElem_cons_zero, List.setIfInBounds_toArray, List.set_cons_zero, List.set_cons_succ]
            refine wpAnyH_ready (rs := [18]) (by kernel_rfl) (by simp) ?_
            refine AllReadyH.cons (o := _) rfl (fun K hK => ?_) (AllReadyH.nil)
            obtain ⟨r0, r1, fr0, fr1, zr⟩ := blk2 hRB12
            go_simp
            have hXB121618 := blk_store2 (C := w.heap.size) hXB12 (by omega) (.int .i64 lo) (.int .i64 hi)
            have hRB121618 := blk2_set (a := .int .i64 lo) (b := .int .i64 hi) hRB12
            have hFB121618 := store2_bel (C := w.heap.size) hFB12 (Nat.le_refl _) (.int .i64 lo) (.int .i64 hi)
            have hLB121618 := blk_store2 (C := w.heap.size) hLB12 (by omega) (.int .i64 lo) (.int .i64 hi)
            refine hK.out _ _ (hXB121618) (fun hHeld => ?_)
            clear hHeld hK K
            try simp only [Act.put, List.getElem_toArray, List.getElem_cons_succ, List.getElem_cons_zero, List.setIfInBounds_toArray, List.set_cons_zero, List.set_cons_succ]
            generalize hyB121618 : ((vB12.setCell ⟨w.heap.size, 0, none⟩ (.int .i64 lo)).setCell ⟨w.heap.size, 1, none⟩ (.int .i64 hi)) = vB121618 at hXB121618 hRB121618 hFB121618 hLB121618 ⊢
            clear hyB121618
            refine wpAnyH_take (i := 19) (oi := _) (v := ?_) rfl (by kernel_rfl) (by kernel_rfl) (by kernel_rfl) (fun _ _ _ h => h) (Or.inl ⟨by rfl, ?_⟩) (by assumption) ?_
            (rotate_left); (focus (intro wv qX;  go_simp; (try with_reducible rfl)))
            try simp only [Act.put, List.getElem_toArray, List.getElem_cons_succ, List.getElem_cons_zero, List.setIfInBounds_toArray, List.set_cons_zero, List.set_cons_succ]
            refine wpAnyH_done (by kernel_rfl) ?_ _
            obtain ⟨z0, z1_, _⟩ := blk2 hRB121618
            generalize (a == 0) = s
            go_wp2_with fail
            exact bodyPost_ret (v := .tuple #[.bool s, .agg #[.int .i64 lo, .int .i64 hi], .int .i64 hi]) (by simp [results, Try.results19, go_sem, z0, z1_]) rfl ⟨s, lo, hi, hi, rfl, ⟨lo0, lo1⟩, ⟨hi0, hi1⟩, ⟨by omega, by omega⟩, hFB121618⟩
          · obtain ⟨r0, r1, fr0, fr1, zr⟩ := blk2 hRB12
            go_simp
            have hXB1218 := blk_store2 (C := w.heap.size) hXB12 (by omega) (.int .i64 lo) (.int .i64 hi)
            have hRB1218 := blk2_set (a := .int .i64 lo) (b := .int .i64 hi) hRB12
            have hFB1218 := store2_bel (C := w.heap.size) hFB12 (Nat.le_refl _) (.int .i64 lo) (.int .i64 hi)
            have hLB1218 := blk_store2 (C := w.heap.size) hLB12 (by omega) (.int .i64 lo) (.int .i64 hi)
            refine hK.out _ _ (hXB1218) (fun hHeld => ?_)
            clear hHeld hK K
            try simp only [Act.put, List.getElem_toArray, List.getElem_cons_succ, List.getElem_cons_zero, List.setIfInBounds_toArray, List.set_cons_zero, List.set_cons_succ]
            generalize hyB1218 : ((vB12.setCell ⟨w.heap.size, 0, none⟩ (.int .i64 lo)).setCell ⟨w.heap.size, 1, none⟩ (.int .i64 hi)) = vB1218 at hXB1218 hRB1218 hFB1218 hLB1218 ⊢
            clear hyB1218
            refine wpAnyH_ready (rs := [16]) (by kernel_rfl) (by simp) ?_
            refine AllReadyH.cons (o := _) rfl (fun K hK => ?_) (AllReadyH.nil)
            have lB121816 : vB1218.cell? ⟨y4.heap.size, 1, none⟩ = some (.int .i64 hi) := by simp [World.cell?, hLB1218]
            go_simp
            refine hK.out _ _ (hXB1218) (fun hHeld => ?_)
            clear hHeld hK K
            try simp only [Act.put, List.getElem_toArray, List.getElem_cons_succ, List.getElem_cons_zero, List.setIfInBounds_toArray, List.set_cons_zero, List.set_cons_succ]
            refine wpAnyH_take (i := 19) (oi := _) (v := ?_) rfl (by kernel_rfl) (by kernel_rfl) (by kernel_rfl) (fun _ _ _ h => h) (Or.inl ⟨by rfl, ?_⟩) (by assumption) ?_
            (rotate_left); (focus (intro wv qX;  go_simp; (try with_reducible rfl)))
            try simp only [Act.put, List.getElem_toArray, List.getElem_cons_succ, List.getElem_cons_zero, List.setIfInBounds_toArray, List.set_cons_zero, List.set_cons_succ]
            refine wpAnyH_done (by kernel_rfl) ?_ _
            obtain ⟨z0, z1_, _⟩ := blk2 hRB1218
            generalize (a == 0) = s
            go_wp2_with fail
            exact bodyPost_ret (v := .tuple #[.bool s, .agg #[.int .i64 lo, .int .i64 hi], .int .i64 hi]) (by simp [results, Try.results19, go_sem, z0, z1_]) rfl ⟨s, lo, hi, hi, rfl, ⟨lo0, lo1⟩, ⟨hi0, hi1⟩, ⟨by omega, by omega⟩, hFB1218⟩
        · obtain ⟨r0, r1, fr0, fr1, zr⟩ := blk2 hR4
          go_simp
          have hXB18 := blk_store2 (C := w.heap.size) hX4 (by omega) (.int .i64 lo) (.int .i64 hi)
          have hRB18 := blk2_set (a := .int .i64 lo) (b := .int .i64 hi) hR4
          have hFB18 := store2_bel (C := w.heap.size) hBf (Nat.le_refl _) (.int .i64 lo) (.int .i64 hi)
          refine hK.out _ _ (hXB18) (fun hHeld => ?_)
          clear hHeld hK K
          try simp only [Act.put, List.getElem_toArray, List.getElem_cons_succ, List.getElem_cons_zero, List.setIfInBounds_toArray, List.set_cons_zero, List.set_cons_succ]
          generalize hyB18 : ((y4.setCell ⟨w.heap.size, 0, none⟩ (.int .i64 lo)).setCell ⟨w.heap.size, 1, none⟩ (.int .i64 hi)) = vB18 at hXB18 hRB18 hFB18 ⊢
          clear hyB18
          refine wpAnyH_ready (rs := [12]) (by kernel_rfl) (by simp) ?_
          refine AllReadyH.cons (o := _) rfl (fun K hK => ?_) (AllReadyH.nil)
          go_simp
          have hXB1812 := blk_old hXB18 (.cells #[.int .i64 lo, .int .i64 hi, .int .i64 c, .int .i64 d] 3)
          have hRB1812 := blk_old hRB18 (.cells #[.int .i64 lo, .int .i64 hi, .int .i64 c, .int .i64 d] 3)
          have hLB1812 := blk_new vB18 (.cells #[.int .i64 lo, .int .i64 hi, .int .i64 c, .int .i64 d] 3)
          have hFB1812 := hFB18.alloc hFB18.size (.cells #[.int .i64 lo, .int .i64 hi, .int .i64 c, .int .i64 d] 3)
          have hNB1812 := blk_lt hRB18
          refine hK.out _ _ (hXB1812) (fun hHeld => ?_)
          clear hHeld hK K
          try simp only [Act.put, List.getElem_toArray, List.getElem_cons_succ, List.getElem_cons_zero, List.setIfInBounds_toArray, List.set_cons_zero, List.set_cons_succ]
          generalize hyB1812 : vB18.alloc (.cells #[.int .i64 lo, .int .i64 hi, .int .i64 c, .int .i64 d] 3) = vB1812 at hXB1812 hRB1812 hLB1812 hFB1812 ⊢
          clear hyB1812
          refine wpAnyH_take (i := 15) (oi := _) (v := ?_) rfl (by kernel_rfl) (by kernel_rfl) (by kernel_rfl) (fun _ _ _ h => h) (Or.inl ⟨by rfl, ?_⟩) (by assumption) ?_
          (rotate_left); (focus (intro wv qX;  go_simp; (try with_reducible rfl)))
          try simp only [Act.put, List.getElem_toArray, List.getElem_cons_succ, List.getElem_cons_zero, List.setIfInBounds_toArray, List.set_cons_zero, List.set_cons_succ]
          refine wpAnyH_ready (rs := [16]) (by kernel_rfl) (by simp) ?_
          refine AllReadyH.cons (o := _) rfl (fun K hK => ?_) (AllReadyH.nil)
          have lB181216 : vB1812.cell? ⟨vB18.heap.size, 1, none⟩ = some (.int .i64 hi) := by simp [World.cell?, hLB1812]
          go_simp
          refine hK.out _ _ (hXB1812) (fun hHeld => ?_)
          clear hHeld hK K
          try simp only [Act.put, List.getElem_toArray, List.getElem_cons_succ, List.getElem_cons_zero, List.setIfInBounds_toArray, List.set_cons_zero, List.set_cons_succ]
          refine wpAnyH_take (i := 19) (oi := _) (v := ?_) rfl (by kernel_rfl) (by kernel_rfl) (by kernel_rfl) (fun _ _ _ h => h) (Or.inl ⟨by rfl, ?_⟩) (by assumption) ?_
          (rotate_left); (focus (intro wv qX;  go_simp; (try with_reducible rfl)))
          try simp only [Act.put, List.getElem_toArray, List.getElem_cons_succ, List.getElem_cons_zero, List.setIfInBounds_toArray, List.set_cons_zero, List.set_cons_succ]
          refine wpAnyH_done (by kernel_rfl) ?_ _
          obtain ⟨z0, z1_, _⟩ := blk2 hRB1812
          generalize (a == 0) = s
          go_wp2_with fail
          exact bodyPost_ret (v := .tuple #[.bool s, .agg #[.int .i64 lo, .int .i64 hi], .int .i64 hi]) (by simp [results, Try.results19, go_sem, z0, z1_]) rfl ⟨s, lo, hi, hi, rfl, ⟨lo0, lo1⟩, ⟨hi0, hi1⟩, ⟨by omega, by omega⟩, hFB1812⟩
      · by_cases k2 : j = 2
        · subst k2
          refine wpAnyH_ready (rs := [12, 18]) (by kernel_rfl) (by simp) ?_
          refine AllReadyH.cons (o := _) rfl (fun K hK => ?_) (AllReadyH.cons (o := _) rfl (fun K hK => ?_) (AllReadyH.nil))
          · go_simp
            have hXB12 := blk_old hX4 (.cells #[.int .i64 lo, .int .i64 hi, .int .i64 c, .int .i64 d] 3)
            have hRB12 := blk_old hR4 (.cells #[.int .i64 lo, .int .i64 hi, .int .i64 c, .int .i64 d] 3)
            have hLB12 := blk_new y4 (.cells #[.int .i64 lo, .int .i64 hi, .int .i64 c, .int .i64 d] 3)
            have hFB12 := hBf.alloc hBf.size (.cells #[.int .i64 lo, .int .i64 hi, .int .i64 c, .int .i64 d] 3)
            have hNB12 := blk_lt hR4
            refine hK.out _ _ (hXB12) (fun hHeld => ?_)
            clear hHeld hK K
            try simp only [Act.put, List.getElem_toArray, List.getElem_cons_succ, List.getElem_cons_zero, List.setIfInBounds_toArray, List.set_cons_zero, List.set_cons_succ]
            generalize hyB12 : y4.alloc (.cells #[.int .i64 lo, .int .i64 hi, .int .i64 c, .int .i64 d] 3) = vB12 at hXB12 hRB12 hLB12 hFB12 ⊢
            clear hyB12
            refine wpAnyH_take (i := 15) (oi := _) (v := ?_) rfl (by kernel_rfl) (by kernel_rfl) (by kernel_rfl) (fun _ _ _ h => h) (Or.inl ⟨by rfl, ?_⟩) (by assumption) ?_
            (rotate_left); (focus (intro wv qX;  go_simp; (try with_reducible rfl)))
            try simp only [Act.put, List.getElem_toArray, List.getElem_cons_succ, List.getElem_cons_zero, List.setIfInBounds_toArray, List.set_cons_zero, List.set_cons_succ]
            refine wpAnyH_ready (rs := [16, 18]) (by kernel_rfl) (by simp) ?_
            refine AllReadyH.cons (o := _) rfl (fun K hK => ?_) (AllReadyH.cons (o := _) rfl (fun K hK => ?_) (AllReadyH.nil))
            · have lB1216 : vB12.cell? ⟨y4.heap.size, 2, none⟩ = some (.int .i64 c) := by simp [World.cell?, hLB12]
              go_simp
              refine hK.out _ _ (hXB12) (fun hHeld => ?_)
              clear hHeld hK K
              try simp only [Act.put, List.getElem_toArray, List.getElem_cons_succ, List.getElem_cons_zero, List.setIfInBounds_toArray, List.set_cons_zero, List.set_cons_succ]
              refine wpAnyH_ready (rs := [18]) (by kernel_rfl) (by simp) ?_
              refine AllReadyH.cons (o := _) rfl (fun K hK => ?_) (AllReadyH.nil)
              obtain ⟨r0, r1, fr0, fr1, zr⟩ := blk2 hRB12
              go_simp
              have hXB121618 := blk_store2 (C := w.heap.size) hXB12 (by omega) (.int .i64 lo) (.int .i64 hi)
              have hRB121618 := blk2_set (a := .int .i64 lo) (b := .int .i64 hi) hRB12
              have hFB121618 := store2_bel (C := w.heap.size) hFB12 (Nat.le_refl _) (.int .i64 lo) (.int .i64 hi)
              have hLB121618 := blk_store2 (C := w.heap.size) hLB12 (by omega) (.int .i64 lo) (.int .i64 hi)
              refine hK.out _ _ (hXB121618) (fun hHeld => ?_)
              clear hHeld hK K
              try simp only [Act.put, List.getElem_toArray, List.getElem_cons_succ, List.getElem_cons_zero, List.setIfInBounds_toArray, List.set_cons_zero, List.set_cons_succ]
              generalize hyB121618 : ((vB12.setCell ⟨w.heap.size, 0, none⟩ (.int .i64 lo)).setCell ⟨w.heap.size, 1, none⟩ (.int .i64 hi)) = vB121618 at hXB121618 hRB121618 hFB121618 hLB121618 ⊢
              clear hyB121618
              refine wpAnyH_take (i := 19) (oi := _) (v := ?_) rfl (by kernel_rfl) (by kernel_rfl) (by kernel_rfl) (fun _ _ _ h => h) (Or.inl ⟨by rfl, ?_⟩) (by assumption) ?_
              (rotate_left); (focus (intro wv qX;  go_simp; (try with_reducible rfl)))
              try simp only [Act.put, List.getElem_toArray, List.getElem_cons_succ, List.getElem_cons_zero, List.setIfInBounds_toArray, List.set_cons_zero, List.set_cons_succ]
              refine wpAnyH_done (by kernel_rfl) ?_ _
              obtain ⟨z0, z1_, _⟩ := blk2 hRB121618
              generalize (a == 0) = s
              go_wp2_with fail
              exact bodyPost_ret (v := .tuple #[.bool s, .agg #[.int .i64 lo, .int .i64 hi], .int .i64 c]) (by simp [results, Try.results19, go_sem, z0, z1_]) rfl ⟨s, lo, hi, c, rfl, ⟨lo0, lo1⟩, ⟨hi0, hi1⟩, ⟨by omega, by omega⟩, hFB121618⟩
            · obtain ⟨r0, r1, fr0, fr1, zr⟩ := blk2 hRB12
              go_simp
              have hXB1218 := blk_store2 (C := w.heap.size) hXB12 (by omega) (.int .i64 lo) (.int .i64 hi)
              have hRB1218 := blk2_set (a := .int .i64 lo) (b := .int .i64 hi) hRB12
              have hFB1218 := store2_bel (C := w.heap.size) hFB12 (Nat.le_refl _) (.int .i64 lo) (.int .i64 hi)
              have hLB1218 := blk_store2 (C := w.heap.size) hLB12 (by omega) (.int .i64 lo) (.int .i64 hi)
              refine hK.out _ _ (hXB1218) (fun hHeld => ?_)
              clear hHeld hK K
              try simp only [Act.put, List.getElem_toArray, List.getElem_cons_succ, List.getElem_cons_zero, List.setIfInBounds_toArray, List.set_cons_zero, List.set_cons_succ]
              generalize hyB1218 : ((vB12.setCell ⟨w.heap.size, 0, none⟩ (.int .i64 lo)).setCell ⟨w.heap.size, 1, none⟩ (.int .i64 hi)) = vB1218 at hXB1218 hRB1218 hFB1218 hLB1218 ⊢
              clear hyB1218
              refine wpAnyH_ready (rs := [16]) (by kernel_rfl) (by simp) ?_
              refine AllReadyH.cons (o := _) rfl (fun K hK => ?_) (AllReadyH.nil)
              have lB121816 : vB1218.cell? ⟨y4.heap.size, 2, none⟩ = some (.int .i64 c) := by simp [World.cell?, hLB1218]
              go_simp
              refine hK.out _ _ (hXB1218) (fun hHeld => ?_)
              clear hHeld hK K
              try simp only [Act.put, List.getElem_toArray, List.getElem_cons_succ, List.getElem_cons_zero, List.setIfInBounds_toArray, List.set_cons_zero, List.set_cons_succ]
              refine wpAnyH_take (i := 19) (oi := _) (v := ?_) rfl (by kernel_rfl) (by kernel_rfl) (by kernel_rfl) (fun _ _ _ h => h) (Or.inl ⟨by rfl, ?_⟩) (by assumption) ?_
              (rotate_left); (focus (intro wv qX;  go_simp; (try with_reducible rfl)))
              try simp only [Act.put, List.getElem_toArray, List.getElem_cons_succ, List.getElem_cons_zero, List.setIfInBounds_toArray, List.set_cons_zero, List.set_cons_succ]
              refine wpAnyH_done (by kernel_rfl) ?_ _
              obtain ⟨z0, z1_, _⟩ := blk2 hRB1218
              generalize (a == 0) = s
              go_wp2_with fail
              exact bodyPost_ret (v := .tuple #[.bool s, .agg #[.int .i64 lo, .int .i64 hi], .int .i64 c]) (by simp [results, Try.results19, go_sem, z0, z1_]) rfl ⟨s, lo, hi, c, rfl, ⟨lo0, lo1⟩, ⟨hi0, hi1⟩, ⟨by omega, by omega⟩, hFB1218⟩
          · obtain ⟨r0, r1, fr0, fr1, zr⟩ := blk2 hR4
            go_simp
            have hXB18 := blk_store2 (C := w.heap.size) hX4 (by omega) (.int .i64 lo) (.int .i64 hi)
            have hRB18 := blk2_set (a := .int .i64 lo) (b := .int .i64 hi) hR4
            have hFB18 := store2_bel (C := w.heap.size) hBf (Nat.le_refl _) (.int .i64 lo) (.int .i64 hi)
            refine hK.out _ _ (hXB18) (fun hHeld => ?_)
            clear hHeld hK K
            try simp only [Act.put, List.getElem_toArray, List.getElem_cons_succ, List.getElem_cons_zero, List.setIfInBounds_toArray, List.set_cons_zero, List.set_cons_succ]
            generalize hyB18 : ((y4.setCell ⟨w.heap.size, 0, none⟩ (.int .i64 lo)).setCell ⟨w.heap.size, 1, none⟩ (.int .i64 hi)) = vB18 at hXB18 hRB18 hFB18 ⊢
            clear hyB18
            refine wpAnyH_ready (rs := [12]) (by kernel_rfl) (by simp) ?_
            refine AllReadyH.cons (o := _) rfl (fun K hK => ?_) (AllReadyH.nil)
            go_simp
            have hXB1812 := blk_old hXB18 (.cells #[.int .i64 lo, .int .i64 hi, .int .i64 c, .int .i64 d] 3)
            have hRB1812 := blk_old hRB18 (.cells #[.int .i64 lo, .int .i64 hi, .int .i64 c, .int .i64 d] 3)
            have hLB1812 := blk_new vB18 (.cells #[.int .i64 lo, .int .i64 hi, .int .i64 c, .int .i64 d] 3)
            have hFB1812 := hFB18.alloc hFB18.size (.cells #[.int .i64 lo, .int .i64 hi, .int .i64 c, .int .i64 d] 3)
            have hNB1812 := blk_lt hRB18
            refine hK.out _ _ (hXB1812) (fun hHeld => ?_)
            clear hHeld hK K
            try simp only [Act.put, List.getElem_toArray, List.getElem_cons_succ, List.getElem_cons_zero, List.setIfInBounds_toArray, List.set_cons_zero, List.set_cons_succ]
            generalize hyB1812 : vB18.alloc (.cells #[.int .i64 lo, .int .i64 hi, .int .i64 c, .int .i64 d] 3) = vB1812 at hXB1812 hRB1812 hLB1812 hFB1812 ⊢
            clear hyB1812
            refine wpAnyH_take (i := 15) (oi := _) (v := ?_) rfl (by kernel_rfl) (by kernel_rfl) (by kernel_rfl) (fun _ _ _ h => h) (Or.inl ⟨by rfl, ?_⟩) (by assumption) ?_
            (rotate_left); (focus (intro wv qX;  go_simp; (try with_reducible rfl)))
            try simp only [Act.put, List.getElem_toArray, List.getElem_cons_succ, List.getElem_cons_zero, List.setIfInBounds_toArray, List.set_cons_zero, List.set_cons_succ]
            refine wpAnyH_ready (rs := [16]) (by kernel_rfl) (by simp) ?_
            refine AllReadyH.cons (o := _) rfl (fun K hK => ?_) (AllReadyH.nil)
            have lB181216 : vB1812.cell? ⟨vB18.heap.size, 2, none⟩ = some (.int .i64 c) := by simp [World.cell?, hLB1812]
            go_simp
            refine hK.out _ _ (hXB1812) (fun hHeld => ?_)
            clear hHeld hK K
            try simp only [Act.put, List.getElem_toArray, List.getElem_cons_succ, List.getElem_cons_zero, List.setIfInBounds_toArray, List.set_cons_zero, List.set_cons_succ]
            refine wpAnyH_take (i := 19) (oi := _) (v := ?_) rfl (by kernel_rfl) (by kernel_rfl) (by kernel_rfl) (fun _ _ _ h => h) (Or.inl ⟨by rfl, ?_⟩) (by assumption) ?_
            (rotate_left); (focus (intro wv qX;  go_simp; (try with_reducible rfl)))
            try simp only [Act.put, List.getElem_toArray, List.getElem_cons_succ, List.getElem_cons_zero, List.setIfInBounds_toArray, List.set_cons_zero, List.set_cons_succ]
            refine wpAnyH_done (by kernel_rfl) ?_ _
            obtain ⟨z0, z1_, _⟩ := blk2 hRB1812
            generalize (a == 0) = s
            go_wp2_with fail
            exact bodyPost_ret (v := .tuple #[.bool s, .agg #[.int .i64 lo, .int .i64 hi], .int .i64 c]) (by simp [results, Try.results19, go_sem, z0, z1_]) rfl ⟨s, lo, hi, c, rfl, ⟨lo0, lo1⟩, ⟨hi0, hi1⟩, ⟨by omega, by omega⟩, hFB1812⟩
        · obtain rfl : j = 3 := by omega
          refine wpAnyH_ready (rs := [12, 18]) (by kernel_rfl) (by simp) ?_
          refine AllReadyH.cons (o := _) rfl (fun K hK => ?_) (AllReadyH.cons (o := _) rfl (fun K hK => ?_) (AllReadyH.nil))
          · go_simp
            have hXB12 := blk_old hX4 (.cells #[.int .i64 lo, .int .i64 hi, .int .i64 c, .int .i64 d] 3)
            have hRB12 := blk_old hR4 (.cells #[.int .i64 lo, .int .i64 hi, .int .i64 c, .int .i64 d] 3)
            have hLB12 := blk_new y4 (.cells #[.int .i64 lo, .int .i64 hi, .int .i64 c, .int .i64 d] 3)
            have hFB12 := hBf.alloc hBf.size (.cells #[.int .i64 lo, .int .i64 hi, .int .i64 c, .int .i64 d] 3)
            have hNB12 := blk_lt hR4
            refine hK.out _ _ (hXB12) (fun hHeld => ?_)
            clear hHeld hK K
            try simp only [Act.put, List.getElem_toArray, List.getElem_cons_succ, List.getElem_cons_zero, List.setIfInBounds_toArray, List.set_cons_zero, List.set_cons_succ]
            generalize hyB12 : y4.alloc (.cells #[.int .i64 lo, .int .i64 hi, .int .i64 c, .int .i64 d] 3) = vB12 at hXB12 hRB12 hLB12 hFB12 ⊢
            clear hyB12
            refine wpAnyH_take (i := 15) (oi := _) (v := ?_) rfl (by kernel_rfl) (by kernel_rfl) (by kernel_rfl) (fun _ _ _ h => h) (Or.inl ⟨by rfl, ?_⟩) (by assumption) ?_
            (rotate_left); (focus (intro wv qX;  go_simp; (try with_reducible rfl)))
            try simp only [Act.put, List.getElem_toArray, List.getElem_cons_succ, List.getElem_cons_zero, List.setIfInBounds_toArray, List.set_cons_zero, List.set_cons_succ]
            refine wpAnyH_ready (rs := [16, 18]) (by kernel_rfl) (by simp) ?_
            refine AllReadyH.cons (o := _) rfl (fun K hK => ?_) (AllReadyH.cons (o := _) rfl (fun K hK => ?_) (AllReadyH.nil))
            · have lB1216 : vB12.cell? ⟨y4.heap.size, 3, none⟩ = some (.int .i64 d) := by simp [World.cell?, hLB12]
              go_simp
              refine hK.out _ _ (hXB12) (fun hHeld => ?_)
              clear hHeld hK K
              try simp only [Act.put, List.getElem_toArray, List.getElem_cons_succ, List.getElem_cons_zero, List.setIfInBounds_toArray, List.set_cons_zero, List.set_cons_succ]
              refine wpAnyH_ready (rs := [18]) (by kernel_rfl) (by simp) ?_
              refine AllReadyH.cons (o := _) rfl (fun K hK => ?_) (AllReadyH.nil)
              obtain ⟨r0, r1, fr0, fr1, zr⟩ := blk2 hRB12
              go_simp
              have hXB121618 := blk_store2 (C := w.heap.size) hXB12 (by omega) (.int .i64 lo) (.int .i64 hi)
              have hRB121618 := blk2_set (a := .int .i64 lo) (b := .int .i64 hi) hRB12
              have hFB121618 := store2_bel (C := w.heap.size) hFB12 (Nat.le_refl _) (.int .i64 lo) (.int .i64 hi)
              have hLB121618 := blk_store2 (C := w.heap.size) hLB12 (by omega) (.int .i64 lo) (.int .i64 hi)
              refine hK.out _ _ (hXB121618) (fun hHeld => ?_)
              clear hHeld hK K
              try simp only [Act.put, List.getElem_toArray, List.getElem_cons_succ, List.getElem_cons_zero, List.setIfInBounds_toArray, List.set_cons_zero, List.set_cons_succ]
              generalize hyB121618 : ((vB12.setCell ⟨w.heap.size, 0, none⟩ (.int .i64 lo)).setCell ⟨w.heap.size, 1, none⟩ (.int .i64 hi)) = vB121618 at hXB121618 hRB121618 hFB121618 hLB121618 ⊢
              clear hyB121618
              refine wpAnyH_take (i := 19) (oi := _) (v := ?_) rfl (by kernel_rfl) (by kernel_rfl) (by kernel_rfl) (fun _ _ _ h => h) (Or.inl ⟨by rfl, ?_⟩) (by assumption) ?_
              (rotate_left); (focus (intro wv qX;  go_simp; (try with_reducible rfl)))
              try simp only [Act.put, List.getElem_toArray, List.getElem_cons_succ, List.getElem_cons_zero, List.setIfInBounds_toArray, List.set_cons_zero, List.set_cons_succ]
              refine wpAnyH_done (by kernel_rfl) ?_ _
              obtain ⟨z0, z1_, _⟩ := blk2 hRB121618
              generalize (a == 0) = s
              go_wp2_with fail
              exact bodyPost_ret (v := .tuple #[.bool s, .agg #[.int .i64 lo, .int .i64 hi], .int .i64 d]) (by simp [results, Try.results19, go_sem, z0, z1_]) rfl ⟨s, lo, hi, d, rfl, ⟨lo0, lo1⟩, ⟨hi0, hi1⟩, ⟨by omega, by omega⟩, hFB121618⟩
            · obtain ⟨r0, r1, fr0, fr1, zr⟩ := blk2 hRB12
              go_simp
              have hXB1218 := blk_store2 (C := w.heap.size) hXB12 (by omega) (.int .i64 lo) (.int .i64 hi)
              have hRB1218 := blk2_set (a := .int .i64 lo) (b := .int .i64 hi) hRB12
              have hFB1218 := store2_bel (C := w.heap.size) hFB12 (Nat.le_refl _) (.int .i64 lo) (.int .i64 hi)
              have hLB1218 := blk_store2 (C := w.heap.size) hLB12 (by omega) (.int .i64 lo) (.int .i64 hi)
              refine hK.out _ _ (hXB1218) (fun hHeld => ?_)
              clear hHeld hK K
              try simp only [Act.put, List.getElem_toArray, List.getElem_cons_succ, List.getElem_cons_zero, List.setIfInBounds_toArray, List.set_cons_zero, List.set_cons_succ]
              generalize hyB1218 : ((vB12.setCell ⟨w.heap.size, 0, none⟩ (.int .i64 lo)).setCell ⟨w.heap.size, 1, none⟩ (.int .i64 hi)) = vB1218 at hXB1218 hRB1218 hFB1218 hLB1218 ⊢
              clear hyB1218
              refine wpAnyH_ready (rs := [16]) (by kernel_rfl) (by simp) ?_
              refine AllReadyH.cons (o := _) rfl (fun K hK => ?_) (AllReadyH.nil)
              have lB121816 : vB1218.cell? ⟨y4.heap.size, 3, none⟩ = some (.int .i64 d) := by simp [World.cell?, hLB1218]
              go_simp
              refine hK.out _ _ (hXB1218) (fun hHeld => ?_)
              clear hHeld hK K
              try simp only [Act.put, List.getElem_toArray, List.getElem_cons_succ, List.getElem_cons_zero, List.setIfInBounds_toArray, List.set_cons_zero, List.set_cons_succ]
              refine wpAnyH_take (i := 19) (oi := _) (v := ?_) rfl (by kernel_rfl) (by kernel_rfl) (by kernel_rfl) (fun _ _ _ h => h) (Or.inl ⟨by rfl, ?_⟩) (by assumption) ?_
              (rotate_left); (focus (intro wv qX;  go_simp; (try with_reducible rfl)))
              try simp only [Act.put, List.getElem_toArray, List.getElem_cons_succ, List.getElem_cons_zero, List.setIfInBounds_toArray, List.set_cons_zero, List.set_cons_succ]
              refine wpAnyH_done (by kernel_rfl) ?_ _
              obtain ⟨z0, z1_, _⟩ := blk2 hRB1218
              generalize (a == 0) = s
              go_wp2_with fail
              exact bodyPost_ret (v := .tuple #[.bool s, .agg #[.int .i64 lo, .int .i64 hi], .int .i64 d]) (by simp [results, Try.results19, go_sem, z0, z1_]) rfl ⟨s, lo, hi, d, rfl, ⟨lo0, lo1⟩, ⟨hi0, hi1⟩, ⟨by omega, by omega⟩, hFB1218⟩
          · obtain ⟨r0, r1, fr0, fr1, zr⟩ := blk2 hR4
            go_simp
            have hXB18 := blk_store2 (C := w.heap.size) hX4 (by omega) (.int .i64 lo) (.int .i64 hi)
            have hRB18 := blk2_set (a := .int .i64 lo) (b := .int .i64 hi) hR4
            have hFB18 := store2_bel (C := w.heap.size) hBf (Nat.le_refl _) (.int .i64 lo) (.int .i64 hi)
            refine hK.out _ _ (hXB18) (fun hHeld => ?_)
            clear hHeld hK K
            try simp only [Act.put, List.getElem_toArray, List.getElem_cons_succ, List.getElem_cons_zero, List.setIfInBounds_toArray, List.set_cons_zero, List.set_cons_succ]
            generalize hyB18 : ((y4.setCell ⟨w.heap.size, 0, none⟩ (.int .i64 lo)).setCell ⟨w.heap.size, 1, none⟩ (.int .i64 hi)) = vB18 at hXB18 hRB18 hFB18 ⊢
            clear hyB18
            refine wpAnyH_ready (rs := [12]) (by kernel_rfl) (by simp) ?_
            refine AllReadyH.cons (o := _) rfl (fun K hK => ?_) (AllReadyH.nil)
            go_simp
            have hXB1812 := blk_old hXB18 (.cells #[.int .i64 lo, .int .i64 hi, .int .i64 c, .int .i64 d] 3)
            have hRB1812 := blk_old hRB18 (.cells #[.int .i64 lo, .int .i64 hi, .int .i64 c, .int .i64 d] 3)
            have hLB1812 := blk_new vB18 (.cells #[.int .i64 lo, .int .i64 hi, .int .i64 c, .int .i64 d] 3)
            have hFB1812 := hFB18.alloc hFB18.size (.cells #[.int .i64 lo, .int .i64 hi, .int .i64 c, .int .i64 d] 3)
            have hNB1812 := blk_lt hRB18
            refine hK.out _ _ (hXB1812) (fun hHeld => ?_)
            clear hHeld hK K
            try simp only [Act.put, List.getElem_toArray, List.getElem_cons_succ, List.getElem_cons_zero, List.setIfInBounds_toArray, List.set_cons_zero, List.set_cons_succ]
            generalize hyB1812 : vB18.alloc (.cells #[.int .i64 lo, .int .i64 hi, .int .i64 c, .int .i64 d] 3) = vB1812 at hXB1812 hRB1812 hLB1812 hFB1812 ⊢
            clear hyB1812
            refine wpAnyH_take (i := 15) (oi := _) (v := ?_) rfl (by kernel_rfl) (by kernel_rfl) (by kernel_rfl) (fun _ _ _ h => h) (Or.inl ⟨by rfl, ?_⟩) (by assumption) ?_
            (rotate_left); (focus (intro wv qX;  go_simp; (try with_reducible rfl)))
            try simp only [Act.put, List.getElem_toArray, List.getElem_cons_succ, List.getElem_cons_zero, List.setIfInBounds_toArray, List.set_cons_zero, List.set_cons_succ]
            refine wpAnyH_ready (rs := [16]) (by kernel_rfl) (by simp) ?_
            refine AllReadyH.cons (o := _) rfl (fun K hK => ?_) (AllReadyH.nil)
            have lB181216 : vB1812.cell? ⟨vB18.heap.size, 3, none⟩ = some (.int .i64 d) := by simp [World.cell?, hLB1812]
            go_simp
            refine hK.out _ _ (hXB1812) (fun hHeld => ?_)
            clear hHeld hK K
            try simp only [Act.put, List.getElem_toArray, List.getElem_cons_succ, List.getElem_cons_zero, List.setIfInBounds_toArray, List.set_cons_zero, List.set_cons_succ]
            refine wpAnyH_take (i := 19) (oi := _) (v := ?_) rfl (by kernel_rfl) (by kernel_rfl) (by kernel_rfl) (fun _ _ _ h => h) (Or.inl ⟨by rfl, ?_⟩) (by assumption) ?_
            (rotate_left); (focus (intro wv qX;  go_simp; (try with_reducible rfl)))
            try simp only [Act.put, List.getElem_toArray, List.getElem_cons_succ, List.getElem_cons_zero, List.setIfInBounds_toArray, List.set_cons_zero, List.set_cons_succ]
            refine wpAnyH_done (by kernel_rfl) ?_ _
            obtain ⟨z0, z1_, _⟩ := blk2 hRB1812
            generalize (a == 0) = s
            go_wp2_with fail
            exact bodyPost_ret (v := .tuple #[.bool s, .agg #[.int .i64 lo, .int .i64 hi], .int .i64 d]) (by simp [results, Try.results19, go_sem, z0, z1_]) rfl ⟨s, lo, hi, d, rfl, ⟨lo0, lo1⟩, ⟨hi0, hi1⟩, ⟨by omega, by omega⟩, hFB1812⟩
end Go.Proofs.Ytpmbjdfecbmgoaa
