/- What the laws of plates draw out of a code. -/
import Derived.Test.YtjdaeijhhnaimabDp
namespace Go.Proofs.Ytjdaeijhhnaimab
open Go Go.ChangeShapes Go.WideShapes Go.ChangeAt Go.RowKit
set_option linter.unusedSimpArgs false
set_option linter.unusedVariables false

/-- Nothing is said of the world. -/
def AnyW (w : World) : Prop := 0 ≤ w.heap.size
theorem AnyW.mk {w : World} : AnyW w := Nat.zero_le _
def DrewP (w : World) (e : Ending) (w' : World) : Prop :=
  ∃ (xs : List VMark) (g cp : Nat), e = .returned (.slice (some ⟨g, 0, none⟩) xs.length cp) ∧ xs.length ≤ 25 ∧ plSm xs ∧ SOwn encMark w' w.heap.size 30 (some ⟨g, 0, none⟩) cp xs ∧ Below w.heap.size w w'
def DrewPW (w : World) (e : Ending) (w' : World) : Prop :=
  ∃ (xs : List VMark) (g cp : Nat) (a b : Int), e = .returned (.tuple #[.slice (some ⟨g, 0, none⟩) xs.length cp, .agg #[.int .i64 a, .int .i64 b]]) ∧ xs.length ≤ 25 ∧ plSm xs ∧ (-1001 ≤ a ∧ a ≤ 1001) ∧ (-1001 ≤ b ∧ b ≤ 1001) ∧ SOwn encMark w' w.heap.size 30 (some ⟨g, 0, none⟩) cp xs ∧ Below w.heap.size w w'
set_option maxHeartbeats 1000000 in
theorem drPlateValid_any (a : Option Addr) (len cap : Nat) (w : World) (h : CodeOk w a len cap) : Calls Try.prog 7 #[.slice a len cap] w (DrewP w) := by
  go_enter Try.func7, Try.ntmps7
  go_wp2_with fail
  refine (open_any _ _ _ _ h).mono ?_; rintro e w1 ⟨B, rfl, hB, h1, hb1⟩
  go_wp2_with fail
  refine (plate_any B 0 2 _ h1 (by omega) (by omega) (by omega)).mono ?_; rintro e w2 ⟨xs, g, cp, rfl, hl, hs, hO, h2, hx2⟩
  go_wp2
  go_ret
  exact ⟨xs, g, cp, rfl, hl, hs, hO.mono hb1.size, hb1.trans (hx2.below hB hb1.size)⟩
theorem own_far {α : Type} {E : Enc α} {w : World} {base k : Nat} {T : TypeId} {A : Option Addr} {cap : Nat} {xs : List α} (h : SOwn E w base T A cap xs) (hk : k < base) (a b : Value) : SOwn E ((w.setCell ⟨k, 0, none⟩ a).setCell ⟨k, 1, none⟩ b) base T A cap xs := by
  have hg : w.grownBy ((w.setCell ⟨k, 0, none⟩ a).setCell ⟨k, 1, none⟩ b) (some k) := setAll_grown [a, b] 0 (⟨rfl, rfl, rfl, Nat.le_refl _, fun _ _ _ => rfl⟩ : w.grownBy w (some k))
  refine h.grown_far hg (fun g hg e => ?_)
  rcases h.form with ⟨e2, _⟩ | ⟨g2, e2, hb, _⟩
  · rw [e2] at hg; cases hg
  · rw [e2] at hg; cases hg; cases e; omega
set_option maxHeartbeats 4000000 in
theorem drPlateRead_any (a : Option Addr) (len cap : Nat) (w : World) (h : CodeOk w a len cap) : Calls Try.prog 18 #[.slice a len cap] w (DrewPW w) := by
  go_enter Try.func18, Try.ntmps18
  go_wp2_with fail
  refine (open_any _ _ _ _ (code_below h (bel1 _ _))).mono ?_; rintro e w1 ⟨B, rfl, hB, h1, hb1⟩
  obtain ⟨hH1, hB1⟩ := ownb hb1
  have hz1 := blk_lt hH1
  have hB' : w.heap.size < B := by simp at hB; omega
  have hBlt1 := h1.lt
  clear hB
  go_wp2_with fail
  refine (plate_any B 0 9 _ h1 (by omega) (by omega) (by omega)).mono ?_; rintro e w2 ⟨xs, g, cp, rfl, hl, hs, hO2, h2, hx2⟩
  have hH2 := blk_ext hH1 hx2 (by omega)
  have hB2 := hB1.trans (hx2.below (N := w.heap.size) (by omega) (by omega))
  have HS := Lib.hid hs
  obtain ⟨m, hm⟩ : ∃ m, xs.length = m := ⟨_, rfl⟩
  rw [hm] at hl
  have HM := Lib.hid hm
  rw [HM.out]
  clear hs hm
  have hz2 := hx2.size
  by_cases hm0 : 0 < m
  · have hm0i : (0 : Int) < (m : Int) := by omega
    go_wp2_with fail
    refine (pick_any B _ 3 _ h2 (by omega) (by omega) (by omega)).mono ?_; rintro e w3 ⟨q, rfl, q0, q1, h3, hx3⟩
    have hO3 := hO2.ext hx3 hBlt1
    have hH3 := blk_ext hH2 hx3 (by omega)
    have hB3 := hB2.trans (hx3.below (N := w.heap.size) (by omega) (by omega))
    have hBlt := hBlt1
    have hz3 := hx3.size
    by_cases g0 : q = 0
    · subst g0
      go_wp2_with fail
      have hR_0 : RdU B (0 + 80 + 1) w3.drew := h3
      have hE_0 : Ext B w3 w3.drew := ⟨rfl, rfl, rfl, Nat.le_refl _, fun _ _ _ => rfl⟩
      have hO3 : SOwn encMark w3.drew w1.heap.size 30 (some ⟨g, 0, none⟩) cp xs := hO3.drew
      have hH3 : w3.drew.heap[w.heap.size]? = some (.cells #[.int .i64 0, .int .i64 0] 28) := hH3
      refine wp_region_held_drew (S := AnyW) (by kernel_rfl) AnyW.mk (fun hHeld => ?_)
      clear hHeld
      refine wpAnyH_take (i := 0) (oi := _) (v := ?_) rfl (by kernel_rfl) (by kernel_rfl) (by kernel_rfl) (fun _ _ _ h => h) (Or.inl ⟨by rfl, ?_⟩) AnyW.mk ?_
      (rotate_left); (focus (intro wv hSw; clear hSw; go_simp; (try with_reducible rfl)))
      try simp only [Act.put, List.getElem_toArray, List.getElem_cons_succ, List.getElem_cons_zero, List.setIfInBounds_toArray, List.set_cons_zero, List.set_cons_succ]
      refine wpAnyH_take (i := 1) (oi := _) (v := ?_) rfl (by kernel_rfl) (by kernel_rfl) (by kernel_rfl) (fun _ _ _ h => h) (Or.inl ⟨by rfl, ?_⟩) AnyW.mk ?_
      (rotate_left); (focus (intro wv hSw; clear hSw; go_simp; (try with_reducible rfl)))
      try simp only [Act.put, List.getElem_toArray, List.getElem_cons_succ, List.getElem_cons_zero, List.setIfInBounds_toArray, List.set_cons_zero, List.set_cons_succ]
      refine wpAnyH_take (i := 2) (oi := _) (v := ?_) rfl (by kernel_rfl) (by kernel_rfl) (by kernel_rfl) (fun _ _ _ h => h) (Or.inl ⟨by rfl, ?_⟩) AnyW.mk ?_
      (rotate_left); (focus (intro wv hSw; clear hSw; go_simp; (try with_reducible rfl)))
      try simp only [Act.put, List.getElem_toArray, List.getElem_cons_succ, List.getElem_cons_zero, List.setIfInBounds_toArray, List.set_cons_zero, List.set_cons_succ]
      refine wpAnyH_take (i := 3) (oi := _) (v := ?_) rfl (by kernel_rfl) (by kernel_rfl) (by kernel_rfl) (fun _ _ _ h => h) (Or.inl ⟨by rfl, ?_⟩) AnyW.mk ?_
      (rotate_left); (focus (intro wv hSw; clear hSw; go_simp; (try with_reducible rfl)))
      try simp only [Act.put, List.getElem_toArray, List.getElem_cons_succ, List.getElem_cons_zero, List.setIfInBounds_toArray, List.set_cons_zero, List.set_cons_succ]
      refine wpAnyH_take (i := 4) (oi := _) (v := ?_) rfl (by kernel_rfl) (by kernel_rfl) (by kernel_rfl) (fun _ _ _ h => h) (Or.inl ⟨by rfl, ?_⟩) AnyW.mk ?_
      (rotate_left); (focus (intro wv hSw; clear hSw; go_simp; (try with_reducible rfl)))
      try simp only [Act.put, List.getElem_toArray, List.getElem_cons_succ, List.getElem_cons_zero, List.setIfInBounds_toArray, List.set_cons_zero, List.set_cons_succ]
      refine wpAnyH_ready (rs := [5]) (by kernel_rfl) (by simp) ?_
      refine AllReadyH.cons (o := _) rfl (fun K hK => ?_) (AllReadyH.nil)
      go_simp
      (go_at_call 34; refine (pick_any B _ (m : Int) _ hR_0 (by omega) (by omega) (by omega)).mono ?_; rintro e x0c ⟨j, rfl, j0, j1, hR_0c, hx_0c⟩)
      refine hK.out _ _ AnyW.mk (fun hHeld => ?_)
      clear hHeld hK K
      try simp only [Act.put, List.getElem_toArray, List.getElem_cons_succ, List.getElem_cons_zero, List.setIfInBounds_toArray, List.set_cons_zero, List.set_cons_succ]
      have hE_0c := hE_0.trans hx_0c
      have hO_0c := hO3.ext hx_0c hBlt
      have hj : j.toNat < xs.length := by rw [HM.out]; omega
      obtain ⟨u0, u1, u2⟩ := ownMark hO_0c hj
      have hjm : j.toNat < m := by omega
      have hH_0c := blk_ext hH3 hx_0c (by omega)
      obtain ⟨p0, p1, pf0, pf1, pz⟩ := blk2 hH_0c
      have hH9 := blk2_set (a := .int .i64 xs[j.toNat].1) (b := .int .i64 xs[j.toNat].2.1) hH_0c
      obtain ⟨q0, q1, _⟩ := blk2 hH9
      have hsj := HS.out xs[j.toNat] (List.getElem_mem hj)
      refine wpAnyH_take (i := 6) (oi := _) (v := ?_) rfl (by kernel_rfl) (by kernel_rfl) (by kernel_rfl) (fun _ _ _ h => h) (Or.inl ⟨by rfl, ?_⟩) AnyW.mk ?_
      (rotate_left); (focus (intro wv hSw; clear hSw; go_simp; (try with_reducible rfl)))
      try simp only [Act.put, List.getElem_toArray, List.getElem_cons_succ, List.getElem_cons_zero, List.setIfInBounds_toArray, List.set_cons_zero, List.set_cons_succ]
      refine wpAnyH_take (i := 7) (oi := _) (v := ?_) rfl (by kernel_rfl) (by kernel_rfl) (by kernel_rfl) (fun _ _ _ h => h) (Or.inl ⟨by rfl, ?_⟩) AnyW.mk ?_
      (rotate_left); (focus (intro wv hSw; clear hSw; go_simp; (try with_reducible rfl)))
      try simp only [Act.put, List.getElem_toArray, List.getElem_cons_succ, List.getElem_cons_zero, List.setIfInBounds_toArray, List.set_cons_zero, List.set_cons_succ]
      refine wpAnyH_take (i := 9) (oi := _) (v := ?_) rfl (by kernel_rfl) (by kernel_rfl) (by kernel_rfl) (fun _ _ _ h => h) (Or.inl ⟨by rfl, ?_⟩) AnyW.mk ?_
      (rotate_left); (focus (intro wv hSw; clear hSw; go_simp; (try with_reducible rfl)))
      try simp only [Act.put, List.getElem_toArray, List.getElem_cons_succ, List.getElem_cons_zero, List.setIfInBounds_toArray, List.set_cons_zero, List.set_cons_succ]
      refine wpAnyH_ready (rs := [8]) (by kernel_rfl) (by simp) ?_
      refine AllReadyH.cons (o := _) rfl (fun K hK => ?_) (AllReadyH.nil)
      go_simp
      refine hK.out _ _ AnyW.mk (fun hHeld => ?_)
      clear hHeld hK K
      try simp only [Act.put, List.getElem_toArray, List.getElem_cons_succ, List.getElem_cons_zero, List.setIfInBounds_toArray, List.set_cons_zero, List.set_cons_succ]
      have hR_0cl := hR_0c
      have hE_0cl := hE_0c
      refine wpAnyH_ready (rs := [10]) (by kernel_rfl) (by simp) ?_
      refine AllReadyH.cons (o := _) rfl (fun K hK => ?_) (AllReadyH.nil)
      go_simp
      refine hK.out _ _ AnyW.mk (fun hHeld => ?_)
      clear hHeld hK K
      try simp only [Act.put, List.getElem_toArray, List.getElem_cons_succ, List.getElem_cons_zero, List.setIfInBounds_toArray, List.set_cons_zero, List.set_cons_succ]
      have hR_0cll := hR_0cl
      have hE_0cll := hE_0cl
      refine wpAnyH_done (by kernel_rfl) ?_ _
      have hO9 : SOwn encMark ((x0c.setCell ⟨w.heap.size, 0, none⟩ (.int .i64 xs[j.toNat].1)).setCell ⟨w.heap.size, 1, none⟩ (.int .i64 xs[j.toNat].2.1)) w1.heap.size 30 (some ⟨g, 0, none⟩) cp xs := own_far hO_0c (by omega) _ _
      have hB9 := hB3.trans (hE_0c.below (N := w.heap.size) (by omega) (by omega))
      go_wp2
      exact bodyPost_ret (v := .tuple #[.slice (some ⟨g, 0, none⟩) m cp, .agg #[.int .i64 xs[j.toNat].1, .int .i64 xs[j.toNat].2.1]]) (by simp [results, Try.results18, go_sem, q0, q1]) rfl ⟨xs, g, cp, _, _, by rw [HM.out], by rw [HM.out]; exact hl, HS.out, hsj.1, hsj.2.1, hO9.mono (by omega), store2_bel hB9 (Nat.le_refl _) _ _⟩
    · have d1 : (q == 0) = false := by rw [beq_eq_false_iff_ne]; exact g0
      clear g0
      go_wp2_with fail
      refine (way_any B _ 20 _ h3 (by omega) (by omega) (by omega)).mono ?_; rintro e w4 ⟨x, y, rfl, x0, x1, y0, y1, h4, hx4⟩
      have hO4 := hO3.ext hx4 hBlt1
      have hH4 := blk_ext hH3 hx4 (by omega)
      have hB4 := hB3.trans (hx4.below (N := w.heap.size) (by omega) (by omega))
      obtain ⟨p0, p1, pf0, pf1, pz⟩ := blk2 hH4
      have hH9 := blk2_set (a := .int .i64 x) (b := .int .i64 y) hH4
      obtain ⟨q0_, q1_, _⟩ := blk2 hH9
      go_wp2
      have hge := SOwn.ge_base (n := m) hO4
      have hO5 : SOwn encMark ((w4.setCell ⟨w.heap.size, 0, none⟩ (.int .i64 x)).setCell ⟨w.heap.size, 1, none⟩ (.int .i64 y)) w1.heap.size 30 (some ⟨g, 0, none⟩) cp xs := own_far hO4 (by omega) _ _
      exact bodyPost_ret (v := .tuple #[.slice (some ⟨g, 0, none⟩) m cp, .agg #[.int .i64 x, .int .i64 y]]) (by simp [results, Try.results18, go_sem, q0_, q1_]) rfl ⟨xs, g, cp, x, y, by rw [HM.out], by rw [HM.out]; exact hl, HS.out, ⟨x0, x1⟩, ⟨y0, y1⟩, hO5.mono (by omega), store2_bel hB4 (Nat.le_refl _) _ _⟩
  · have hm1 : ¬ (0 : Int) < (m : Int) := by omega
    go_wp2_with fail
    have hO3 := hO2
    have hH3 := hH2
    have hB3 := hB2
    have hz3 := hz2
    refine (way_any B _ 20 _ h2 (by omega) (by omega) (by omega)).mono ?_; rintro e w4 ⟨x, y, rfl, x0, x1, y0, y1, h4, hx4⟩
    have hO4 := hO3.ext hx4 hBlt1
    have hH4 := blk_ext hH3 hx4 (by omega)
    have hB4 := hB3.trans (hx4.below (N := w.heap.size) (by omega) (by omega))
    obtain ⟨p0, p1, pf0, pf1, pz⟩ := blk2 hH4
    have hH9 := blk2_set (a := .int .i64 x) (b := .int .i64 y) hH4
    obtain ⟨q0_, q1_, _⟩ := blk2 hH9
    go_wp2
    have hge := SOwn.ge_base (n := m) hO4
    have hO5 : SOwn encMark ((w4.setCell ⟨w.heap.size, 0, none⟩ (.int .i64 x)).setCell ⟨w.heap.size, 1, none⟩ (.int .i64 y)) w1.heap.size 30 (some ⟨g, 0, none⟩) cp xs := own_far hO4 (by omega) _ _
    exact bodyPost_ret (v := .tuple #[.slice (some ⟨g, 0, none⟩) m cp, .agg #[.int .i64 x, .int .i64 y]]) (by simp [results, Try.results18, go_sem, q0_, q1_]) rfl ⟨xs, g, cp, x, y, by rw [HM.out], by rw [HM.out]; exact hl, HS.out, ⟨x0, x1⟩, ⟨y0, y1⟩, hO5.mono (by omega), store2_bel hB4 (Nat.le_refl _) _ _⟩
end Go.Proofs.Ytjdaeijhhnaimab
