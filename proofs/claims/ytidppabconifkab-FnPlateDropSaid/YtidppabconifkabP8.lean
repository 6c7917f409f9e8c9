/- What the laws PlatePut and PlateDrop draw out of a code. -/
import Derived.Test.YtidppabconifkabDq
namespace Go.Proofs.Ytidppabconifkab
open Go Go.ChangeShapes Go.WideShapes Go.ChangeAt Go.RowKit
set_option linter.unusedSimpArgs false
set_option linter.unusedVariables false

def DrewPT (w : World) (e : Ending) (w' : World) : Prop :=
  ∃ (xs : List VMark) (g cp : Nat) (t : ByteArray), e = .returned (.tuple #[.slice (some ⟨g, 0, none⟩) xs.length cp, .string t]) ∧ xs.length ≤ 25 ∧ plSm xs ∧ t.size ≤ 100 ∧ SOwn encMark w' w.heap.size 40 (some ⟨g, 0, none⟩) cp xs ∧ Below w.heap.size w w'
def DrewPM (w : World) (e : Ending) (w' : World) : Prop :=
  ∃ (xs : List VMark) (g cp : Nat) (a b : Int) (t : ByteArray), e = .returned (.tuple #[.slice (some ⟨g, 0, none⟩) xs.length cp, .agg #[.int .i64 a, .int .i64 b, .string t]]) ∧ xs.length ≤ 25 ∧ plSm xs ∧ (-1001 ≤ a ∧ a ≤ 1001) ∧ (-1001 ≤ b ∧ b ≤ 1001) ∧ t.size ≤ 100 ∧ SOwn encMark w' w.heap.size 40 (some ⟨g, 0, none⟩) cp xs ∧ Below w.heap.size w w'
theorem blk3_a08 {w : World} {C : Nat} {x0 x1 x2 v : Value} {t : TypeId} (h : w.heap[C]? = some (.cells #[x0, x1, x2] t (0, 0))) : (w.setCell ⟨C, 0, none⟩ v).heap[C]? = some (.cells #[v, x1, x2] t (0, 0)) := by
  have hlt := blk_lt h
  have h' : w.heap[C] = .cells #[x0, x1, x2] t (0, 0) := by simpa [Array.getElem?_eq_getElem hlt] using h
  show (w.heap.modify C _)[C]? = _
  rw [Array.getElem?_eq_getElem (by simpa using hlt), Array.getElem_modify_self, h']
  rfl
theorem blk3_a18 {w : World} {C : Nat} {x0 x1 x2 v : Value} {t : TypeId} (h : w.heap[C]? = some (.cells #[x0, x1, x2] t (0, 0))) : (w.setCell ⟨C, 1, none⟩ v).heap[C]? = some (.cells #[x0, v, x2] t (0, 0)) := by
  have hlt := blk_lt h
  have h' : w.heap[C] = .cells #[x0, x1, x2] t (0, 0) := by simpa [Array.getElem?_eq_getElem hlt] using h
  show (w.heap.modify C _)[C]? = _
  rw [Array.getElem?_eq_getElem (by simpa using hlt), Array.getElem_modify_self, h']
  rfl
theorem fieldT8 (a b : Int) (t : ByteArray) (w : World) : (Instr.field 40 (.agg #[.int .i64 a, .int .i64 b, .string t]) 1).run Try.prog w = .ok (.string t) w := by kernel_rfl
/-- A store into another block. -/
theorem own_far9 {α : Type} {E : Enc α} {w : World} {base k g : Nat} {T : TypeId} {cap : Nat} {xs : List α} (h : SOwn E w base T (some ⟨g, 0, none⟩) cap xs) (hk : k ≠ g) (a b : Value) : SOwn E ((w.setCell ⟨k, 0, none⟩ a).setCell ⟨k, 1, none⟩ b) base T (some ⟨g, 0, none⟩) cap xs := by
  have hg : w.grownBy ((w.setCell ⟨k, 0, none⟩ a).setCell ⟨k, 1, none⟩ b) (some k) := setAll_grown [a, b] 0 (⟨rfl, rfl, rfl, Nat.le_refl _, fun _ _ _ => rfl⟩ : w.grownBy w (some k))
  exact h.grown_far hg (fun g9 e9 e => by cases e9; cases e; exact hk rfl)
theorem own_far93 {α : Type} {E : Enc α} {w : World} {base k g : Nat} {T : TypeId} {cap : Nat} {xs : List α} (h : SOwn E w base T (some ⟨g, 0, none⟩) cap xs) (hk : k ≠ g) (a b c : Value) : SOwn E (((w.setCell ⟨k, 0, none⟩ a).setCell ⟨k, 1, none⟩ b).setCell ⟨k, 2, none⟩ c) base T (some ⟨g, 0, none⟩) cap xs := by
  have hg : w.grownBy (((w.setCell ⟨k, 0, none⟩ a).setCell ⟨k, 1, none⟩ b).setCell ⟨k, 2, none⟩ c) (some k) := setAll_grown [a, b, c] 0 (⟨rfl, rfl, rfl, Nat.le_refl _, fun _ _ _ => rfl⟩ : w.grownBy w (some k))
  exact h.grown_far hg (fun g9 e9 e => by cases e9; cases e; exact hk rfl)
set_option maxRecDepth 100000 in
set_option maxHeartbeats 4000000 in
theorem drPlateDrop_any (a : Option Addr) (len cap : Nat) (w : World) (h : CodeOk w a len cap) : Calls Try.prog 22 #[.slice a len cap] w (DrewPT w) := by
  go_enter Try.func22, Try.ntmps22
  go_wp2_with fail
  refine (open_any _ _ _ _ h).mono ?_; rintro e w1 ⟨B, rfl, hB, h1, hb1⟩
  go_wp2_with fail
  refine (plate_any B 0 9 _ h1 (by omega) (by omega) (by omega)).mono ?_; rintro e w2 ⟨xs, g, cp, rfl, hl, hs, hO2, h2, hx2⟩
  have hBlt1 := h1.lt
  have hz1 := hb1.size
  have hz2 := hx2.size
  obtain ⟨m, hm⟩ : ∃ m, xs.length = m := ⟨_, rfl⟩
  rw [hm] at hl
  have HM := Lib.hid hm
  rw [HM.out]
  have HS := Lib.hid hs
  clear hs hm
  by_cases hm0 : 0 < m
  · have hm0i : (0 : Int) < (m : Int) := by omega
    go_wp2_with fail
    refine (pick_any B _ 3 _ h2 (by omega) (by omega) (by omega)).mono ?_; rintro e w3 ⟨q, rfl, q0, q1, h3, hx3⟩
    have hO3 := hO2.ext hx3 hBlt1
    have hz3 := hx3.size
    by_cases g0 : 0 < q
    · go_wp2_with fail
      have hR_0 : RdU B (0 + 80 + 1) w3.drew := h3
      have hE_0 : Ext B w3 w3.drew := ⟨rfl, rfl, rfl, Nat.le_refl _, fun _ _ _ => rfl⟩
      have hO3 : SOwn encMark w3.drew w1.heap.size 40 (some ⟨g, 0, none⟩) cp xs := hO3.drew
      refine wp_region_held_drew (S := AnyW) (by kernel_rfl) AnyW.mk (fun hHeld => ?_)
      clear hHeld
      refine wpAnyH_take (i := 0) (oi := _) (v := ?_) rfl (by kernel_rfl) (by kernel_rfl) (by kernel_rfl) (fun _ _ _ h => h) (Or.inl ⟨by rfl, ?_⟩) AnyW.mk ?_
      (rotate_left); (focus (intro wv hSw; clear hSw; go_simp; (try with_reducible rfl)))
      try simp only [Act.put, List.getElem_toArray, List.getElem_cons_succ, List.getElem_cons_zero, List.setIfInBounds_toArray, List.set_cons_zero, List.set_cons_succ]
      refine wpAnyH_take (i := 1) (oi := _) (v := ?_) rfl (by kernel_rfl) (by kernel_rfl) (by kernel_rfl) (fun _ _ _ h => h) (Or.inl ⟨by rfl, ?_⟩) AnyW.mk ?_
      (rotate_left); (focus (intro wv hSw; clear hSw; go_simp; (try with_reducible rfl)))
      try simp only [Act.put, List.getElem_toArray, List.getElem_cons_succ, List.getElem_cons_zero, List.setIfInBounds_toArray, List.set_cons_zero, List.set_cons_succ]
      refine wpAnyH_take (i := 2) (oi := _) (v := ?_) rfl (by kernel_rfl) (by kernel_rfl) (by kernel_rfl) (fun _ _ _ h => h) (Or.inl ⟨by rfl, ?_⟩) AnyW.mk ?_
      (rotate_left); (focus (intro wv hSw; clear hSw; go_simp; (try with_reducible rfl)))
      try simp only [Act.put, List.getElem_toArray, List.getElem_cons_succ, List.getElem_cons_zero, List.setIfInBounds_toArray, List.set_cons_zero, List.set_cons_succ]
      refine wpAnyH_take (i := 3) (oi := _) (v := ?_) rfl (by kernel_rfl) (by kernel_rfl) (by kernel_rfl) (fun _ _ _ h => h) (Or.inl ⟨by rfl, ?_⟩) AnyW.mk ?_
      (rotate_left); (focus (intro wv hSw; clear hSw; go_simp; (try with_reducible rfl)))
      try simp only [Act.put, List.getElem_toArray, List.getElem_cons_succ, List.getElem_cons_zero, List.setIfInBounds_toArray, List.set_cons_zero, List.set_cons_succ]
      refine wpAnyH_take (i := 4) (oi := _) (v := ?_) rfl (by kernel_rfl) (by kernel_rfl) (by kernel_rfl) (fun _ _ _ h => h) (Or.inl ⟨by rfl, ?_⟩) AnyW.mk ?_
      (rotate_left); (focus (intro wv hSw; clear hSw; go_simp; (try with_reducible rfl)))
      try simp only [Act.put, List.getElem_toArray, List.getElem_cons_succ, List.getElem_cons_zero, List.setIfInBounds_toArray, List.set_cons_zero, List.set_cons_succ]
      refine wpAnyH_ready (rs := [5]) (by kernel_rfl) (by simp) ?_
      refine AllReadyH.cons (o := _) rfl (fun K hK => ?_) (AllReadyH.nil)
      go_simp
      (go_at_call 37; refine (pick_any B _ (m : Int) _ hR_0 (by omega) (by omega) (by omega)).mono ?_; rintro e x0c ⟨j, rfl, j0, j1, hR_0c, hx_0c⟩)
      refine hK.out _ _ AnyW.mk (fun hHeld => ?_)
      clear hHeld hK K
      try simp only [Act.put, List.getElem_toArray, List.getElem_cons_succ, List.getElem_cons_zero, List.setIfInBounds_toArray, List.set_cons_zero, List.set_cons_succ]
      have hE_0c := hE_0.trans hx_0c
      have hO_0c := hO3.ext hx_0c hBlt1
      have hj : j.toNat < xs.length := by rw [HM.out]; omega
      obtain ⟨u0, u1, u2⟩ := ownMark hO_0c hj
      have hjm : j.toNat < m := by omega
      have hsj := HS.out xs[j.toNat] (List.getElem_mem hj)
      refine wpAnyH_take (i := 6) (oi := _) (v := ?_) rfl (by kernel_rfl) (by kernel_rfl) (by kernel_rfl) (fun _ _ _ h => h) (Or.inl ⟨by rfl, ?_⟩) AnyW.mk ?_
      (rotate_left); (focus (intro wv hSw; clear hSw; go_simp; (try with_reducible rfl)))
      try simp only [Act.put, List.getElem_toArray, List.getElem_cons_succ, List.getElem_cons_zero, List.setIfInBounds_toArray, List.set_cons_zero, List.set_cons_succ]
      refine wpAnyH_take (i := 7) (oi := _) (v := ?_) rfl (by kernel_rfl) (by kernel_rfl) (by kernel_rfl) (fun _ _ _ h => h) (Or.inl ⟨by rfl, ?_⟩) AnyW.mk ?_
      (rotate_left); (focus (intro wv hSw; clear hSw; go_simp; (try with_reducible rfl)))
      try simp only [Act.put, List.getElem_toArray, List.getElem_cons_succ, List.getElem_cons_zero, List.setIfInBounds_toArray, List.set_cons_zero, List.set_cons_succ]
      refine wpAnyH_take (i := 9) (oi := _) (v := ?_) rfl (by kernel_rfl) (by kernel_rfl) (by kernel_rfl) (fun _ _ _ h => h) (Or.inl ⟨by rfl, ?_⟩) AnyW.mk ?_
      (rotate_left); (focus (intro wv hSw; clear hSw; go_simp; (try with_reducible rfl)))
      try simp only [Act.put, List.getElem_toArray, List.getElem_cons_succ, List.getElem_cons_zero, List.setIfInBounds_toArray, List.set_cons_zero, List.set_cons_succ]
      refine wpAnyH_ready (rs := [8]) (by kernel_rfl) (by simp) ?_
      refine AllReadyH.cons (o := _) rfl (fun K hK => ?_) (AllReadyH.nil)
      go_simp
      refine hK.out _ _ AnyW.mk (fun hHeld => ?_)
      clear hHeld hK K
      try simp only [Act.put, List.getElem_toArray, List.getElem_cons_succ, List.getElem_cons_zero, List.setIfInBounds_toArray, List.set_cons_zero, List.set_cons_succ]
      have hR_0cl := hR_0c
      have hE_0cl := hE_0c
      refine wpAnyH_take (i := 10) (oi := _) (v := ?_) rfl (by kernel_rfl) (by kernel_rfl) (by kernel_rfl) (fun _ _ _ h => h) (Or.inl ⟨by rfl, ?_⟩) AnyW.mk ?_
      (rotate_left); (focus (intro wv hSw; clear hSw; go_simp; (try with_reducible rfl)))
      try simp only [Act.put, List.getElem_toArray, List.getElem_cons_succ, List.getElem_cons_zero, List.setIfInBounds_toArray, List.set_cons_zero, List.set_cons_succ]
      refine wpAnyH_done (by kernel_rfl) ?_ _
      go_wp2
      exact bodyPost_ret (v := .tuple #[.slice (some ⟨g, 0, none⟩) m cp, .string xs[j.toNat].2.2]) (by simp [results, Try.results22, go_sem]) rfl ⟨xs, g, cp, xs[j.toNat].2.2, by rw [HM.out], by rw [HM.out]; exact hl, HS.out, hsj.2.2, hO_0c.mono hz1, hb1.trans (((hx2.trans hx3).trans hE_0c).below hB hz1)⟩
    · go_wp2_with fail
      refine (mark_any B _ _ h3 (by omega)).mono ?_; rintro e w4 ⟨a4, b4, t4, rfl, a0, a1, b0, b1, s1, h4, hx4⟩
      have hf8 := fieldT8 a4 b4 t4 w4
      go_wp2
      exact bodyPost_ret (v := .tuple #[.slice (some ⟨g, 0, none⟩) m cp, .string t4]) (by simp [results, Try.results22, go_sem]) rfl ⟨xs, g, cp, t4, by rw [HM.out], by rw [HM.out]; exact hl, HS.out, s1, (hO3.ext hx4 hBlt1).mono hz1, hb1.trans (((hx2.trans hx3).trans hx4).below hB hz1)⟩
  · have hm1 : ¬ (0 : Int) < (m : Int) := by omega
    go_wp2_with fail
    refine (mark_any B _ _ h2 (by omega)).mono ?_; rintro e w4 ⟨a4, b4, t4, rfl, a0, a1, b0, b1, s1, h4, hx4⟩
    have hf8 := fieldT8 a4 b4 t4 w4
    go_wp2
    exact bodyPost_ret (v := .tuple #[.slice (some ⟨g, 0, none⟩) m cp, .string t4]) (by simp [results, Try.results22, go_sem]) rfl ⟨xs, g, cp, t4, by rw [HM.out], by rw [HM.out]; exact hl, HS.out, s1, (hO2.ext hx4 hBlt1).mono hz1, hb1.trans ((hx2.trans hx4).below hB hz1)⟩
set_option maxRecDepth 100000 in
set_option maxHeartbeats 4000000 in
theorem drPlatePut_any (a : Option Addr) (len cap : Nat) (w : World) (h : CodeOk w a len cap) : Calls Try.prog 16 #[.slice a len cap] w (DrewPM w) := by
  go_enter Try.func16, Try.ntmps16
  go_wp2_with fail
  refine (open_any _ _ _ _ (code_below h (bel1 _ _))).mono ?_; rintro e w1 ⟨B, rfl, hB, h1, hb1⟩
  obtain ⟨hH1, hB1⟩ := ownb hb1
  have hz1 := blk_lt hH1
  have hB' : w.heap.size < B := by simp at hB; omega
  have hBlt1 := h1.lt
  clear hB
  go_wp2_with fail
  refine (plate_any B 0 9 _ h1 (by omega) (by omega) (by omega)).mono ?_; rintro e w2 ⟨xs, g, cp, rfl, hl, hs, hO2, h2, hx2⟩
  have hz2 := hx2.size
  obtain ⟨m, hm⟩ : ∃ m, xs.length = m := ⟨_, rfl⟩
  rw [hm] at hl
  have HM := Lib.hid hm
  rw [HM.out]
  have HS := Lib.hid hs
  clear hs hm
  go_wp2_with fail
  refine (mark_any B _ _ h2 (by omega)).mono ?_; rintro e w3 ⟨a3, b3, t3, rfl, a30, a31, b30, b31, s31, h3, hx3⟩
  have hO3 := hO2.ext hx3 hBlt1
  have hz3 := hx3.size
  have hgr := hO3.form
  have hg1 : w1.heap.size ≤ g ∧ g < w3.heap.size := by rcases hgr with ⟨e9, _⟩ | ⟨g9, e9, h8, h9⟩; cases e9; cases e9; exact ⟨h8, h9⟩
  clear hgr
  obtain ⟨hg1, hg2⟩ := hg1
  have hX3 := hx2.trans hx3
  have hH3 := blk_ext hH1 hX3 (by omega)
  have h4 := h3.alloc (.cells #[.int .i64 a3, .int .i64 b3, .string t3] 40)
  have hO4 := hO3.alloc (.cells #[.int .i64 a3, .int .i64 b3, .string t3] 40)
  have hX4 := hX3.alloc (.cells #[.int .i64 a3, .int .i64 b3, .string t3] 40)
  have hH4 := blk_old hH3 (.cells #[.int .i64 a3, .int .i64 b3, .string t3] 40)
  have hC4 := blk_new w3 (.cells #[.int .i64 a3, .int .i64 b3, .string t3] 40)
  by_cases hm0 : 0 < m
  · have hm0i : (0 : Int) < (m : Int) := by omega
    go_wp2_with fail
    refine (pick_any B _ 6 _ h4 (by omega) (by omega) (by omega)).mono ?_; rintro e w5 ⟨q, rfl, q0, q1, h5, hx5⟩
    have hO5 := hO4.ext hx5 hBlt1
    have hX5 := hX4.trans hx5
    have hH5 := blk_ext hH4 hx5 (by omega)
    have hC5 := blk_ext hC4 hx5 (by have := h3.lt; omega)
    have hz5 := hx5.size
    by_cases g0 : q = 0
    · subst g0
      have hj : 0 < xs.length := by rw [HM.out]; exact hm0
      obtain ⟨u0, u1, u2⟩ := ownMark hO5 hj
      have hsj := HS.out xs[0] (List.getElem_mem hj)
      rw [Nat.zero_mul] at u0 u1 u2
      rw [Nat.zero_add] at u1 u2
      generalize xs[0] = v at u0 u1 u2 hsj
      obtain ⟨v0, v1, v2⟩ := v
      dsimp only at u0 u1 u2 hsj
      obtain ⟨k0, k1, k2, kf0, kf1, kf2, kz⟩ := blk3 hC5
      go_wp2_with fail
      have hC6 := blk3_a18 (v := .int .i64 v1) (blk3_a08 (v := .int .i64 v0) hC5)
      have hH6 := blk_store2 hH5 (show w.heap.size ≠ w3.heap.size by omega) (.int .i64 v0) (.int .i64 v1)
      have hO6 := own_far9 hO5 (show w3.heap.size ≠ g by omega) (.int .i64 v0) (.int .i64 v1)
      have h6 := h5
      have hX6 : Below w.heap.size w ((w5.setCell ⟨w3.heap.size, 0, none⟩ (.int .i64 v0)).setCell ⟨w3.heap.size, 1, none⟩ (.int .i64 v1)) := store2_bel (hB1.trans (hX5.below (N := w.heap.size) (by omega) (by omega))) (by omega) _ _
      have hC8 : ((w5.setCell ⟨w3.heap.size, 0, none⟩ (.int .i64 v0)).setCell ⟨w3.heap.size, 1, none⟩ (.int .i64 v1)).drew.heap[w3.heap.size]? = some (.cells #[.int .i64 v0, .int .i64 v1, .string t3] 40) := hC6
      have hH8 : ((w5.setCell ⟨w3.heap.size, 0, none⟩ (.int .i64 v0)).setCell ⟨w3.heap.size, 1, none⟩ (.int .i64 v1)).drew.heap[w.heap.size]? = some (.cells #[.int .i64 0, .int .i64 0, .string ⟨#[]⟩] 40) := hH6
      have hO8 : SOwn encMark ((w5.setCell ⟨w3.heap.size, 0, none⟩ (.int .i64 v0)).setCell ⟨w3.heap.size, 1, none⟩ (.int .i64 v1)).drew w1.heap.size 40 (some ⟨g, 0, none⟩) cp xs := hO6.drew
      have hX8 : Below w.heap.size w ((w5.setCell ⟨w3.heap.size, 0, none⟩ (.int .i64 v0)).setCell ⟨w3.heap.size, 1, none⟩ (.int .i64 v1)).drew := hX6.drew
      obtain ⟨c0, c1, c2, cf0, cf1, cf2, cz⟩ := blk3 hC6
      obtain ⟨d0, d1, d2, df0, df1, df2, dz⟩ := blk3 hH6
      have hH7 := blk3_put (a := .int .i64 v0) (b := .int .i64 v1) (c := .string t3) hH6
      obtain ⟨i0, i1, i2, _, _, _, _⟩ := blk3 hH7
      have hH9 := blk3_put (a := .int .i64 v0) (b := .int .i64 v1) (c := .string t3) hH8
      obtain ⟨e0, e1, e2, _, _, _, _⟩ := blk3 hH9
      have hR_0 := h6
      have hE_0 : True := trivial
      refine wp_region_held_drew (S := AnyW) (by kernel_rfl) AnyW.mk (fun hHeld => ?_)
      clear hHeld
      refine wpAnyH_take (i := 0) (oi := _) (v := ?_) rfl (by kernel_rfl) (by kernel_rfl) (by kernel_rfl) (fun _ _ _ h => h) (Or.inl ⟨by rfl, ?_⟩) AnyW.mk ?_
      (rotate_left); (focus (intro wv hSw; clear hSw; go_simp; (try with_reducible rfl)))
      try simp only [Act.put, List.getElem_toArray, List.getElem_cons_succ, List.getElem_cons_zero, List.setIfInBounds_toArray, List.set_cons_zero, List.set_cons_succ]
      refine wpAnyH_take (i := 2) (oi := _) (v := ?_) rfl (by kernel_rfl) (by kernel_rfl) (by kernel_rfl) (fun _ _ _ h => h) (Or.inl ⟨by rfl, ?_⟩) AnyW.mk ?_
      (rotate_left); (focus (intro wv hSw; clear hSw; go_simp; (try with_reducible rfl)))
      try simp only [Act.put, List.getElem_toArray, List.getElem_cons_succ, List.getElem_cons_zero, List.setIfInBounds_toArray, List.set_cons_zero, List.set_cons_succ]
      refine wpAnyH_ready (rs := [1]) (by kernel_rfl) (by simp) ?_
      refine AllReadyH.cons (o := _) rfl (fun K hK => ?_) (AllReadyH.nil)
      go_simp
      refine hK.out _ _ AnyW.mk (fun hHeld => ?_)
      clear hHeld hK K
      try simp only [Act.put, List.getElem_toArray, List.getElem_cons_succ, List.getElem_cons_zero, List.setIfInBounds_toArray, List.set_cons_zero, List.set_cons_succ]
      have hR_0l := hR_0
      have hE_0l := hE_0
      refine wpAnyH_ready (rs := [3]) (by kernel_rfl) (by simp) ?_
      refine AllReadyH.cons (o := _) rfl (fun K hK => ?_) (AllReadyH.nil)
      go_simp
      refine hK.out _ _ AnyW.mk (fun hHeld => ?_)
      clear hHeld hK K
      try simp only [Act.put, List.getElem_toArray, List.getElem_cons_succ, List.getElem_cons_zero, List.setIfInBounds_toArray, List.set_cons_zero, List.set_cons_succ]
      have hR_0ll := hR_0l
      have hE_0ll := hE_0l
      refine wpAnyH_done (by kernel_rfl) ?_ _
      have hO9 := own_far93 (k := w.heap.size) hO8 (by omega) (.int .i64 v0) (.int .i64 v1) (.string t3)
      go_wp2
      exact bodyPost_ret (v := .tuple #[.slice (some ⟨g, 0, none⟩) m cp, .agg #[.int .i64 v0, .int .i64 v1, .string t3]]) (by simp [results, Try.results16, go_sem, e0, e1, e2, i0, i1, i2]) rfl ⟨xs, g, cp, v0, v1, t3, by rw [HM.out], by rw [HM.out]; exact hl, HS.out, hsj.1, hsj.2.1, s31, hO9.mono (by omega), store3_bel hX8 (Nat.le_refl _) _ _ _⟩
    · have d1 : (q == 0) = false := by rw [beq_eq_false_iff_ne]; exact g0
      clear g0
      go_wp2_with fail
      have hC8 : w5.drew.heap[w3.heap.size]? = some (.cells #[.int .i64 a3, .int .i64 b3, .string t3] 40) := hC5
      have hH8 : w5.drew.heap[w.heap.size]? = some (.cells #[.int .i64 0, .int .i64 0, .string ⟨#[]⟩] 40) := hH5
      have hO8 : SOwn encMark w5.drew w1.heap.size 40 (some ⟨g, 0, none⟩) cp xs := hO5.drew
      have hX8 : Below w.heap.size w w5.drew := (hB1.trans (hX5.below (N := w.heap.size) (by omega) (by omega))).drew
      obtain ⟨c0, c1, c2, cf0, cf1, cf2, cz⟩ := blk3 hC5
      obtain ⟨d0, d1, d2, df0, df1, df2, dz⟩ := blk3 hH5
      have hH7 := blk3_put (a := .int .i64 a3) (b := .int .i64 b3) (c := .string t3) hH5
      obtain ⟨i0, i1, i2, _, _, _, _⟩ := blk3 hH7
      have hH9 := blk3_put (a := .int .i64 a3) (b := .int .i64 b3) (c := .string t3) hH8
      obtain ⟨e0, e1, e2, _, _, _, _⟩ := blk3 hH9
      have hR_0 := h5
      have hE_0 : True := trivial
      refine wp_region_held_drew (S := AnyW) (by kernel_rfl) AnyW.mk (fun hHeld => ?_)
      clear hHeld
      refine wpAnyH_take (i := 0) (oi := _) (v := ?_) rfl (by kernel_rfl) (by kernel_rfl) (by kernel_rfl) (fun _ _ _ h => h) (Or.inl ⟨by rfl, ?_⟩) AnyW.mk ?_
      (rotate_left); (focus (intro wv hSw; clear hSw; go_simp; (try with_reducible rfl)))
      try simp only [Act.put, List.getElem_toArray, List.getElem_cons_succ, List.getElem_cons_zero, List.setIfInBounds_toArray, List.set_cons_zero, List.set_cons_succ]
      refine wpAnyH_take (i := 2) (oi := _) (v := ?_) rfl (by kernel_rfl) (by kernel_rfl) (by kernel_rfl) (fun _ _ _ h => h) (Or.inl ⟨by rfl, ?_⟩) AnyW.mk ?_
      (rotate_left); (focus (intro wv hSw; clear hSw; go_simp; (try with_reducible rfl)))
      try simp only [Act.put, List.getElem_toArray, List.getElem_cons_succ, List.getElem_cons_zero, List.setIfInBounds_toArray, List.set_cons_zero, List.set_cons_succ]
      refine wpAnyH_ready (rs := [1]) (by kernel_rfl) (by simp) ?_
      refine AllReadyH.cons (o := _) rfl (fun K hK => ?_) (AllReadyH.nil)
      go_simp
      refine hK.out _ _ AnyW.mk (fun hHeld => ?_)
      clear hHeld hK K
      try simp only [Act.put, List.getElem_toArray, List.getElem_cons_succ, List.getElem_cons_zero, List.setIfInBounds_toArray, List.set_cons_zero, List.set_cons_succ]
      have hR_0l := hR_0
      have hE_0l := hE_0
      refine wpAnyH_ready (rs := [3]) (by kernel_rfl) (by simp) ?_
      refine AllReadyH.cons (o := _) rfl (fun K hK => ?_) (AllReadyH.nil)
      go_simp
      refine hK.out _ _ AnyW.mk (fun hHeld => ?_)
      clear hHeld hK K
      try simp only [Act.put, List.getElem_toArray, List.getElem_cons_succ, List.getElem_cons_zero, List.setIfInBounds_toArray, List.set_cons_zero, List.set_cons_succ]
      have hR_0ll := hR_0l
      have hE_0ll := hE_0l
      refine wpAnyH_done (by kernel_rfl) ?_ _
      have hO9 := own_far93 (k := w.heap.size) hO8 (by omega) (.int .i64 a3) (.int .i64 b3) (.string t3)
      go_wp2
      exact bodyPost_ret (v := .tuple #[.slice (some ⟨g, 0, none⟩) m cp, .agg #[.int .i64 a3, .int .i64 b3, .string t3]]) (by simp [results, Try.results16, go_sem, e0, e1, e2, i0, i1, i2]) rfl ⟨xs, g, cp, a3, b3, t3, by rw [HM.out], by rw [HM.out]; exact hl, HS.out, ⟨a30, a31⟩, ⟨b30, b31⟩, s31, hO9.mono (by omega), store3_bel hX8 (Nat.le_refl _) _ _ _⟩
  · have hm1 : ¬ (0 : Int) < (m : Int) := by omega
    go_wp2_with fail
    have hC8 : (w3.alloc (.cells #[.int .i64 a3, .int .i64 b3, .string t3] 40)).drew.heap[w3.heap.size]? = some (.cells #[.int .i64 a3, .int .i64 b3, .string t3] 40) := hC4
    have hH8 : (w3.alloc (.cells #[.int .i64 a3, .int .i64 b3, .string t3] 40)).drew.heap[w.heap.size]? = some (.cells #[.int .i64 0, .int .i64 0, .string ⟨#[]⟩] 40) := hH4
    have hO8 : SOwn encMark (w3.alloc (.cells #[.int .i64 a3, .int .i64 b3, .string t3] 40)).drew w1.heap.size 40 (some ⟨g, 0, none⟩) cp xs := hO4.drew
    have hX8 : Below w.heap.size w (w3.alloc (.cells #[.int .i64 a3, .int .i64 b3, .string t3] 40)).drew := (hB1.trans (hX4.below (N := w.heap.size) (by omega) (by omega))).drew
    obtain ⟨c0, c1, c2, cf0, cf1, cf2, cz⟩ := blk3 hC4
    obtain ⟨d0, d1, d2, df0, df1, df2, dz⟩ := blk3 hH4
    have hH7 := blk3_put (a := .int .i64 a3) (b := .int .i64 b3) (c := .string t3) hH4
    obtain ⟨i0, i1, i2, _, _, _, _⟩ := blk3 hH7
    have hH9 := blk3_put (a := .int .i64 a3) (b := .int .i64 b3) (c := .string t3) hH8
    obtain ⟨e0, e1, e2, _, _, _, _⟩ := blk3 hH9
    have hR_0 := h4
    have hE_0 : True := trivial
    refine wp_region_held_drew (S := AnyW) (by kernel_rfl) AnyW.mk (fun hHeld => ?_)
    clear hHeld
    refine wpAnyH_take (i := 0) (oi := _) (v := ?_) rfl (by kernel_rfl) (by kernel_rfl) (by kernel_rfl) (fun _ _ _ h => h) (Or.inl ⟨by rfl, ?_⟩) AnyW.mk ?_
    (rotate_left); (focus (intro wv hSw; clear hSw; go_simp; (try with_reducible rfl)))
    try simp only [Act.put, List.getElem_toArray, List.getElem_cons_succ, List.getElem_cons_zero, List.setIfInBounds_toArray, List.set_cons_zero, List.set_cons_succ]
    refine wpAnyH_take (i := 2) (oi := _) (v := ?_) rfl (by kernel_rfl) (by kernel_rfl) (by kernel_rfl) (fun _ _ _ h => h) (Or.inl ⟨by rfl, ?_⟩) AnyW.mk ?_
    (rotate_left); (focus (intro wv hSw; clear hSw; go_simp; (try with_reducible rfl)))
    try simp only [Act.put, List.getElem_toArray, List.getElem_cons_succ, List.getElem_cons_zero, List.setIfInBounds_toArray, List.set_cons_zero, List.set_cons_succ]
    refine wpAnyH_ready (rs := [1]) (by kernel_rfl) (by simp) ?_
    refine AllReadyH.cons (o := _) rfl (fun K hK => ?_) (AllReadyH.nil)
    go_simp
    refine hK.out _ _ AnyW.mk (fun hHeld => ?_)
    clear hHeld hK K
    try simp only [Act.put, List.getElem_toArray, List.getElem_cons_succ, List.getElem_cons_zero, List.setIfInBounds_toArray, List.set_cons_zero, List.set_cons_succ]
    have hR_0l := hR_0
    have hE_0l := hE_0
    refine wpAnyH_ready (rs := [3]) (by kernel_rfl) (by simp) ?_
    refine AllReadyH.cons (o := _) rfl (fun K hK => ?_) (AllReadyH.nil)
    go_simp
    refine hK.out _ _ AnyW.mk (fun hHeld => ?_)
    clear hHeld hK K
    try simp only [Act.put, List.getElem_toArray, List.getElem_cons_succ, List.getElem_cons_zero, List.setIfInBounds_toArray, List.set_cons_zero, List.set_cons_succ]
    have hR_0ll := hR_0l
    have hE_0ll := hE_0l
    refine wpAnyH_done (by kernel_rfl) ?_ _
    have hO9 := own_far93 (k := w.heap.size) hO8 (by omega) (.int .i64 a3) (.int .i64 b3) (.string t3)
    go_wp2
    exact bodyPost_ret (v := .tuple #[.slice (some ⟨g, 0, none⟩) m cp, .agg #[.int .i64 a3, .int .i64 b3, .string t3]]) (by simp [results, Try.results16, go_sem, e0, e1, e2, i0, i1, i2]) rfl ⟨xs, g, cp, a3, b3, t3, by rw [HM.out], by rw [HM.out]; exact hl, HS.out, ⟨a30, a31⟩, ⟨b30, b31⟩, s31, hO9.mono (by omega), store3_bel hX8 (Nat.le_refl _) _ _ _⟩
end Go.Proofs.Ytidppabconifkab
