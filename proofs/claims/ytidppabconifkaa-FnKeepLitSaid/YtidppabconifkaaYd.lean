/- Cities that are drawn. -/
import Derived.Test.YtidppabconifkaaZd
import Derived.Test.YtidppabconifkaaGNum
import Derived.Test.YtidppabconifkaaYk
namespace Go.Proofs.Ytidppabconifkaa
open Go Go.ChangeShapes Go.WideShapes Go.ChangeAt Go.RowKit
set_option linter.unusedSimpArgs false
set_option linter.unusedVariables false

def CityIs (B : Nat) (u : Int) (w : World) (e : Ending) (w' : World) : Prop :=
  ∃ (d : Int) (xs : List Int) (A : Option Addr) (cap : Nat), e = .returned (.agg #[.int .i64 d, .slice A xs.length cap]) ∧ (0 ≤ d ∧ d ≤ 6) ∧ xs.length ≤ 37 ∧ SOwn encNum w' w.heap.size 3 A cap xs ∧ RdU B u w' ∧ Ext B w w'
theorem SOwn.far2Y {α : Type} {E : Enc α} {w : World} {base b cap : Nat} {T : TypeId} {A : Option Addr} {xs : List α} (h : SOwn E w base T A cap xs) (hb : b < base) (u v : Value) : SOwn E ((w.setCell ⟨b, 0, none⟩ u).setCell ⟨b, 1, none⟩ v) base T A cap xs := by
  have hg : w.grownBy ((w.setCell ⟨b, 0, none⟩ u).setCell ⟨b, 1, none⟩ v) (some b) := setAll_grown [u, v] 0 ⟨rfl, rfl, rfl, Nat.le_refl _, fun _ _ _ => rfl⟩
  refine h.grown_far hg (fun g hg e => ?_)
  rcases h.form with ⟨rfl, _⟩ | ⟨g1, rfl, h1, _⟩
  · cases hg
  · simp at hg e; omega
/-- A store into a box of another type. -/
theorem SOwn.boxY {α : Type} {E : Enc α} {w : World} {base b i cap : Nat} {T T' : TypeId} {A : Option Addr} {xs : List α} {c : Array Value} {z : Nat × Nat} (h : SOwn E w base T A cap xs) (hk : w.heap[b]? = some (.cells c T' z)) (hT : T ≠ T') (v : Value) : SOwn E (w.setCell ⟨b, i, none⟩ v) base T A cap xs :=
  h.grown_far (row := some b) (setAll_grown [v] i ⟨rfl, rfl, rfl, Nat.le_refl _, fun _ _ _ => rfl⟩) (fun g hg e => by
    have := SOwn.ne_typeC (n := 0) h hk hT
    rw [hg] at this; simp [Value.ownBlock] at this e; exact this e.symm)
theorem sq36 {d : Int} (h0 : 1 ≤ d) (h1 : d ≤ 6) : 1 ≤ d * d ∧ d * d ≤ 36 := by
  have : d = 1 ∨ d = 2 ∨ d = 3 ∨ d = 4 ∨ d = 5 ∨ d = 6 := by omega
  rcases this with rfl | rfl | rfl | rfl | rfl | rfl <;> decide
theorem q2c {c : Int} (h0 : 0 ≤ c) (h1 : c < 3) : 0 ≤ c.tdiv 2 ∧ c.tdiv 2 ≤ 1 := by rw [Int.tdiv_eq_ediv_of_nonneg h0]; omega
set_option maxRecDepth 100000 in
set_option maxHeartbeats 8000000 in
theorem city_any (B : Nat) (u n : Int) (w : World) (h : RdU B u w) (hu : u ≤ 600000) (hn : 0 ≤ n) (hn1 : n ≤ 1000000) : Calls Try.prog 45 #[.pointer (some ⟨B, 0, none⟩), .int .i64 n] w (CityIs B (u + 130) w) := by
  have hBw := h.lt
  obtain ⟨i0, hi0, hz0, hz1, hz2⟩ := info_parts infoNum
  have HI := Lib.hid (And.intro hi0 (And.intro hz0 (And.intro hz1 hz2)))
  clear hi0 hz0 hz1 hz2
  go_enter Try.func45, Try.ntmps45
  go_wp2_with fail
  refine (pick_any B u 6 _ (h.alloc _) (by omega) (by omega) (by omega)).mono ?_; rintro e w1 ⟨a, rfl, a0, a1, h1, hx1⟩
  obtain ⟨d, hd⟩ : ∃ d, 1 + a = d := ⟨_, rfl⟩
  have d0 : 1 ≤ d := by omega
  have d1 : d ≤ 6 := by omega
  obtain ⟨dd0, dd1⟩ := sq36 d0 d1
  have hZ1 := blk_ext (blk_new w (.cells #[.int .i64 0, .slice none 0 0] 25)) hx1 (by omega)
  have hX1 := ((Ext.refl B w).alloc (.cells #[.int .i64 0, .slice none 0 0] 25)).trans hx1
  have hB1 := h1.lt
  have hz1 := hX1.size
  have hzR := blk_lt hZ1
  go_wp2_with fail
  refine (pick_any B _ 20 _ (h1.alloc _) (by omega) (by omega) (by omega)).mono ?_; rintro e w2 ⟨t, rfl, t0, t1, h2, hx2⟩
  have hC2 := blk_ext (blk_new w1 (.cells #[.int .i64 d, .slice none 0 0] 25)) hx2 (by omega)
  have hZ2 := blk_ext (blk_old hZ1 (.cells #[.int .i64 d, .slice none 0 0] 25)) hx2 (by omega)
  have hX2 := (hX1.alloc (.cells #[.int .i64 d, .slice none 0 0] 25)).trans hx2
  have hCB : w1.heap.size ≠ B := by omega
  have hCR : w1.heap.size ≠ w.heap.size := by omega
  have hRB : w.heap.size ≠ B := by omega
  generalize w1.heap.size = C at *
  clear hx1 hx2 hZ1 hX1 h1
  go_wp2_with fail
  go_loopw [7] (fun kv wr => ∃ (k cv : Nat) (V : Option Addr) (xs : List Int), kv = .int .i64 k ∧ (k : Int) ≤ d * d ∧ Hid (xs.length = k) ∧ wr.heap[C]? = some (.cells #[.int .i64 d, .slice V k cv] 25) ∧ wr.heap[w.heap.size]? = some (.cells #[.int .i64 0, .slice none 0 0] 25) ∧ SOwn encNum wr (w.heap.size + 1) 3 V cv xs ∧ RdU B (u + 2 + 3 * k) wr ∧ Ext B w wr) (fun kv _ => (36 - intOf kv).toNat)
  case atStart => exact ⟨0, 0, none, [], rfl, by omega, (by show _ = _; rfl), hC2, hZ2, SOwn.nil _ _ _, h2.mono (by omega), hX2⟩
  case round =>
    clear hC2 hZ2 h2 hX2
    obtain ⟨k, cv, V, xs, rfl, k1, HN, hC_0, hZ_0, hO_0, hR_0, hX_0⟩ := hrel
    obtain ⟨c0_, c1_, f0_, f1_, _⟩ := blk2 hC_0
    have hk36 : k ≤ 36 := by omega
    by_cases hlt : (k : Int) < d * d
    · go_wp2_with fail
      have htw : IntKind.i64.wrap (1 + t + 1) = 1 + t + 1 := IntWalk.i64_in _ (by omega)
      have htt : (1 : Int) + t + 1 = t + 2 := by omega
      clear htt
      refine wp_region_held_drew (S := (fun _ => True)) (by kernel_rfl) trivial (fun hHeld => ?_)
      clear hHeld
      have hC_0 := blk_drw hC_0
      have hZ_0 := blk_drw hZ_0
      have hO_0 := hO_0.drew
      have hR_0 := hR_0.drw
      have hX_0 := hX_0.drw
      refine wpAnyH_take (i := 0) (oi := _) (v := ?_) rfl (by kernel_rfl) (by kernel_rfl) (by kernel_rfl) (fun _ _ _ h => h) (Or.inl ⟨by rfl, ?_⟩) trivial ?_
      (rotate_left); (focus (intro wv hSw; clear hSw; go_simp; (try with_reducible rfl)))
      try simp only [Act.put, List.getElem_toArray, List.getElem_cons_succ, List.getElem_cons_zero, List.setIfInBounds_toArray, List.set_cons_zero, List.set_cons_succ]
      refine wpAnyH_take (i := 2) (oi := _) (v := ?_) rfl (by kernel_rfl) (by kernel_rfl) (by kernel_rfl) (fun _ _ _ h => h) (Or.inl ⟨by rfl, ?_⟩) trivial ?_
      (rotate_left); (focus (intro wv hSw; clear hSw; go_simp; (try with_reducible rfl)))
      try simp only [Act.put, List.getElem_toArray, List.getElem_cons_succ, List.getElem_cons_zero, List.setIfInBounds_toArray, List.set_cons_zero, List.set_cons_succ]
      refine wpAnyH_take (i := 3) (oi := _) (v := ?_) rfl (by kernel_rfl) (by kernel_rfl) (by kernel_rfl) (fun _ _ _ h => h) (Or.inl ⟨by rfl, ?_⟩) trivial ?_
      (rotate_left); (focus (intro wv hSw; clear hSw; go_simp; (try with_reducible rfl)))
      try simp only [Act.put, List.getElem_toArray, List.getElem_cons_succ, List.getElem_cons_zero, List.setIfInBounds_toArray, List.set_cons_zero, List.set_cons_succ]
      refine wpAnyH_take (i := 4) (oi := _) (v := ?_) rfl (by kernel_rfl) (by kernel_rfl) (by kernel_rfl) (fun _ _ _ h => h) (Or.inl ⟨by rfl, ?_⟩) trivial ?_
      (rotate_left); (focus (intro wv hSw; clear hSw; go_simp; (try with_reducible rfl)))
      try simp only [Act.put, List.getElem_toArray, List.getElem_cons_succ, List.getElem_cons_zero, List.setIfInBounds_toArray, List.set_cons_zero, List.set_cons_succ]
      refine wpAnyH_take (i := 6) (oi := _) (v := ?_) rfl (by kernel_rfl) (by kernel_rfl) (by kernel_rfl) (fun _ _ _ h => h) (Or.inl ⟨by rfl, ?_⟩) trivial ?_
      (rotate_left); (focus (intro wv hSw; clear hSw; go_simp; (try with_reducible rfl)))
      try simp only [Act.put, List.getElem_toArray, List.getElem_cons_succ, List.getElem_cons_zero, List.setIfInBounds_toArray, List.set_cons_zero, List.set_cons_succ]
      refine wpAnyH_take (i := 9) (oi := _) (v := ?_) rfl (by kernel_rfl) (by kernel_rfl) (by kernel_rfl) (fun _ _ _ h => h) (Or.inl ⟨by rfl, ?_⟩) trivial ?_
      (rotate_left); (focus (intro wv hSw; clear hSw; go_simp; (try with_reducible rfl)))
      try simp only [Act.put, List.getElem_toArray, List.getElem_cons_succ, List.getElem_cons_zero, List.setIfInBounds_toArray, List.set_cons_zero, List.set_cons_succ]
      refine wpAnyH_ready (rs := [1, 5]) (by kernel_rfl) (by simp) ?_
      refine AllReadyH.cons (o := _) rfl (fun K hK => ?_) (AllReadyH.cons (o := _) rfl (fun K hK => ?_) (AllReadyH.nil))
      · obtain ⟨_, _, _, _, _⟩ := blk2 hC_0
        go_simp
        refine hK.out _ _ trivial (fun hHeld => ?_)
        clear hHeld hK K
        try simp only [Act.put, List.getElem_toArray, List.getElem_cons_succ, List.getElem_cons_zero, List.setIfInBounds_toArray, List.set_cons_zero, List.set_cons_succ]
        refine wpAnyH_ready (rs := [5]) (by kernel_rfl) (by simp) ?_
        refine AllReadyH.cons (o := _) rfl (fun K hK => ?_) (AllReadyH.nil)
        go_simp
        (go_at_call 64; refine (pick_any B _ (1 + t + 1) _ hR_0 (by omega) (by omega) (by omega)).mono ?_; rintro e x0c ⟨a9, rfl, a90, a91, hR_0c, hx_0c⟩)
        refine hK.out _ _ trivial (fun hHeld => ?_)
        clear hHeld hK K
        try simp only [Act.put, List.getElem_toArray, List.getElem_cons_succ, List.getElem_cons_zero, List.setIfInBounds_toArray, List.set_cons_zero, List.set_cons_succ]
        have hC_0c := blk_ext hC_0 hx_0c hCB
        have hZ_0c := blk_ext hZ_0 hx_0c hRB
        have hO_0c := hO_0.extK hx_0c (by omega)
        have hX_0c := hX_0.trans hx_0c
        refine wpAnyH_ready (rs := [7]) (by kernel_rfl) (by simp) ?_
        refine AllReadyH.cons (o := _) rfl (fun K hK => ?_) (AllReadyH.nil)
        go_simp
        (go_at_call 64; refine (pick_any B _ 3 _ hR_0c (by omega) (by omega) (by omega)).mono ?_; rintro e x0cc ⟨c9, rfl, c90, c91, hR_0cc, hx_0cc⟩)
        refine hK.out _ _ trivial (fun hHeld => ?_)
        clear hHeld hK K
        try simp only [Act.put, List.getElem_toArray, List.getElem_cons_succ, List.getElem_cons_zero, List.setIfInBounds_toArray, List.set_cons_zero, List.set_cons_succ]
        have hC_0cc := blk_ext hC_0c hx_0cc hCB
        have hZ_0cc := blk_ext hZ_0c hx_0cc hRB
        have hO_0cc := hO_0c.extK hx_0cc (by omega)
        have hX_0cc := hX_0c.trans hx_0cc
        obtain ⟨qq0, qq1⟩ := q2c c90 c91
        obtain ⟨q, hq⟩ : ∃ q, Int.tdiv c9 2 = q := ⟨_, rfl⟩
        rw [hq] at qq0 qq1
        have hqd : c9 / 2 = q := by rw [← hq, Int.tdiv_eq_ediv_of_nonneg c90]
        have hqw : IntKind.i64.wrap q = q := IntWalk.i64_in _ (by omega)
        refine wpAnyH_take (i := 8) (oi := _) (v := ?_) rfl (by kernel_rfl) (by kernel_rfl) (by kernel_rfl) (fun _ _ _ h => h) (Or.inl ⟨by rfl, ?_⟩) trivial ?_
        (rotate_left); (focus (intro wv hSw; clear hSw; go_simp; (try with_reducible rfl)))
        try simp only [Act.put, List.getElem_toArray, List.getElem_cons_succ, List.getElem_cons_zero, List.setIfInBounds_toArray, List.set_cons_zero, List.set_cons_succ]
        refine wpAnyH_ready (rs := [10]) (by kernel_rfl) (by simp) ?_
        refine AllReadyH.cons (o := _) rfl (fun K hK => ?_) (AllReadyH.nil)
        go_simp
        (go_at_call 64; refine (pick_any B _ 2 _ hR_0cc (by omega) (by omega) (by omega)).mono ?_; rintro e x0ccc ⟨e9, rfl, e90, e91, hR_0ccc, hx_0ccc⟩)
        refine hK.out _ _ trivial (fun hHeld => ?_)
        clear hHeld hK K
        try simp only [Act.put, List.getElem_toArray, List.getElem_cons_succ, List.getElem_cons_zero, List.setIfInBounds_toArray, List.set_cons_zero, List.set_cons_succ]
        have hC_0ccc := blk_ext hC_0cc hx_0ccc hCB
        have hZ_0ccc := blk_ext hZ_0cc hx_0ccc hRB
        have hO_0ccc := hO_0cc.extK hx_0ccc (by omega)
        have hX_0ccc := hX_0cc.trans hx_0ccc
        obtain ⟨s, hs⟩ : ∃ s, q + e9 = s := ⟨_, rfl⟩
        have s0 : 0 ≤ s := by omega
        have s1 : s ≤ 2 := by omega
        obtain ⟨p, hp⟩ : ∃ p, a9 * s = p := ⟨_, rfl⟩
        have p0 : 0 ≤ p := by rw [← hp]; exact Int.mul_nonneg a90 s0
        have p1 : p ≤ 22 * 2 := by rw [← hp]; exact Int.mul_le_mul (by omega) (by omega) s0 (by omega)
        obtain ⟨v, hv⟩ : ∃ v, Int.tmod p 21 = v := ⟨_, rfl⟩
        have hvm : p % 21 = v := by rw [← hv, Int.tmod_eq_emod_of_nonneg p0]
        have v0 : 0 ≤ v ∧ v ≤ 20 := by omega
        have hsw : IntKind.i64.wrap s = s := IntWalk.i64_in _ (by omega)
        have hpw : IntKind.i64.wrap p = p := IntWalk.i64_in _ (by omega)
        have hvw : IntKind.i64.wrap v = v := IntWalk.i64_in _ (by omega)
        obtain ⟨v0, v1⟩ := v0
        refine wpAnyH_take (i := 11) (oi := _) (v := ?_) rfl (by kernel_rfl) (by kernel_rfl) (by kernel_rfl) (fun _ _ _ h => h) (Or.inl ⟨by rfl, ?_⟩) trivial ?_
        (rotate_left); (focus (intro wv hSw; clear hSw; go_simp; (try with_reducible rfl)))
        try simp only [Act.put, List.getElem_toArray, List.getElem_cons_succ, List.getElem_cons_zero, List.setIfInBounds_toArray, List.set_cons_zero, List.set_cons_succ]
        refine wpAnyH_take (i := 12) (oi := _) (v := ?_) rfl (by kernel_rfl) (by kernel_rfl) (by kernel_rfl) (fun _ _ _ h => h) (Or.inl ⟨by rfl, ?_⟩) trivial ?_
        (rotate_left); (focus (intro wv hSw; clear hSw; go_simp; (try with_reducible rfl)))
        try simp only [Act.put, List.getElem_toArray, List.getElem_cons_succ, List.getElem_cons_zero, List.setIfInBounds_toArray, List.set_cons_zero, List.set_cons_succ]
        refine wpAnyH_take (i := 13) (oi := _) (v := ?_) rfl (by kernel_rfl) (by kernel_rfl) (by kernel_rfl) (fun _ _ _ h => h) (Or.inl ⟨by rfl, ?_⟩) trivial ?_
        (rotate_left); (focus (intro wv hSw; clear hSw; go_simp; (try with_reducible rfl)))
        try simp only [Act.put, List.getElem_toArray, List.getElem_cons_succ, List.getElem_cons_zero, List.setIfInBounds_toArray, List.set_cons_zero, List.set_cons_succ]
        refine wpAnyH_ready (rs := [14]) (by kernel_rfl) (by simp) ?_
        refine AllReadyH.cons (o := _) rfl (fun K hK => ?_) (AllReadyH.nil)
        go_simp
        refine hK.out _ _ trivial (fun hHeld => ?_)
        clear hHeld hK K
        try simp only [Act.put, List.getElem_toArray, List.getElem_cons_succ, List.getElem_cons_zero, List.setIfInBounds_toArray, List.set_cons_zero, List.set_cons_succ]
        have hz9 := hX_0ccc.size
        have hB9 := hR_0ccc.lt
        have hOa := hO_0ccc.alloc (.cells (encNum.enc (v)).toArray 3)
        refine wpAnyH_ready (rs := [15]) (by kernel_rfl) (by simp) ?_
        refine AllReadyH.cons (o := _) rfl (fun K hK => ?_) AllReadyH.nil
        rw [if_pos (by kernel_rfl)]
        refine wp_append_lies _ (.tmp 25) (.tmp 38) _ rfl (w.heap.size + 1) 3 i0 _ 1 8 Try.underlying23 HI.out.1 HI.out.2.1 HI.out.2.2.1 HI.out.2.2.2 rfl (by omega) (.slice V k cv) k (encNum.flat xs) rfl (by unfold SOwn at hOa; rw [HN.out] at hOa; exact hOa) ⟨x0ccc.heap.size, 0, none⟩ 1 1 (encNum.enc (v)) rfl rfl (new_enc (E := encNum) x0ccc (v) _) (encNum.one _) (by omega) (by simp only [maxLen]; omega) (by omega) (by simp; omega) _ rfl ?_; intro g5 cap5 w5 hown5 hgr5 hat5 hlt5
        refine hK.out _ _ trivial (fun hHeld => ?_)
        clear hHeld hK K
        try simp only [Act.put, List.getElem_toArray, List.getElem_cons_succ, List.getElem_cons_zero, List.setIfInBounds_toArray, List.set_cons_zero, List.set_cons_succ]
        have hneT := SOwn.ne_typeC (n := k) hOa (blk_old hC_0ccc (.cells (encNum.enc v).toArray 3)) (by decide)
        have hne : ∀ j, Value.ownBlock (.slice V k cv) = some j → B < j := fun j hj => by have := SOwn.ge_baseK hOa j hj; omega
        have hR5 := (hR_0ccc.alloc (.cells (encNum.enc v).toArray 3)).farK hgr5 hne
        have hX5 := (hX_0ccc.alloc (.cells (encNum.enc v).toArray 3)).far_grownK hgr5 (fun j hj => by have := SOwn.ge_baseK hOa j hj; omega)
        have hC5 := blk_grownC (blk_old hC_0ccc (.cells (encNum.enc v).toArray 3)) hgr5 hneT
        have hZ5 := blk_grownC (blk_old hZ_0ccc (.cells (encNum.enc v).toArray 3)) hgr5 (fun e9 => by have := SOwn.ge_baseK hOa _ e9; omega)
        have hO5 := SOwn.snoc (E := encNum) (xs := xs) (x := v) (by rw [HN.out]; exact hown5)
        obtain ⟨_, _, fc0, fc1, _⟩ := blk2 hC5
        refine wpAnyH_take (i := 16) (oi := _) (v := ?_) rfl (by kernel_rfl) (by kernel_rfl) (by kernel_rfl) (fun _ _ _ h => h) (Or.inl ⟨by rfl, ?_⟩) trivial ?_
        (rotate_left); (focus (intro wv hSw; clear hSw; go_simp; (try with_reducible rfl)))
        try simp only [Act.put, List.getElem_toArray, List.getElem_cons_succ, List.getElem_cons_zero, List.setIfInBounds_toArray, List.set_cons_zero, List.set_cons_succ]
        refine wpAnyH_ready (rs := [17]) (by kernel_rfl) (by simp) ?_
        refine AllReadyH.cons (o := _) rfl (fun K hK => ?_) AllReadyH.nil
        go_simp
        refine hK.out _ _ trivial (fun hHeld => ?_)
        clear hHeld hK K
        try simp only [Act.put, List.getElem_toArray, List.getElem_cons_succ, List.getElem_cons_zero, List.setIfInBounds_toArray, List.set_cons_zero, List.set_cons_succ]
        refine wpAnyH_done (by kernel_rfl) ?_ _
        have hC6 := blk2_set1 (b := .slice (some ⟨g5, 0, none⟩) (k + 1) cap5) hC5
        have hZ6 := blk_setOther (i := 1) hZ5 (Ne.symm hCR) (.slice (some ⟨g5, 0, none⟩) (k + 1) cap5)
        have hO6 := SOwn.boxY (i := 1) hO5 hC5 (by decide) (.slice (some ⟨g5, 0, none⟩) (k + 1) cap5)
        have hR6 := hR5.setOther (C := C) (i := 1) (by omega) (.slice (some ⟨g5, 0, none⟩) (k + 1) cap5)
        have hX6 := hX5.setNew (C := C) (by omega) 1 (.slice (some ⟨g5, 0, none⟩) (k + 1) cap5)
        clear htw hq hqd hqw hs hp hv hvm hsw hpw hvw
        go_wp2_with fail
        go_roundw
        case rel => exact ⟨k + 1, cap5, some ⟨g5, 0, none⟩, xs ++ [v], by go_num, by push_cast; omega, Lib.hid (by rw [List.length_append, HN.out]; rfl), hC6, hZ6, hO6, hR6.mono (by push_cast; omega), hX6⟩
        case measure => simp [intOf]; omega
      · go_simp
        (go_at_call 64; refine (pick_any B _ (1 + t + 1) _ hR_0 (by omega) (by omega) (by omega)).mono ?_; rintro e x0c ⟨a9, rfl, a90, a91, hR_0c, hx_0c⟩)
        refine hK.out _ _ trivial (fun hHeld => ?_)
        clear hHeld hK K
        try simp only [Act.put, List.getElem_toArray, List.getElem_cons_succ, List.getElem_cons_zero, List.setIfInBounds_toArray, List.set_cons_zero, List.set_cons_succ]
        have hC_0c := blk_ext hC_0 hx_0c hCB
        have hZ_0c := blk_ext hZ_0 hx_0c hRB
        have hO_0c := hO_0.extK hx_0c (by omega)
        have hX_0c := hX_0.trans hx_0c
        refine wpAnyH_ready (rs := [1, 7]) (by kernel_rfl) (by simp) ?_
        refine AllReadyH.cons (o := _) rfl (fun K hK => ?_) (AllReadyH.cons (o := _) rfl (fun K hK => ?_) (AllReadyH.nil))
        · obtain ⟨_, _, _, _, _⟩ := blk2 hC_0c
          go_simp
          refine hK.out _ _ trivial (fun hHeld => ?_)
          clear hHeld hK K
          try simp only [Act.put, List.getElem_toArray, List.getElem_cons_succ, List.getElem_cons_zero, List.setIfInBounds_toArray, List.set_cons_zero, List.set_cons_succ]
          refine wpAnyH_ready (rs := [7]) (by kernel_rfl) (by simp) ?_
          refine AllReadyH.cons (o := _) rfl (fun K hK => ?_) (AllReadyH.nil)
          go_simp
          (go_at_call 64; refine (pick_any B _ 3 _ hR_0c (by omega) (by omega) (by omega)).mono ?_; rintro e x0cc ⟨c9, rfl, c90, c91, hR_0cc, hx_0cc⟩)
          refine hK.out _ _ trivial (fun hHeld => ?_)
          clear hHeld hK K
          try simp only [Act.put, List.getElem_toArray, List.getElem_cons_succ, List.getElem_cons_zero, List.setIfInBounds_toArray, List.set_cons_zero, List.set_cons_succ]
          have hC_0cc := blk_ext hC_0c hx_0cc hCB
          have hZ_0cc := blk_ext hZ_0c hx_0cc hRB
          have hO_0cc := hO_0c.extK hx_0cc (by omega)
          have hX_0cc := hX_0c.trans hx_0cc
          obtain ⟨qq0, qq1⟩ := q2c c90 c91
          obtain ⟨q, hq⟩ : ∃ q, Int.tdiv c9 2 = q := ⟨_, rfl⟩
          rw [hq] at qq0 qq1
          have hqd : c9 / 2 = q := by rw [← hq, Int.tdiv_eq_ediv_of_nonneg c90]
          have hqw : IntKind.i64.wrap q = q := IntWalk.i64_in _ (by omega)
          refine wpAnyH_take (i := 8) (oi := _) (v := ?_) rfl (by kernel_rfl) (by kernel_rfl) (by kernel_rfl) (fun _ _ _ h => h) (Or.inl ⟨by rfl, ?_⟩) trivial ?_
          (rotate_left); (focus (intro wv hSw; clear hSw; go_simp; (try with_reducible rfl)))
          try simp only [Act.put, List.getElem_toArray, List.getElem_cons_succ, List.getElem_cons_zero, List.setIfInBounds_toArray, List.set_cons_zero, List.set_cons_succ]
          refine wpAnyH_ready (rs := [10]) (by kernel_rfl) (by simp) ?_
          refine AllReadyH.cons (o := _) rfl (fun K hK => ?_) (AllReadyH.nil)
          go_simp
          (go_at_call 64; refine (pick_any B _ 2 _ hR_0cc (by omega) (by omega) (by omega)).mono ?_; rintro e x0ccc ⟨e9, rfl, e90, e91, hR_0ccc, hx_0ccc⟩)
          refine hK.out _ _ trivial (fun hHeld => ?_)
          clear hHeld hK K
          try simp only [Act.put, List.getElem_toArray, List.getElem_cons_succ, List.getElem_cons_zero, List.setIfInBounds_toArray, List.set_cons_zero, List.set_cons_succ]
          have hC_0ccc := blk_ext hC_0cc hx_0ccc hCB
          have hZ_0ccc := blk_ext hZ_0cc hx_0ccc hRB
          have hO_0ccc := hO_0cc.extK hx_0ccc (by omega)
          have hX_0ccc := hX_0cc.trans hx_0ccc
          obtain ⟨s, hs⟩ : ∃ s, q + e9 = s := ⟨_, rfl⟩
          have s0 : 0 ≤ s := by omega
          have s1 : s ≤ 2 := by omega
          obtain ⟨p, hp⟩ : ∃ p, a9 * s = p := ⟨_, rfl⟩
          have p0 : 0 ≤ p := by rw [← hp]; exact Int.mul_nonneg a90 s0
          have p1 : p ≤ 22 * 2 := by rw [← hp]; exact Int.mul_le_mul (by omega) (by omega) s0 (by omega)
          obtain ⟨v, hv⟩ : ∃ v, Int.tmod p 21 = v := ⟨_, rfl⟩
          have hvm : p % 21 = v := by rw [← hv, Int.tmod_eq_emod_of_nonneg p0]
          have v0 : 0 ≤ v ∧ v ≤ 20 := by omega
          have hsw : IntKind.i64.wrap s = s := IntWalk.i64_in _ (by omega)
          have hpw : IntKind.i64.wrap p = p := IntWalk.i64_in _ (by omega)
          have hvw : IntKind.i64.wrap v = v := IntWalk.i64_in _ (by omega)
          obtain ⟨v0, v1⟩ := v0
          refine wpAnyH_take (i := 11) (oi := _) (v := ?_) rfl (by kernel_rfl) (by kernel_rfl) (by kernel_rfl) (fun _ _ _ h => h) (Or.inl ⟨by rfl, ?_⟩) trivial ?_
          (rotate_left); (focus (intro wv hSw; clear hSw; go_simp; (try with_reducible rfl)))
          try simp only [Act.put, List.getElem_toArray, List.getElem_cons_succ, List.getElem_cons_zero, List.setIfInBounds_toArray, List.set_cons_zero, List.set_cons_succ]
          refine wpAnyH_take (i := 12) (oi := _) (v := ?_) rfl (by kernel_rfl) (by kernel_rfl) (by kernel_rfl) (fun _ _ _ h => h) (Or.inl ⟨by rfl, ?_⟩) trivial ?_
          (rotate_left); (focus (intro wv hSw; clear hSw; go_simp; (try with_reducible rfl)))
          try simp only [Act.put, List.getElem_toArray, List.getElem_cons_succ, List.getElem_cons_zero, List.setIfInBounds_toArray, List.set_cons_zero, List.set_cons_succ]
          refine wpAnyH_take (i := 13) (oi := _) (v := ?_) rfl (by kernel_rfl) (by kernel_rfl) (by kernel_rfl) (fun _ _ _ h => h) (Or.inl ⟨by rfl, ?_⟩) trivial ?_
          (rotate_left); (focus (intro wv hSw; clear hSw; go_simp; (try with_reducible rfl)))
          try simp only [Act.put, List.getElem_toArray, List.getElem_cons_succ, List.getElem_cons_zero, List.setIfInBounds_toArray, List.set_cons_zero, List.set_cons_succ]
          refine wpAnyH_ready (rs := [14]) (by kernel_rfl) (by simp) ?_
          refine AllReadyH.cons (o := _) rfl (fun K hK => ?_) (AllReadyH.nil)
          go_simp
          refine hK.out _ _ trivial (fun hHeld => ?_)
          clear hHeld hK K
          try simp only [Act.put, List.getElem_toArray, List.getElem_cons_succ, List.getElem_cons_zero, List.setIfInBounds_toArray, List.set_cons_zero, List.set_cons_succ]
          have hz9 := hX_0ccc.size
          have hB9 := hR_0ccc.lt
          have hOa := hO_0ccc.alloc (.cells (encNum.enc (v)).toArray 3)
          refine wpAnyH_ready (rs := [15]) (by kernel_rfl) (by simp) ?_
          refine AllReadyH.cons (o := _) rfl (fun K hK => ?_) AllReadyH.nil
          rw [if_pos (by kernel_rfl)]
          refine wp_append_lies _ (.tmp 25) (.tmp 38) _ rfl (w.heap.size + 1) 3 i0 _ 1 8 Try.underlying23 HI.out.1 HI.out.2.1 HI.out.2.2.1 HI.out.2.2.2 rfl (by omega) (.slice V k cv) k (encNum.flat xs) rfl (by unfold SOwn at hOa; rw [HN.out] at hOa; exact hOa) ⟨x0ccc.heap.size, 0, none⟩ 1 1 (encNum.enc (v)) rfl rfl (new_enc (E := encNum) x0ccc (v) _) (encNum.one _) (by omega) (by simp only [maxLen]; omega) (by omega) (by simp; omega) _ rfl ?_; intro g5 cap5 w5 hown5 hgr5 hat5 hlt5
          refine hK.out _ _ trivial (fun hHeld => ?_)
          clear hHeld hK K
          try simp only [Act.put, List.getElem_toArray, List.getElem_cons_succ, List.getElem_cons_zero, List.setIfInBounds_toArray, List.set_cons_zero, List.set_cons_succ]
          have hneT := SOwn.ne_typeC (n := k) hOa (blk_old hC_0ccc (.cells (encNum.enc v).toArray 3)) (by decide)
          have hne : ∀ j, Value.ownBlock (.slice V k cv) = some j → B < j := fun j hj => by have := SOwn.ge_baseK hOa j hj; omega
          have hR5 := (hR_0ccc.alloc (.cells (encNum.enc v).toArray 3)).farK hgr5 hne
          have hX5 := (hX_0ccc.alloc (.cells (encNum.enc v).toArray 3)).far_grownK hgr5 (fun j hj => by have := SOwn.ge_baseK hOa j hj; omega)
          have hC5 := blk_grownC (blk_old hC_0ccc (.cells (encNum.enc v).toArray 3)) hgr5 hneT
          have hZ5 := blk_grownC (blk_old hZ_0ccc (.cells (encNum.enc v).toArray 3)) hgr5 (fun e9 => by have := SOwn.ge_baseK hOa _ e9; omega)
          have hO5 := SOwn.snoc (E := encNum) (xs := xs) (x := v) (by rw [HN.out]; exact hown5)
          obtain ⟨_, _, fc0, fc1, _⟩ := blk2 hC5
          refine wpAnyH_take (i := 16) (oi := _) (v := ?_) rfl (by kernel_rfl) (by kernel_rfl) (by kernel_rfl) (fun _ _ _ h => h) (Or.inl ⟨by rfl, ?_⟩) trivial ?_
          (rotate_left); (focus (intro wv hSw; clear hSw; go_simp; (try with_reducible rfl)))
          try simp only [Act.put, List.getElem_toArray, List.getElem_cons_succ, List.getElem_cons_zero, List.setIfInBounds_toArray, List.set_cons_zero, List.set_cons_succ]
          refine wpAnyH_ready (rs := [17]) (by kernel_rfl) (by simp) ?_
          refine AllReadyH.cons (o := _) rfl (fun K hK => ?_) AllReadyH.nil
          go_simp
          refine hK.out _ _ trivial (fun hHeld => ?_)
          clear hHeld hK K
          try simp only [Act.put, List.getElem_toArray, List.getElem_cons_succ, List.getElem_cons_zero, List.setIfInBounds_toArray, List.set_cons_zero, List.set_cons_succ]
          refine wpAnyH_done (by kernel_rfl) ?_ _
          have hC6 := blk2_set1 (b := .slice (some ⟨g5, 0, none⟩) (k + 1) cap5) hC5
          have hZ6 := blk_setOther (i := 1) hZ5 (Ne.symm hCR) (.slice (some ⟨g5, 0, none⟩) (k + 1) cap5)
          have hO6 := SOwn.boxY (i := 1) hO5 hC5 (by decide) (.slice (some ⟨g5, 0, none⟩) (k + 1) cap5)
          have hR6 := hR5.setOther (C := C) (i := 1) (by omega) (.slice (some ⟨g5, 0, none⟩) (k + 1) cap5)
          have hX6 := hX5.setNew (C := C) (by omega) 1 (.slice (some ⟨g5, 0, none⟩) (k + 1) cap5)
          clear htw hq hqd hqw hs hp hv hvm hsw hpw hvw
          go_wp2_with fail
          go_roundw
          case rel => exact ⟨k + 1, cap5, some ⟨g5, 0, none⟩, xs ++ [v], by go_num, by push_cast; omega, Lib.hid (by rw [List.length_append, HN.out]; rfl), hC6, hZ6, hO6, hR6.mono (by push_cast; omega), hX6⟩
          case measure => simp [intOf]; omega
        · go_simp
          (go_at_call 64; refine (pick_any B _ 3 _ hR_0c (by omega) (by omega) (by omega)).mono ?_; rintro e x0cc ⟨c9, rfl, c90, c91, hR_0cc, hx_0cc⟩)
          refine hK.out _ _ trivial (fun hHeld => ?_)
          clear hHeld hK K
          try simp only [Act.put, List.getElem_toArray, List.getElem_cons_succ, List.getElem_cons_zero, List.setIfInBounds_toArray, List.set_cons_zero, List.set_cons_succ]
          have hC_0cc := blk_ext hC_0c hx_0cc hCB
          have hZ_0cc := blk_ext hZ_0c hx_0cc hRB
          have hO_0cc := hO_0c.extK hx_0cc (by omega)
          have hX_0cc := hX_0c.trans hx_0cc
          obtain ⟨qq0, qq1⟩ := q2c c90 c91
          obtain ⟨q, hq⟩ : ∃ q, Int.tdiv c9 2 = q := ⟨_, rfl⟩
          rw [hq] at qq0 qq1
          have hqd : c9 / 2 = q := by rw [← hq, Int.tdiv_eq_ediv_of_nonneg c90]
          have hqw : IntKind.i64.wrap q = q := IntWalk.i64_in _ (by omega)
          refine wpAnyH_take (i := 8) (oi := _) (v := ?_) rfl (by kernel_rfl) (by kernel_rfl) (by kernel_rfl) (fun _ _ _ h => h) (Or.inl ⟨by rfl, ?_⟩) trivial ?_
          (rotate_left); (focus (intro wv hSw; clear hSw; go_simp; (try with_reducible rfl)))
          try simp only [Act.put, List.getElem_toArray, List.getElem_cons_succ, List.getElem_cons_zero, List.setIfInBounds_toArray, List.set_cons_zero, List.set_cons_succ]
          refine wpAnyH_ready (rs := [1, 10]) (by kernel_rfl) (by simp) ?_
          refine AllReadyH.cons (o := _) rfl (fun K hK => ?_) (AllReadyH.cons (o := _) rfl (fun K hK => ?_) (AllReadyH.nil))
          · obtain ⟨_, _, _, _, _⟩ := blk2 hC_0cc
            go_simp
            refine hK.out _ _ trivial (fun hHeld => ?_)
            clear hHeld hK K
            try simp only [Act.put, List.getElem_toArray, List.getElem_cons_succ, List.getElem_cons_zero, List.setIfInBounds_toArray, List.set_cons_zero, List.set_cons_succ]
            refine wpAnyH_ready (rs := [10]) (by kernel_rfl) (by simp) ?_
            refine AllReadyH.cons (o := _) rfl (fun K hK => ?_) (AllReadyH.nil)
            go_simp
            (go_at_call 64; refine (pick_any B _ 2 _ hR_0cc (by omega) (by omega) (by omega)).mono ?_; rintro e x0ccc ⟨e9, rfl, e90, e91, hR_0ccc, hx_0ccc⟩)
            refine hK.out _ _ trivial (fun hHeld => ?_)
            clear hHeld hK K
            try simp only [Act.put, List.getElem_toArray, List.getElem_cons_succ, List.getElem_cons_zero, List.setIfInBounds_toArray, List.set_cons_zero, List.set_cons_succ]
            have hC_0ccc := blk_ext hC_0cc hx_0ccc hCB
            have hZ_0ccc := blk_ext hZ_0cc hx_0ccc hRB
            have hO_0ccc := hO_0cc.extK hx_0ccc (by omega)
            have hX_0ccc := hX_0cc.trans hx_0ccc
            obtain ⟨s, hs⟩ : ∃ s, q + e9 = s := ⟨_, rfl⟩
            have s0 : 0 ≤ s := by omega
            have s1 : s ≤ 2 := by omega
            obtain ⟨p, hp⟩ : ∃ p, a9 * s = p := ⟨_, rfl⟩
            have p0 : 0 ≤ p := by rw [← hp]; exact Int.mul_nonneg a90 s0
            have p1 : p ≤ 22 * 2 := by rw [← hp]; exact Int.mul_le_mul (by omega) (by omega) s0 (by omega)
            obtain ⟨v, hv⟩ : ∃ v, Int.tmod p 21 = v := ⟨_, rfl⟩
            have hvm : p % 21 = v := by rw [← hv, Int.tmod_eq_emod_of_nonneg p0]
            have v0 : 0 ≤ v ∧ v ≤ 20 := by omega
            have hsw : IntKind.i64.wrap s = s := IntWalk.i64_in _ (by omega)
            have hpw : IntKind.i64.wrap p = p := IntWalk.i64_in _ (by omega)
            have hvw : IntKind.i64.wrap v = v := IntWalk.i64_in _ (by omega)
            obtain ⟨v0, v1⟩ := v0
            refine wpAnyH_take (i := 11) (oi := _) (v := ?_) rfl (by kernel_rfl) (by kernel_rfl) (by kernel_rfl) (fun _ _ _ h => h) (Or.inl ⟨by rfl, ?_⟩) trivial ?_
            (rotate_left); (focus (intro wv hSw; clear hSw; go_simp; (try with_reducible rfl)))
            try simp only [Act.put, List.getElem_toArray, List.getElem_cons_succ, List.getElem_cons_zero, List.setIfInBounds_toArray, List.set_cons_zero, List.set_cons_succ]
            refine wpAnyH_take (i := 12) (oi := _) (v := ?_) rfl (by kernel_rfl) (by kernel_rfl) (by kernel_rfl) (fun _ _ _ h => h) (Or.inl ⟨by rfl, ?_⟩) trivial ?_
            (rotate_left); (focus (intro wv hSw; clear hSw; go_simp; (try with_reducible rfl)))
            try simp only [Act.put, List.getElem_toArray, List.getElem_cons_succ, List.getElem_cons_zero, List.setIfInBounds_toArray, List.set_cons_zero, List.set_cons_succ]
            refine wpAnyH_take (i := 13) (oi := _) (v := ?_) rfl (by kernel_rfl) (by kernel_rfl) (by kernel_rfl) (fun _ _ _ h => h) (Or.inl ⟨by rfl, ?_⟩) trivial ?_
            (rotate_left); (focus (intro wv hSw; clear hSw; go_simp; (try with_reducible rfl)))
            try simp only [Act.put, List.getElem_toArray, List.getElem_cons_succ, List.getElem_cons_zero, List.setIfInBounds_toArray, List.set_cons_zero, List.set_cons_succ]
            refine wpAnyH_ready (rs := [14]) (by kernel_rfl) (by simp) ?_
            refine AllReadyH.cons (o := _) rfl (fun K hK => ?_) (AllReadyH.nil)
            go_simp
            refine hK.out _ _ trivial (fun hHeld => ?_)
            clear hHeld hK K
            try simp only [Act.put, List.getElem_toArray, List.getElem_cons_succ, List.getElem_cons_zero, List.setIfInBounds_toArray, List.set_cons_zero, List.set_cons_succ]
            have hz9 := hX_0ccc.size
            have hB9 := hR_0ccc.lt
            have hOa := hO_0ccc.alloc (.cells (encNum.enc (v)).toArray 3)
            refine wpAnyH_ready (rs := [15]) (by kernel_rfl) (by simp) ?_
            refine AllReadyH.cons (o := _) rfl (fun K hK => ?_) AllReadyH.nil
            rw [if_pos (by kernel_rfl)]
            refine wp_append_lies _ (.tmp 25) (.tmp 38) _ rfl (w.heap.size + 1) 3 i0 _ 1 8 Try.underlying23 HI.out.1 HI.out.2.1 HI.out.2.2.1 HI.out.2.2.2 rfl (by omega) (.slice V k cv) k (encNum.flat xs) rfl (by unfold SOwn at hOa; rw [HN.out] at hOa; exact hOa) ⟨x0ccc.heap.size, 0, none⟩ 1 1 (encNum.enc (v)) rfl rfl (new_enc (E := encNum) x0ccc (v) _) (encNum.one _) (by omega) (by simp only [maxLen]; omega) (by omega) (by simp; omega) _ rfl ?_; intro g5 cap5 w5 hown5 hgr5 hat5 hlt5
            refine hK.out _ _ trivial (fun hHeld => ?_)
            clear hHeld hK K
            try simp only [Act.put, List.getElem_toArray, List.getElem_cons_succ, List.getElem_cons_zero, List.setIfInBounds_toArray, List.set_cons_zero, List.set_cons_succ]
            have hneT := SOwn.ne_typeC (n := k) hOa (blk_old hC_0ccc (.cells (encNum.enc v).toArray 3)) (by decide)
            have hne : ∀ j, Value.ownBlock (.slice V k cv) = some j → B < j := fun j hj => by have := SOwn.ge_baseK hOa j hj; omega
            have hR5 := (hR_0ccc.alloc (.cells (encNum.enc v).toArray 3)).farK hgr5 hne
            have hX5 := (hX_0ccc.alloc (.cells (encNum.enc v).toArray 3)).far_grownK hgr5 (fun j hj => by have := SOwn.ge_baseK hOa j hj; omega)
            have hC5 := blk_grownC (blk_old hC_0ccc (.cells (encNum.enc v).toArray 3)) hgr5 hneT
            have hZ5 := blk_grownC (blk_old hZ_0ccc (.cells (encNum.enc v).toArray 3)) hgr5 (fun e9 => by have := SOwn.ge_baseK hOa _ e9; omega)
            have hO5 := SOwn.snoc (E := encNum) (xs := xs) (x := v) (by rw [HN.out]; exact hown5)
            obtain ⟨_, _, fc0, fc1, _⟩ := blk2 hC5
            refine wpAnyH_take (i := 16) (oi := _) (v := ?_) rfl (by kernel_rfl) (by kernel_rfl) (by kernel_rfl) (fun _ _ _ h => h) (Or.inl ⟨by rfl, ?_⟩) trivial ?_
            (rotate_left); (focus (intro wv hSw; clear hSw; go_simp; (try with_reducible rfl)))
            try simp only [Act.put, List.getElem_toArray, List.getElem_cons_succ, List.getElem_cons_zero, List.setIfInBounds_toArray, List.set_cons_zero, List.set_cons_succ]
            refine wpAnyH_ready (rs := [17]) (by kernel_rfl) (by simp) ?_
            refine AllReadyH.cons (o := _) rfl (fun K hK => ?_) AllReadyH.nil
            go_simp
            refine hK.out _ _ trivial (fun hHeld => ?_)
            clear hHeld hK K
            try simp only [Act.put, List.getElem_toArray, List.getElem_cons_succ, List.getElem_cons_zero, List.setIfInBounds_toArray, List.set_cons_zero, List.set_cons_succ]
            refine wpAnyH_done (by kernel_rfl) ?_ _
            have hC6 := blk2_set1 (b := .slice (some ⟨g5, 0, none⟩) (k + 1) cap5) hC5
            have hZ6 := blk_setOther (i := 1) hZ5 (Ne.symm hCR) (.slice (some ⟨g5, 0, none⟩) (k + 1) cap5)
            have hO6 := SOwn.boxY (i := 1) hO5 hC5 (by decide) (.slice (some ⟨g5, 0, none⟩) (k + 1) cap5)
            have hR6 := hR5.setOther (C := C) (i := 1) (by omega) (.slice (some ⟨g5, 0, none⟩) (k + 1) cap5)
            have hX6 := hX5.setNew (C := C) (by omega) 1 (.slice (some ⟨g5, 0, none⟩) (k + 1) cap5)
            clear htw hq hqd hqw hs hp hv hvm hsw hpw hvw
            go_wp2_with fail
            go_roundw
            case rel => exact ⟨k + 1, cap5, some ⟨g5, 0, none⟩, xs ++ [v], by go_num, by push_cast; omega, Lib.hid (by rw [List.length_append, HN.out]; rfl), hC6, hZ6, hO6, hR6.mono (by push_cast; omega), hX6⟩
            case measure => simp [intOf]; omega
          · go_simp
            (go_at_call 64; refine (pick_any B _ 2 _ hR_0cc (by omega) (by omega) (by omega)).mono ?_; rintro e x0ccc ⟨e9, rfl, e90, e91, hR_0ccc, hx_0ccc⟩)
            refine hK.out _ _ trivial (fun hHeld => ?_)
            clear hHeld hK K
            try simp only [Act.put, List.getElem_toArray, List.getElem_cons_succ, List.getElem_cons_zero, List.setIfInBounds_toArray, List.set_cons_zero, List.set_cons_succ]
            have hC_0ccc := blk_ext hC_0cc hx_0ccc hCB
            have hZ_0ccc := blk_ext hZ_0cc hx_0ccc hRB
            have hO_0ccc := hO_0cc.extK hx_0ccc (by omega)
            have hX_0ccc := hX_0cc.trans hx_0ccc
            obtain ⟨s, hs⟩ : ∃ s, q + e9 = s := ⟨_, rfl⟩
            have s0 : 0 ≤ s := by omega
            have s1 : s ≤ 2 := by omega
            obtain ⟨p, hp⟩ : ∃ p, a9 * s = p := ⟨_, rfl⟩
            have p0 : 0 ≤ p := by rw [← hp]; exact Int.mul_nonneg a90 s0
            have p1 : p ≤ 22 * 2 := by rw [← hp]; exact Int.mul_le_mul (by omega) (by omega) s0 (by omega)
            obtain ⟨v, hv⟩ : ∃ v, Int.tmod p 21 = v := ⟨_, rfl⟩
            have hvm : p % 21 = v := by rw [← hv, Int.tmod_eq_emod_of_nonneg p0]
            have v0 : 0 ≤ v ∧ v ≤ 20 := by omega
            have hsw : IntKind.i64.wrap s = s := IntWalk.i64_in _ (by omega)
            have hpw : IntKind.i64.wrap p = p := IntWalk.i64_in _ (by omega)
            have hvw : IntKind.i64.wrap v = v := IntWalk.i64_in _ (by omega)
            obtain ⟨v0, v1⟩ := v0
            refine wpAnyH_take (i := 11) (oi := _) (v := ?_) rfl (by kernel_rfl) (by kernel_rfl) (by kernel_rfl) (fun _ _ _ h => h) (Or.inl ⟨by rfl, ?_⟩) trivial ?_
            (rotate_left); (focus (intro wv hSw; clear hSw; go_simp; (try with_reducible rfl)))
            try simp only [Act.put, List.getElem_toArray, List.getElem_cons_succ, List.getElem_cons_zero, List.setIfInBounds_toArray, List.set_cons_zero, List.set_cons_succ]
            refine wpAnyH_take (i := 12) (oi := _) (v := ?_) rfl (by kernel_rfl) (by kernel_rfl) (by kernel_rfl) (fun _ _ _ h => h) (Or.inl ⟨by rfl, ?_⟩) trivial ?_
            (rotate_left); (focus (intro wv hSw; clear hSw; go_simp; (try with_reducible rfl)))
            try simp only [Act.put, List.getElem_toArray, List.getElem_cons_succ, List.getElem_cons_zero, List.setIfInBounds_toArray, List.set_cons_zero, List.set_cons_succ]
            refine wpAnyH_take (i := 13) (oi := _) (v := ?_) rfl (by kernel_rfl) (by kernel_rfl) (by kernel_rfl) (fun _ _ _ h => h) (Or.inl ⟨by rfl, ?_⟩) trivial ?_
            (rotate_left); (focus (intro wv hSw; clear hSw; go_simp; (try with_reducible rfl)))
            try simp only [Act.put, List.getElem_toArray, List.getElem_cons_succ, List.getElem_cons_zero, List.setIfInBounds_toArray, List.set_cons_zero, List.set_cons_succ]
            refine wpAnyH_ready (rs := [1, 14]) (by kernel_rfl) (by simp) ?_
            refine AllReadyH.cons (o := _) rfl (fun K hK => ?_) (AllReadyH.cons (o := _) rfl (fun K hK => ?_) (AllReadyH.nil))
            · obtain ⟨_, _, _, _, _⟩ := blk2 hC_0ccc
              go_simp
              refine hK.out _ _ trivial (fun hHeld => ?_)
              clear hHeld hK K
              try simp only [Act.put, List.getElem_toArray, List.getElem_cons_succ, List.getElem_cons_zero, List.setIfInBounds_toArray, List.set_cons_zero, List.set_cons_succ]
              refine wpAnyH_ready (rs := [14]) (by kernel_rfl) (by simp) ?_
              refine AllReadyH.cons (o := _) rfl (fun K hK => ?_) (AllReadyH.nil)
              go_simp
              refine hK.out _ _ trivial (fun hHeld => ?_)
              clear hHeld hK K
              try simp only [Act.put, List.getElem_toArray, List.getElem_cons_succ, List.getElem_cons_zero, List.setIfInBounds_toArray, List.set_cons_zero, List.set_cons_succ]
              have hz9 := hX_0ccc.size
              have hB9 := hR_0ccc.lt
              have hOa := hO_0ccc.alloc (.cells (encNum.enc (v)).toArray 3)
              refine wpAnyH_ready (rs := [15]) (by kernel_rfl) (by simp) ?_
              refine AllReadyH.cons (o := _) rfl (fun K hK => ?_) AllReadyH.nil
              rw [if_pos (by kernel_rfl)]
              refine wp_append_lies _ (.tmp 25) (.tmp 38) _ rfl (w.heap.size + 1) 3 i0 _ 1 8 Try.underlying23 HI.out.1 HI.out.2.1 HI.out.2.2.1 HI.out.2.2.2 rfl (by omega) (.slice V k cv) k (encNum.flat xs) rfl (by unfold SOwn at hOa; rw [HN.out] at hOa; exact hOa) ⟨x0ccc.heap.size, 0, none⟩ 1 1 (encNum.enc (v)) rfl rfl (new_enc (E := encNum) x0ccc (v) _) (encNum.one _) (by omega) (by simp only [maxLen]; omega) (by omega) (by simp; omega) _ rfl ?_; intro g5 cap5 w5 hown5 hgr5 hat5 hlt5
              refine hK.out _ _ trivial (fun hHeld => ?_)
              clear hHeld hK K
              try simp only [Act.put, List.getElem_toArray, List.getElem_cons_succ, List.getElem_cons_zero, List.setIfInBounds_toArray, List.set_cons_zero, List.set_cons_succ]
              have hneT := SOwn.ne_typeC (n := k) hOa (blk_old hC_0ccc (.cells (encNum.enc v).toArray 3)) (by decide)
              have hne : ∀ j, Value.ownBlock (.slice V k cv) = some j → B < j := fun j hj => by have := SOwn.ge_baseK hOa j hj; omega
              have hR5 := (hR_0ccc.alloc (.cells (encNum.enc v).toArray 3)).farK hgr5 hne
              have hX5 := (hX_0ccc.alloc (.cells (encNum.enc v).toArray 3)).far_grownK hgr5 (fun j hj => by have := SOwn.ge_baseK hOa j hj; omega)
              have hC5 := blk_grownC (blk_old hC_0ccc (.cells (encNum.enc v).toArray 3)) hgr5 hneT
              have hZ5 := blk_grownC (blk_old hZ_0ccc (.cells (encNum.enc v).toArray 3)) hgr5 (fun e9 => by have := SOwn.ge_baseK hOa _ e9; omega)
              have hO5 := SOwn.snoc (E := encNum) (xs := xs) (x := v) (by rw [HN.out]; exact hown5)
              obtain ⟨_, _, fc0, fc1, _⟩ := blk2 hC5
              refine wpAnyH_take (i := 16) (oi := _) (v := ?_) rfl (by kernel_rfl) (by kernel_rfl) (by kernel_rfl) (fun _ _ _ h => h) (Or.inl ⟨by rfl, ?_⟩) trivial ?_
              (rotate_left); (focus (intro wv hSw; clear hSw; go_simp; (try with_reducible rfl)))
              try simp only [Act.put, List.getElem_toArray, List.getElem_cons_succ, List.getElem_cons_zero, List.setIfInBounds_toArray, List.set_cons_zero, List.set_cons_succ]
              refine wpAnyH_ready (rs := [17]) (by kernel_rfl) (by simp) ?_
              refine AllReadyH.cons (o := _) rfl (fun K hK => ?_) AllReadyH.nil
              go_simp
              refine hK.out _ _ trivial (fun hHeld => ?_)
              clear hHeld hK K
              try simp only [Act.put, List.getElem_toArray, List.getElem_cons_succ, List.getElem_cons_zero, List.setIfInBounds_toArray, List.set_cons_zero, List.set_cons_succ]
              refine wpAnyH_done (by kernel_rfl) ?_ _
              have hC6 := blk2_set1 (b := .slice (some ⟨g5, 0, none⟩) (k + 1) cap5) hC5
              have hZ6 := blk_setOther (i := 1) hZ5 (Ne.symm hCR) (.slice (some ⟨g5, 0, none⟩) (k + 1) cap5)
              have hO6 := SOwn.boxY (i := 1) hO5 hC5 (by decide) (.slice (some ⟨g5, 0, none⟩) (k + 1) cap5)
              have hR6 := hR5.setOther (C := C) (i := 1) (by omega) (.slice (some ⟨g5, 0, none⟩) (k + 1) cap5)
              have hX6 := hX5.setNew (C := C) (by omega) 1 (.slice (some ⟨g5, 0, none⟩) (k + 1) cap5)
              clear htw hq hqd hqw hs hp hv hvm hsw hpw hvw
              go_wp2_with fail
              go_roundw
              case rel => exact ⟨k + 1, cap5, some ⟨g5, 0, none⟩, xs ++ [v], by go_num, by push_cast; omega, Lib.hid (by rw [List.length_append, HN.out]; rfl), hC6, hZ6, hO6, hR6.mono (by push_cast; omega), hX6⟩
              case measure => simp [intOf]; omega
            · go_simp
              refine hK.out _ _ trivial (fun hHeld => ?_)
              clear hHeld hK K
              try simp only [Act.put, List.getElem_toArray, List.getElem_cons_succ, List.getElem_cons_zero, List.setIfInBounds_toArray, List.set_cons_zero, List.set_cons_succ]
              refine wpAnyH_ready (rs := [1]) (by kernel_rfl) (by simp) ?_
              refine AllReadyH.cons (o := _) rfl (fun K hK => ?_) (AllReadyH.nil)
              obtain ⟨_, _, _, _, _⟩ := blk2 hC_0ccc
              go_simp
              refine hK.out _ _ trivial (fun hHeld => ?_)
              clear hHeld hK K
              try simp only [Act.put, List.getElem_toArray, List.getElem_cons_succ, List.getElem_cons_zero, List.setIfInBounds_toArray, List.set_cons_zero, List.set_cons_succ]
              have hz9 := hX_0ccc.size
              have hB9 := hR_0ccc.lt
              have hOa := hO_0ccc.alloc (.cells (encNum.enc (v)).toArray 3)
              refine wpAnyH_ready (rs := [15]) (by kernel_rfl) (by simp) ?_
              refine AllReadyH.cons (o := _) rfl (fun K hK => ?_) AllReadyH.nil
              rw [if_pos (by kernel_rfl)]
              refine wp_append_lies _ (.tmp 25) (.tmp 38) _ rfl (w.heap.size + 1) 3 i0 _ 1 8 Try.underlying23 HI.out.1 HI.out.2.1 HI.out.2.2.1 HI.out.2.2.2 rfl (by omega) (.slice V k cv) k (encNum.flat xs) rfl (by unfold SOwn at hOa; rw [HN.out] at hOa; exact hOa) ⟨x0ccc.heap.size, 0, none⟩ 1 1 (encNum.enc (v)) rfl rfl (new_enc (E := encNum) x0ccc (v) _) (encNum.one _) (by omega) (by simp only [maxLen]; omega) (by omega) (by simp; omega) _ rfl ?_; intro g5 cap5 w5 hown5 hgr5 hat5 hlt5
              refine hK.out _ _ trivial (fun hHeld => ?_)
              clear hHeld hK K
              try simp only [Act.put, List.getElem_toArray, List.getElem_cons_succ, List.getElem_cons_zero, List.setIfInBounds_toArray, List.set_cons_zero, List.set_cons_succ]
              have hneT := SOwn.ne_typeC (n := k) hOa (blk_old hC_0ccc (.cells (encNum.enc v).toArray 3)) (by decide)
              have hne : ∀ j, Value.ownBlock (.slice V k cv) = some j → B < j := fun j hj => by have := SOwn.ge_baseK hOa j hj; omega
              have hR5 := (hR_0ccc.alloc (.cells (encNum.enc v).toArray 3)).farK hgr5 hne
              have hX5 := (hX_0ccc.alloc (.cells (encNum.enc v).toArray 3)).far_grownK hgr5 (fun j hj => by have := SOwn.ge_baseK hOa j hj; omega)
              have hC5 := blk_grownC (blk_old hC_0ccc (.cells (encNum.enc v).toArray 3)) hgr5 hneT
              have hZ5 := blk_grownC (blk_old hZ_0ccc (.cells (encNum.enc v).toArray 3)) hgr5 (fun e9 => by have := SOwn.ge_baseK hOa _ e9; omega)
              have hO5 := SOwn.snoc (E := encNum) (xs := xs) (x := v) (by rw [HN.out]; exact hown5)
              obtain ⟨_, _, fc0, fc1, _⟩ := blk2 hC5
              refine wpAnyH_take (i := 16) (oi := _) (v := ?_) rfl (by kernel_rfl) (by kernel_rfl) (by kernel_rfl) (fun _ _ _ h => h) (Or.inl ⟨by rfl, ?_⟩) trivial ?_
              (rotate_left); (focus (intro wv hSw; clear hSw; go_simp; (try with_reducible rfl)))
              try simp only [Act.put, List.getElem_toArray, List.getElem_cons_succ, List.getElem_cons_zero, List.setIfInBounds_toArray, List.set_cons_zero, List.set_cons_succ]
              refine wpAnyH_ready (rs := [17]) (by kernel_rfl) (by simp) ?_
              refine AllReadyH.cons (o := _) rfl (fun K hK => ?_) AllReadyH.nil
              go_simp
              refine hK.out _ _ trivial (fun hHeld => ?_)
              clear hHeld hK K
              try simp only [Act.put, List.getElem_toArray, List.getElem_cons_succ, List.getElem_cons_zero, List.setIfInBounds_toArray, List.set_cons_zero, List.set_cons_succ]
              refine wpAnyH_done (by kernel_rfl) ?_ _
              have hC6 := blk2_set1 (b := .slice (some ⟨g5, 0, none⟩) (k + 1) cap5) hC5
              have hZ6 := blk_setOther (i := 1) hZ5 (Ne.symm hCR) (.slice (some ⟨g5, 0, none⟩) (k + 1) cap5)
              have hO6 := SOwn.boxY (i := 1) hO5 hC5 (by decide) (.slice (some ⟨g5, 0, none⟩) (k + 1) cap5)
              have hR6 := hR5.setOther (C := C) (i := 1) (by omega) (.slice (some ⟨g5, 0, none⟩) (k + 1) cap5)
              have hX6 := hX5.setNew (C := C) (by omega) 1 (.slice (some ⟨g5, 0, none⟩) (k + 1) cap5)
              clear htw hq hqd hqw hs hp hv hvm hsw hpw hvw
              go_wp2_with fail
              go_roundw
              case rel => exact ⟨k + 1, cap5, some ⟨g5, 0, none⟩, xs ++ [v], by go_num, by push_cast; omega, Lib.hid (by rw [List.length_append, HN.out]; rfl), hC6, hZ6, hO6, hR6.mono (by push_cast; omega), hX6⟩
              case measure => simp [intOf]; omega
    · have hk1 : 1 ≤ k := by omega
      clear k1
      go_wp2_with fail
      refine (odd0_any B _ n _ hR_0 (by omega) hn hn1).mono ?_; rintro e w3 ⟨bb, rfl, h3, hx3⟩
      have hC3 := blk_ext hC_0 hx3 hCB
      have hZ3 := blk_ext hZ_0 hx3 hRB
      have hO3 := hO_0.extK hx3 (by omega)
      have hX3 := hX_0.trans hx3
      have hB3 := h3.lt
      have hz3 := hX3.size
      clear c0_ c1_ f0_ f1_
      cases bb
      · obtain ⟨r0, r1, s0_, s1_, zR⟩ := blk2 hZ3
        obtain ⟨e0_, e1_, _, _, _⟩ := blk2 hC3
        go_wp2_with fail
        exact bodyPost_ret (v := .agg #[.int .i64 d, .slice V k cv]) (by simp [results, Try.results45, go_sem, r0, r1]) rfl ⟨d, xs, V, cv, by rw [HN.out], ⟨by omega, by omega⟩, by rw [HN.out]; omega, SOwn.mono (SOwn.far2Y hO3 (by omega) _ _) (by omega), (((h3.mono (u' := u + 130) (by omega)).setOther (by omega) _).setOther (by omega) _), ((hX3.setNew (Nat.le_refl _) _ _).setNew (Nat.le_refl _) _ _)⟩
      · obtain ⟨_, _, _, _, _⟩ := blk2 hC3
        go_wp2_with fail
        refine (pick_any B _ 3 _ h3 (by omega) (by omega) (by omega)).mono ?_; rintro e w4 ⟨j, rfl, j0, j1, h4, hx4⟩
        have hC4 := blk_ext hC3 hx4 hCB
        have hZ4 := blk_ext hZ3 hx4 hRB
        have hO4 := hO3.extK hx4 (by omega)
        have hX4 := hX3.trans hx4
        have hz4 := hX4.size
        have hB4 := h4.lt
        obtain ⟨c0_, c1_, f0_, f1_, hzC⟩ := blk2 hC4
        by_cases cj0 : j = 0
        · subst cj0
          have hOa := hO4.alloc (.cells (encNum.enc (0)).toArray 3)
          go_wp2_with (at_builtin; refine wpList_append_lies _ rfl (.tmp 50) (.tmp 51) _ rfl (w.heap.size + 1) 3 i0 _ 1 8 Try.underlying23 HI.out.1 HI.out.2.1 HI.out.2.2.1 HI.out.2.2.2 rfl (by omega) (.slice V k cv) k (encNum.flat xs) rfl (by unfold SOwn at hOa; rw [HN.out] at hOa; exact hOa) ⟨w4.heap.size, 0, none⟩ 1 1 (encNum.enc (0)) rfl rfl (new_enc (E := encNum) w4 (0) _) (encNum.one _) (by omega) (by simp only [maxLen]; omega) (by omega) (by simp; omega) _ rfl ?_; intro g5 cap5 w5 hown5 hgr5 hat5 hlt5; (have hneT := SOwn.ne_typeC (n := k) hOa (blk_old hC4 (.cells (encNum.enc (0)).toArray 3)) (by decide)); (have hne : ∀ j, Value.ownBlock (.slice V k cv) = some j → B < j := fun j hj => (by have := SOwn.ge_baseK hOa j hj; omega)); (have hR5 := (h4.alloc (.cells (encNum.enc (0)).toArray 3)).farK hgr5 hne); (have hX5 := (hX4.alloc (.cells (encNum.enc (0)).toArray 3)).far_grownK hgr5 (fun j hj => (by have := SOwn.ge_baseK hOa j hj; omega))); (have hC5 := blk_grownC (blk_old hC4 (.cells (encNum.enc (0)).toArray 3)) hgr5 hneT); (have hZ5 := blk_grownC (blk_old hZ4 (.cells (encNum.enc (0)).toArray 3)) hgr5 (fun e9 => (by have := SOwn.ge_baseK hOa _ e9; omega))); (have hO5 := SOwn.snoc (E := encNum) (xs := xs) (x := (0 : Int)) (by rw [HN.out]; exact hown5)); (obtain ⟨k0_, k1_, fc0, fc1, _⟩ := blk2 hC5); (have hC6 := blk2_set1 (b := (.slice (some ⟨g5, 0, none⟩) (k + 1) cap5)) hC5); (have hZ6 := blk_setOther (i := 1) hZ5 (Ne.symm hCR) (.slice (some ⟨g5, 0, none⟩) (k + 1) cap5)); (have hO6 := SOwn.boxY (i := 1) hO5 hC5 (by decide) (.slice (some ⟨g5, 0, none⟩) (k + 1) cap5)); (have hR6 := hR5.setOther (C := C) (i := 1) (by omega) (.slice (some ⟨g5, 0, none⟩) (k + 1) cap5)); (have hX6 := hX5.setNew (C := C) (by omega) 1 (.slice (some ⟨g5, 0, none⟩) (k + 1) cap5)); (have HN6 : Hid ((xs ++ [(0 : Int)]).length = k + 1) := Lib.hid (by rw [List.length_append, HN.out]; rfl)); (clear c0_ c1_ f0_ f1_ hC3); (obtain ⟨r0, r1, s0_, s1_, zR⟩ := blk2 hZ6); (obtain ⟨e0_, e1_, _, _, _⟩ := blk2 hC6))
          exact bodyPost_ret (v := .agg #[.int .i64 d, .slice (some ⟨g5, 0, none⟩) (k + 1) cap5]) (by simp [results, Try.results45, go_sem, r0, r1]) rfl ⟨d, (xs ++ [(0 : Int)]), (some ⟨g5, 0, none⟩), cap5, by rw [HN6.out], ⟨by omega, by omega⟩, by rw [HN6.out]; omega, SOwn.mono (SOwn.far2Y hO6 (by omega) _ _) (by omega), (((hR6.mono (u' := u + 130) (by omega)).setOther (by omega) _).setOther (by omega) _), ((hX6.setNew (Nat.le_refl _) _ _).setNew (Nat.le_refl _) _ _)⟩
        · have e0 : (j == 0) = false := by rw [beq_eq_false_iff_ne]; exact cj0
          by_cases cj1 : j = 1
          · subst cj1
            have hkn : 0 < xs.length := by rw [HN.out]; omega
            have hki : (0 : Int) < (k : Int) := by omega
            have hkn0 : 0 < k := by omega
            obtain ⟨g, rfl, hg0, hg1⟩ := hO4.at_ hkn
            have f9 := hO4.frozen 0
            go_wp2_with fail
            refine wp_region_held_drew (S := (fun _ => True)) (by kernel_rfl) trivial (fun hHeld => ?_)
            clear hHeld
            have hC_0 := blk_drw hC4
            have hZ_0 := blk_drw hZ4
            have hO_0 := hO4.drew
            have hR_0 := h4.drw
            have hX_0 := hX4.drw
            refine wpAnyH_take (i := 0) (oi := _) (v := ?_) rfl (by kernel_rfl) (by kernel_rfl) (by kernel_rfl) (fun _ _ _ h => h) (Or.inl ⟨by rfl, ?_⟩) trivial ?_
            (rotate_left); (focus (intro wv hSw; clear hSw; go_simp; (try with_reducible rfl)))
            try simp only [Act.put, List.getElem_toArray, List.getElem_cons_succ, List.getElem_cons_zero, List.setIfInBounds_toArray, List.set_cons_zero, List.set_cons_succ]
            refine wpAnyH_take (i := 3) (oi := _) (v := ?_) rfl (by kernel_rfl) (by kernel_rfl) (by kernel_rfl) (fun _ _ _ h => h) (Or.inl ⟨by rfl, ?_⟩) trivial ?_
            (rotate_left); (focus (intro wv hSw; clear hSw; go_simp; (try with_reducible rfl)))
            try simp only [Act.put, List.getElem_toArray, List.getElem_cons_succ, List.getElem_cons_zero, List.setIfInBounds_toArray, List.set_cons_zero, List.set_cons_succ]
            have hgC : C ≠ g := fun e9 => by have := SOwn.ne_typeC (n := 0) hO4 hC4 (by decide); simp [Value.ownBlock] at this; omega
            have hBg : B < g := by have := SOwn.ge_baseK (n := k) hO4 g (by simp [Value.ownBlock]); omega
            clear c0_ c1_ f0_ f1_
            refine wpAnyH_ready (rs := [1, 2, 4]) (by kernel_rfl) (by simp) ?_
            refine AllReadyH.cons (o := _) rfl (fun K hK => ?_) (AllReadyH.cons (o := _) rfl (fun K hK => ?_) (AllReadyH.cons (o := _) rfl (fun K hK => ?_) (AllReadyH.nil)))
            · obtain ⟨_, _, _, _, _⟩ := blk2 hC_0
              obtain ⟨_, _, _, _, _⟩ := blk2 hC4
              go_simp
              refine hK.out _ _ trivial (fun hHeld => ?_)
              clear hHeld hK K
              try simp only [Act.put, List.getElem_toArray, List.getElem_cons_succ, List.getElem_cons_zero, List.setIfInBounds_toArray, List.set_cons_zero, List.set_cons_succ]
              refine wpAnyH_ready (rs := [2, 4]) (by kernel_rfl) (by simp) ?_
              refine AllReadyH.cons (o := _) rfl (fun K hK => ?_) (AllReadyH.cons (o := _) rfl (fun K hK => ?_) (AllReadyH.nil))
              · go_simp
                refine hK.out _ _ trivial (fun hHeld => ?_)
                clear hHeld hK K
                try simp only [Act.put, List.getElem_toArray, List.getElem_cons_succ, List.getElem_cons_zero, List.setIfInBounds_toArray, List.set_cons_zero, List.set_cons_succ]
                have hC_0a := blk_old hC_0 (.cells #[.int .i64 (-1), .int .i64 21] 3)
                have hZ_0a := blk_old hZ_0 (.cells #[.int .i64 (-1), .int .i64 21] 3)
                have hO_0a := hO_0.alloc (.cells #[.int .i64 (-1), .int .i64 21] 3)
                have hR_0a := hR_0.alloc (.cells #[.int .i64 (-1), .int .i64 21] 3)
                have hX_0a := hX_0.alloc (.cells #[.int .i64 (-1), .int .i64 21] 3)
                have hL_0a : (w4.drew.alloc (.cells #[.int .i64 (-1), .int .i64 21] 3)).heap[w4.heap.size]? = some (.cells #[.int .i64 (-1), .int .i64 21] 3) := blk_new w4.drew (.cells #[.int .i64 (-1), .int .i64 21] 3)
                have hDB_0a := hR_0.lt
                refine wpAnyH_ready (rs := [4]) (by kernel_rfl) (by simp) ?_
                refine AllReadyH.cons (o := _) rfl (fun K hK => ?_) (AllReadyH.nil)
                go_simp
                (go_at_call 64; refine (pick_any B _ 2 _ hR_0a (by omega) (by omega) (by omega)).mono ?_; rintro e x0ac ⟨j2, rfl, j20, j21, hR_0ac, hx_0ac⟩)
                refine hK.out _ _ trivial (fun hHeld => ?_)
                clear hHeld hK K
                try simp only [Act.put, List.getElem_toArray, List.getElem_cons_succ, List.getElem_cons_zero, List.setIfInBounds_toArray, List.set_cons_zero, List.set_cons_succ]
                have hC_0ac := blk_ext hC_0a hx_0ac hCB
                have hZ_0ac := blk_ext hZ_0a hx_0ac hRB
                have hO_0ac := hO_0a.extK hx_0ac (by omega)
                have hX_0ac := hX_0a.trans hx_0ac
                have hL_0ac := blk_ext hL_0a hx_0ac (by have := hB4; simp at *; omega)
                by_cases c2 : j2 = 0
                · subst c2
                  obtain ⟨l0_, l1_, _, _, _⟩ := blk2 hL_0ac
                  refine wpAnyH_take (i := 5) (oi := _) (v := ?_) rfl (by kernel_rfl) (by kernel_rfl) (by kernel_rfl) (fun _ _ _ h => h) (Or.inl ⟨by rfl, ?_⟩) trivial ?_
                  (rotate_left); (focus (intro wv hSw; clear hSw; go_simp; (try with_reducible rfl)))
                  try simp only [Act.put, List.getElem_toArray, List.getElem_cons_succ, List.getElem_cons_zero, List.setIfInBounds_toArray, List.set_cons_zero, List.set_cons_succ]
                  refine wpAnyH_ready (rs := [6]) (by kernel_rfl) (by simp) ?_
                  refine AllReadyH.cons (o := _) rfl (fun K hK => ?_) (AllReadyH.nil)
                  go_simp
                  refine hK.out _ _ trivial (fun hHeld => ?_)
                  clear hHeld hK K
                  try simp only [Act.put, List.getElem_toArray, List.getElem_cons_succ, List.getElem_cons_zero, List.setIfInBounds_toArray, List.set_cons_zero, List.set_cons_succ]
                  refine wpAnyH_take (i := 7) (oi := _) (v := ?_) rfl (by kernel_rfl) (by kernel_rfl) (by kernel_rfl) (fun _ _ _ h => h) (Or.inl ⟨by rfl, ?_⟩) trivial ?_
                  (rotate_left); (focus (intro wv hSw; clear hSw; go_simp; (try with_reducible rfl)))
                  try simp only [Act.put, List.getElem_toArray, List.getElem_cons_succ, List.getElem_cons_zero, List.setIfInBounds_toArray, List.set_cons_zero, List.set_cons_succ]
                  have fg := hO_0ac.frozen 0
                  have cg := ownNum hO_0ac hkn
                  refine wpAnyH_ready (rs := [8]) (by kernel_rfl) (by simp) ?_
                  refine AllReadyH.cons (o := _) rfl (fun K hK => ?_) AllReadyH.nil
                  go_simp
                  refine hK.out _ _ trivial (fun hHeld => ?_)
                  clear hHeld hK K
                  try simp only [Act.put, List.getElem_toArray, List.getElem_cons_succ, List.getElem_cons_zero, List.setIfInBounds_toArray, List.set_cons_zero, List.set_cons_succ]
                  refine wpAnyH_done (by kernel_rfl) ?_ _
                  have hO9 := setNumO hO_0ac 0 hkn (-1)
                  have hC9 := blk_setOther (i := 0) hC_0ac hgC (.int .i64 (-1))
                  have hZ9 := blk_setOther (i := 0) hZ_0ac (show w.heap.size ≠ g by omega) (.int .i64 (-1))
                  have hR9 := hR_0ac.setOther (C := g) (i := 0) hBg (.int .i64 (-1))
                  have hX9 := hX_0ac.setNew (C := g) (by omega) 0 (.int .i64 (-1))
                  have HN9 : Hid ((xs.set 0 (-1)).length = k) := Lib.hid (by rw [List.length_set]; exact HN.out)
                  generalize World.setCell x0ac ⟨g, 0, none⟩ (.int .i64 (-1)) = w9 at hO9 hC9 hZ9 hR9 hX9 ⊢
                  obtain ⟨r0, r1, s0_, s1_, zR⟩ := blk2 hZ9
                  obtain ⟨e0_, e1_, _, _, _⟩ := blk2 hC9
                  go_wp2_with fail
                  exact bodyPost_ret (v := .agg #[.int .i64 d, .slice (some ⟨g, 0, none⟩) k cv]) (by simp [results, Try.results45, go_sem, r0, r1]) rfl ⟨d, (xs.set 0 (-1)), (some ⟨g, 0, none⟩), cv, by rw [HN9.out], ⟨by omega, by omega⟩, by rw [HN9.out]; omega, SOwn.mono (SOwn.far2Y hO9 (by omega) _ _) (by omega), (((hR9.mono (u' := u + 130) (by omega)).setOther (by omega) _).setOther (by omega) _), ((hX9.setNew (Nat.le_refl _) _ _).setNew (Nat.le_refl _) _ _)⟩
                · obtain rfl : j2 = 1 := by omega
                  clear c2
                  obtain ⟨l0_, l1_, _, _, _⟩ := blk2 hL_0ac
                  refine wpAnyH_take (i := 5) (oi := _) (v := ?_) rfl (by kernel_rfl) (by kernel_rfl) (by kernel_rfl) (fun _ _ _ h => h) (Or.inl ⟨by rfl, ?_⟩) trivial ?_
                  (rotate_left); (focus (intro wv hSw; clear hSw; go_simp; (try with_reducible rfl)))
                  try simp only [Act.put, List.getElem_toArray, List.getElem_cons_succ, List.getElem_cons_zero, List.setIfInBounds_toArray, List.set_cons_zero, List.set_cons_succ]
                  refine wpAnyH_ready (rs := [6]) (by kernel_rfl) (by simp) ?_
                  refine AllReadyH.cons (o := _) rfl (fun K hK => ?_) (AllReadyH.nil)
                  go_simp
                  refine hK.out _ _ trivial (fun hHeld => ?_)
                  clear hHeld hK K
                  try simp only [Act.put, List.getElem_toArray, List.getElem_cons_succ, List.getElem_cons_zero, List.setIfInBounds_toArray, List.set_cons_zero, List.set_cons_succ]
                  refine wpAnyH_take (i := 7) (oi := _) (v := ?_) rfl (by kernel_rfl) (by kernel_rfl) (by kernel_rfl) (fun _ _ _ h => h) (Or.inl ⟨by rfl, ?_⟩) trivial ?_
                  (rotate_left); (focus (intro wv hSw; clear hSw; go_simp; (try with_reducible rfl)))
                  try simp only [Act.put, List.getElem_toArray, List.getElem_cons_succ, List.getElem_cons_zero, List.setIfInBounds_toArray, List.set_cons_zero, List.set_cons_succ]
                  have fg := hO_0ac.frozen 0
                  have cg := ownNum hO_0ac hkn
                  refine wpAnyH_ready (rs := [8]) (by kernel_rfl) (by simp) ?_
                  refine AllReadyH.cons (o := _) rfl (fun K hK => ?_) AllReadyH.nil
                  go_simp
                  refine hK.out _ _ trivial (fun hHeld => ?_)
                  clear hHeld hK K
                  try simp only [Act.put, List.getElem_toArray, List.getElem_cons_succ, List.getElem_cons_zero, List.setIfInBounds_toArray, List.set_cons_zero, List.set_cons_succ]
                  refine wpAnyH_done (by kernel_rfl) ?_ _
                  have hO9 := setNumO hO_0ac 0 hkn (21)
                  have hC9 := blk_setOther (i := 0) hC_0ac hgC (.int .i64 (21))
                  have hZ9 := blk_setOther (i := 0) hZ_0ac (show w.heap.size ≠ g by omega) (.int .i64 (21))
                  have hR9 := hR_0ac.setOther (C := g) (i := 0) hBg (.int .i64 (21))
                  have hX9 := hX_0ac.setNew (C := g) (by omega) 0 (.int .i64 (21))
                  have HN9 : Hid ((xs.set 0 (21)).length = k) := Lib.hid (by rw [List.length_set]; exact HN.out)
                  generalize World.setCell x0ac ⟨g, 0, none⟩ (.int .i64 (21)) = w9 at hO9 hC9 hZ9 hR9 hX9 ⊢
                  obtain ⟨r0, r1, s0_, s1_, zR⟩ := blk2 hZ9
                  obtain ⟨e0_, e1_, _, _, _⟩ := blk2 hC9
                  go_wp2_with fail
                  exact bodyPost_ret (v := .agg #[.int .i64 d, .slice (some ⟨g, 0, none⟩) k cv]) (by simp [results, Try.results45, go_sem, r0, r1]) rfl ⟨d, (xs.set 0 (21)), (some ⟨g, 0, none⟩), cv, by rw [HN9.out], ⟨by omega, by omega⟩, by rw [HN9.out]; omega, SOwn.mono (SOwn.far2Y hO9 (by omega) _ _) (by omega), (((hR9.mono (u' := u + 130) (by omega)).setOther (by omega) _).setOther (by omega) _), ((hX9.setNew (Nat.le_refl _) _ _).setNew (Nat.le_refl _) _ _)⟩
              · go_simp
                (go_at_call 64; refine (pick_any B _ 2 _ hR_0 (by omega) (by omega) (by omega)).mono ?_; rintro e x0c ⟨j2, rfl, j20, j21, hR_0c, hx_0c⟩)
                refine hK.out _ _ trivial (fun hHeld => ?_)
                clear hHeld hK K
                try simp only [Act.put, List.getElem_toArray, List.getElem_cons_succ, List.getElem_cons_zero, List.setIfInBounds_toArray, List.set_cons_zero, List.set_cons_succ]
                have hC_0c := blk_ext hC_0 hx_0c hCB
                have hZ_0c := blk_ext hZ_0 hx_0c hRB
                have hO_0c := hO_0.extK hx_0c (by omega)
                have hX_0c := hX_0.trans hx_0c
                by_cases c2 : j2 = 0
                · subst c2
                  refine wpAnyH_ready (rs := [2]) (by kernel_rfl) (by simp) ?_
                  refine AllReadyH.cons (o := _) rfl (fun K hK => ?_) (AllReadyH.nil)
                  go_simp
                  refine hK.out _ _ trivial (fun hHeld => ?_)
                  clear hHeld hK K
                  try simp only [Act.put, List.getElem_toArray, List.getElem_cons_succ, List.getElem_cons_zero, List.setIfInBounds_toArray, List.set_cons_zero, List.set_cons_succ]
                  have hC_0ca := blk_old hC_0c (.cells #[.int .i64 (-1), .int .i64 21] 3)
                  have hZ_0ca := blk_old hZ_0c (.cells #[.int .i64 (-1), .int .i64 21] 3)
                  have hO_0ca := hO_0c.alloc (.cells #[.int .i64 (-1), .int .i64 21] 3)
                  have hR_0ca := hR_0c.alloc (.cells #[.int .i64 (-1), .int .i64 21] 3)
                  have hX_0ca := hX_0c.alloc (.cells #[.int .i64 (-1), .int .i64 21] 3)
                  have hL_0ca : (x0c.alloc (.cells #[.int .i64 (-1), .int .i64 21] 3)).heap[x0c.heap.size]? = some (.cells #[.int .i64 (-1), .int .i64 21] 3) := blk_new x0c (.cells #[.int .i64 (-1), .int .i64 21] 3)
                  have hDB_0ca := hR_0c.lt
                  generalize (x0c.alloc (.cells #[.int .i64 (-1), .int .i64 21] 3)) = y0ca at hC_0ca hZ_0ca hO_0ca hR_0ca hX_0ca hL_0ca ⊢
                  obtain ⟨l0_, l1_, _, _, _⟩ := blk2 hL_0ca
                  refine wpAnyH_take (i := 5) (oi := _) (v := ?_) rfl (by kernel_rfl) (by kernel_rfl) (by kernel_rfl) (fun _ _ _ h => h) (Or.inl ⟨by rfl, ?_⟩) trivial ?_
                  (rotate_left); (focus (intro wv hSw; clear hSw; go_simp; (try with_reducible rfl)))
                  try simp only [Act.put, List.getElem_toArray, List.getElem_cons_succ, List.getElem_cons_zero, List.setIfInBounds_toArray, List.set_cons_zero, List.set_cons_succ]
                  refine wpAnyH_ready (rs := [6]) (by kernel_rfl) (by simp) ?_
                  refine AllReadyH.cons (o := _) rfl (fun K hK => ?_) (AllReadyH.nil)
                  go_simp
                  refine hK.out _ _ trivial (fun hHeld => ?_)
                  clear hHeld hK K
                  try simp only [Act.put, List.getElem_toArray, List.getElem_cons_succ, List.getElem_cons_zero, List.setIfInBounds_toArray, List.set_cons_zero, List.set_cons_succ]
                  refine wpAnyH_take (i := 7) (oi := _) (v := ?_) rfl (by kernel_rfl) (by kernel_rfl) (by kernel_rfl) (fun _ _ _ h => h) (Or.inl ⟨by rfl, ?_⟩) trivial ?_
                  (rotate_left); (focus (intro wv hSw; clear hSw; go_simp; (try with_reducible rfl)))
                  try simp only [Act.put, List.getElem_toArray, List.getElem_cons_succ, List.getElem_cons_zero, List.setIfInBounds_toArray, List.set_cons_zero, List.set_cons_succ]
                  have fg := hO_0ca.frozen 0
                  have cg := ownNum hO_0ca hkn
                  refine wpAnyH_ready (rs := [8]) (by kernel_rfl) (by simp) ?_
                  refine AllReadyH.cons (o := _) rfl (fun K hK => ?_) AllReadyH.nil
                  go_simp
                  refine hK.out _ _ trivial (fun hHeld => ?_)
                  clear hHeld hK K
                  try simp only [Act.put, List.getElem_toArray, List.getElem_cons_succ, List.getElem_cons_zero, List.setIfInBounds_toArray, List.set_cons_zero, List.set_cons_succ]
                  refine wpAnyH_done (by kernel_rfl) ?_ _
                  have hO9 := setNumO hO_0ca 0 hkn (-1)
                  have hC9 := blk_setOther (i := 0) hC_0ca hgC (.int .i64 (-1))
                  have hZ9 := blk_setOther (i := 0) hZ_0ca (show w.heap.size ≠ g by omega) (.int .i64 (-1))
                  have hR9 := hR_0ca.setOther (C := g) (i := 0) hBg (.int .i64 (-1))
                  have hX9 := hX_0ca.setNew (C := g) (by omega) 0 (.int .i64 (-1))
                  have HN9 : Hid ((xs.set 0 (-1)).length = k) := Lib.hid (by rw [List.length_set]; exact HN.out)
                  generalize World.setCell y0ca ⟨g, 0, none⟩ (.int .i64 (-1)) = w9 at hO9 hC9 hZ9 hR9 hX9 ⊢
                  obtain ⟨r0, r1, s0_, s1_, zR⟩ := blk2 hZ9
                  obtain ⟨e0_, e1_, _, _, _⟩ := blk2 hC9
                  go_wp2_with fail
                  exact bodyPost_ret (v := .agg #[.int .i64 d, .slice (some ⟨g, 0, none⟩) k cv]) (by simp [results, Try.results45, go_sem, r0, r1]) rfl ⟨d, (xs.set 0 (-1)), (some ⟨g, 0, none⟩), cv, by rw [HN9.out], ⟨by omega, by omega⟩, by rw [HN9.out]; omega, SOwn.mono (SOwn.far2Y hO9 (by omega) _ _) (by omega), (((hR9.mono (u' := u + 130) (by omega)).setOther (by omega) _).setOther (by omega) _), ((hX9.setNew (Nat.le_refl _) _ _).setNew (Nat.le_refl _) _ _)⟩
                · obtain rfl : j2 = 1 := by omega
                  clear c2
                  refine wpAnyH_ready (rs := [2]) (by kernel_rfl) (by simp) ?_
                  refine AllReadyH.cons (o := _) rfl (fun K hK => ?_) (AllReadyH.nil)
                  go_simp
                  refine hK.out _ _ trivial (fun hHeld => ?_)
                  clear hHeld hK K
                  try simp only [Act.put, List.getElem_toArray, List.getElem_cons_succ, List.getElem_cons_zero, List.setIfInBounds_toArray, List.set_cons_zero, List.set_cons_succ]
                  have hC_0ca := blk_old hC_0c (.cells #[.int .i64 (-1), .int .i64 21] 3)
                  have hZ_0ca := blk_old hZ_0c (.cells #[.int .i64 (-1), .int .i64 21] 3)
                  have hO_0ca := hO_0c.alloc (.cells #[.int .i64 (-1), .int .i64 21] 3)
                  have hR_0ca := hR_0c.alloc (.cells #[.int .i64 (-1), .int .i64 21] 3)
                  have hX_0ca := hX_0c.alloc (.cells #[.int .i64 (-1), .int .i64 21] 3)
                  have hL_0ca : (x0c.alloc (.cells #[.int .i64 (-1), .int .i64 21] 3)).heap[x0c.heap.size]? = some (.cells #[.int .i64 (-1), .int .i64 21] 3) := blk_new x0c (.cells #[.int .i64 (-1), .int .i64 21] 3)
                  have hDB_0ca := hR_0c.lt
                  generalize (x0c.alloc (.cells #[.int .i64 (-1), .int .i64 21] 3)) = y0ca at hC_0ca hZ_0ca hO_0ca hR_0ca hX_0ca hL_0ca ⊢
                  obtain ⟨l0_, l1_, _, _, _⟩ := blk2 hL_0ca
                  refine wpAnyH_take (i := 5) (oi := _) (v := ?_) rfl (by kernel_rfl) (by kernel_rfl) (by kernel_rfl) (fun _ _ _ h => h) (Or.inl ⟨by rfl, ?_⟩) trivial ?_
                  (rotate_left); (focus (intro wv hSw; clear hSw; go_simp; (try with_reducible rfl)))
                  try simp only [Act.put, List.getElem_toArray, List.getElem_cons_succ, List.getElem_cons_zero, List.setIfInBounds_toArray, List.set_cons_zero, List.set_cons_succ]
                  refine wpAnyH_ready (rs := [6]) (by kernel_rfl) (by simp) ?_
                  refine AllReadyH.cons (o := _) rfl (fun K hK => ?_) (AllReadyH.nil)
                  go_simp
                  refine hK.out _ _ trivial (fun hHeld => ?_)
                  clear hHeld hK K
                  try simp only [Act.put, List.getElem_toArray, List.getElem_cons_succ, List.getElem_cons_zero, List.setIfInBounds_toArray, List.set_cons_zero, List.set_cons_succ]
                  refine wpAnyH_take (i := 7) (oi := _) (v := ?_) rfl (by kernel_rfl) (by kernel_rfl) (by kernel_rfl) (fun _ _ _ h => h) (Or.inl ⟨by rfl, ?_⟩) trivial ?_
                  (rotate_left); (focus (intro wv hSw; clear hSw; go_simp; (try with_reducible rfl)))
                  try simp only [Act.put, List.getElem_toArray, List.getElem_cons_succ, List.getElem_cons_zero, List.setIfInBounds_toArray, List.set_cons_zero, List.set_cons_succ]
                  have fg := hO_0ca.frozen 0
                  have cg := ownNum hO_0ca hkn
                  refine wpAnyH_ready (rs := [8]) (by kernel_rfl) (by simp) ?_
                  refine AllReadyH.cons (o := _) rfl (fun K hK => ?_) AllReadyH.nil
                  go_simp
                  refine hK.out _ _ trivial (fun hHeld => ?_)
                  clear hHeld hK K
                  try simp only [Act.put, List.getElem_toArray, List.getElem_cons_succ, List.getElem_cons_zero, List.setIfInBounds_toArray, List.set_cons_zero, List.set_cons_succ]
                  refine wpAnyH_done (by kernel_rfl) ?_ _
                  have hO9 := setNumO hO_0ca 0 hkn (21)
                  have hC9 := blk_setOther (i := 0) hC_0ca hgC (.int .i64 (21))
                  have hZ9 := blk_setOther (i := 0) hZ_0ca (show w.heap.size ≠ g by omega) (.int .i64 (21))
                  have hR9 := hR_0ca.setOther (C := g) (i := 0) hBg (.int .i64 (21))
                  have hX9 := hX_0ca.setNew (C := g) (by omega) 0 (.int .i64 (21))
                  have HN9 : Hid ((xs.set 0 (21)).length = k) := Lib.hid (by rw [List.length_set]; exact HN.out)
                  generalize World.setCell y0ca ⟨g, 0, none⟩ (.int .i64 (21)) = w9 at hO9 hC9 hZ9 hR9 hX9 ⊢
                  obtain ⟨r0, r1, s0_, s1_, zR⟩ := blk2 hZ9
                  obtain ⟨e0_, e1_, _, _, _⟩ := blk2 hC9
                  go_wp2_with fail
                  exact bodyPost_ret (v := .agg #[.int .i64 d, .slice (some ⟨g, 0, none⟩) k cv]) (by simp [results, Try.results45, go_sem, r0, r1]) rfl ⟨d, (xs.set 0 (21)), (some ⟨g, 0, none⟩), cv, by rw [HN9.out], ⟨by omega, by omega⟩, by rw [HN9.out]; omega, SOwn.mono (SOwn.far2Y hO9 (by omega) _ _) (by omega), (((hR9.mono (u' := u + 130) (by omega)).setOther (by omega) _).setOther (by omega) _), ((hX9.setNew (Nat.le_refl _) _ _).setNew (Nat.le_refl _) _ _)⟩
            · go_simp
              refine hK.out _ _ trivial (fun hHeld => ?_)
              clear hHeld hK K
              try simp only [Act.put, List.getElem_toArray, List.getElem_cons_succ, List.getElem_cons_zero, List.setIfInBounds_toArray, List.set_cons_zero, List.set_cons_succ]
              have hC_0a := blk_old hC_0 (.cells #[.int .i64 (-1), .int .i64 21] 3)
              have hZ_0a := blk_old hZ_0 (.cells #[.int .i64 (-1), .int .i64 21] 3)
              have hO_0a := hO_0.alloc (.cells #[.int .i64 (-1), .int .i64 21] 3)
              have hR_0a := hR_0.alloc (.cells #[.int .i64 (-1), .int .i64 21] 3)
              have hX_0a := hX_0.alloc (.cells #[.int .i64 (-1), .int .i64 21] 3)
              have hL_0a : (w4.drew.alloc (.cells #[.int .i64 (-1), .int .i64 21] 3)).heap[w4.heap.size]? = some (.cells #[.int .i64 (-1), .int .i64 21] 3) := blk_new w4.drew (.cells #[.int .i64 (-1), .int .i64 21] 3)
              have hDB_0a := hR_0.lt
              refine wpAnyH_ready (rs := [1, 4]) (by kernel_rfl) (by simp) ?_
              refine AllReadyH.cons (o := _) rfl (fun K hK => ?_) (AllReadyH.cons (o := _) rfl (fun K hK => ?_) (AllReadyH.nil))
              · obtain ⟨_, _, _, _, _⟩ := blk2 hC_0a
                obtain ⟨_, _, _, _, _⟩ := blk2 hC4
                go_simp
                refine hK.out _ _ trivial (fun hHeld => ?_)
                clear hHeld hK K
                try simp only [Act.put, List.getElem_toArray, List.getElem_cons_succ, List.getElem_cons_zero, List.setIfInBounds_toArray, List.set_cons_zero, List.set_cons_succ]
                refine wpAnyH_ready (rs := [4]) (by kernel_rfl) (by simp) ?_
                refine AllReadyH.cons (o := _) rfl (fun K hK => ?_) (AllReadyH.nil)
                go_simp
                (go_at_call 64; refine (pick_any B _ 2 _ hR_0a (by omega) (by omega) (by omega)).mono ?_; rintro e x0ac ⟨j2, rfl, j20, j21, hR_0ac, hx_0ac⟩)
                refine hK.out _ _ trivial (fun hHeld => ?_)
                clear hHeld hK K
                try simp only [Act.put, List.getElem_toArray, List.getElem_cons_succ, List.getElem_cons_zero, List.setIfInBounds_toArray, List.set_cons_zero, List.set_cons_succ]
                have hC_0ac := blk_ext hC_0a hx_0ac hCB
                have hZ_0ac := blk_ext hZ_0a hx_0ac hRB
                have hO_0ac := hO_0a.extK hx_0ac (by omega)
                have hX_0ac := hX_0a.trans hx_0ac
                have hL_0ac := blk_ext hL_0a hx_0ac (by have := hB4; simp at *; omega)
                by_cases c2 : j2 = 0
                · subst c2
                  obtain ⟨l0_, l1_, _, _, _⟩ := blk2 hL_0ac
                  refine wpAnyH_take (i := 5) (oi := _) (v := ?_) rfl (by kernel_rfl) (by kernel_rfl) (by kernel_rfl) (fun _ _ _ h => h) (Or.inl ⟨by rfl, ?_⟩) trivial ?_
                  (rotate_left); (focus (intro wv hSw; clear hSw; go_simp; (try with_reducible rfl)))
                  try simp only [Act.put, List.getElem_toArray, List.getElem_cons_succ, List.getElem_cons_zero, List.setIfInBounds_toArray, List.set_cons_zero, List.set_cons_succ]
                  refine wpAnyH_ready (rs := [6]) (by kernel_rfl) (by simp) ?_
                  refine AllReadyH.cons (o := _) rfl (fun K hK => ?_) (AllReadyH.nil)
                  go_simp
                  refine hK.out _ _ trivial (fun hHeld => ?_)
                  clear hHeld hK K
                  try simp only [Act.put, List.getElem_toArray, List.getElem_cons_succ, List.getElem_cons_zero, List.setIfInBounds_toArray, List.set_cons_zero, List.set_cons_succ]
                  refine wpAnyH_take (i := 7) (oi := _) (v := ?_) rfl (by kernel_rfl) (by kernel_rfl) (by kernel_rfl) (fun _ _ _ h => h) (Or.inl ⟨by rfl, ?_⟩) trivial ?_
                  (rotate_left); (focus (intro wv hSw; clear hSw; go_simp; (try with_reducible rfl)))
                  try simp only [Act.put, List.getElem_toArray, List.getElem_cons_succ, List.getElem_cons_zero, List.setIfInBounds_toArray, List.set_cons_zero, List.set_cons_succ]
                  have fg := hO_0ac.frozen 0
                  have cg := ownNum hO_0ac hkn
                  refine wpAnyH_ready (rs := [8]) (by kernel_rfl) (by simp) ?_
                  refine AllReadyH.cons (o := _) rfl (fun K hK => ?_) AllReadyH.nil
                  go_simp
                  refine hK.out _ _ trivial (fun hHeld => ?_)
                  clear hHeld hK K
                  try simp only [Act.put, List.getElem_toArray, List.getElem_cons_succ, List.getElem_cons_zero, List.setIfInBounds_toArray, List.set_cons_zero, List.set_cons_succ]
                  refine wpAnyH_done (by kernel_rfl) ?_ _
                  have hO9 := setNumO hO_0ac 0 hkn (-1)
                  have hC9 := blk_setOther (i := 0) hC_0ac hgC (.int .i64 (-1))
                  have hZ9 := blk_setOther (i := 0) hZ_0ac (show w.heap.size ≠ g by omega) (.int .i64 (-1))
                  have hR9 := hR_0ac.setOther (C := g) (i := 0) hBg (.int .i64 (-1))
                  have hX9 := hX_0ac.setNew (C := g) (by omega) 0 (.int .i64 (-1))
                  have HN9 : Hid ((xs.set 0 (-1)).length = k) := Lib.hid (by rw [List.length_set]; exact HN.out)
                  generalize World.setCell x0ac ⟨g, 0, none⟩ (.int .i64 (-1)) = w9 at hO9 hC9 hZ9 hR9 hX9 ⊢
                  obtain ⟨r0, r1, s0_, s1_, zR⟩ := blk2 hZ9
                  obtain ⟨e0_, e1_, _, _, _⟩ := blk2 hC9
                  go_wp2_with fail
                  exact bodyPost_ret (v := .agg #[.int .i64 d, .slice (some ⟨g, 0, none⟩) k cv]) (by simp [results, Try.results45, go_sem, r0, r1]) rfl ⟨d, (xs.set 0 (-1)), (some ⟨g, 0, none⟩), cv, by rw [HN9.out], ⟨by omega, by omega⟩, by rw [HN9.out]; omega, SOwn.mono (SOwn.far2Y hO9 (by omega) _ _) (by omega), (((hR9.mono (u' := u + 130) (by omega)).setOther (by omega) _).setOther (by omega) _), ((hX9.setNew (Nat.le_refl _) _ _).setNew (Nat.le_refl _) _ _)⟩
                · obtain rfl : j2 = 1 := by omega
                  clear c2
                  obtain ⟨l0_, l1_, _, _, _⟩ := blk2 hL_0ac
                  refine wpAnyH_take (i := 5) (oi := _) (v := ?_) rfl (by kernel_rfl) (by kernel_rfl) (by kernel_rfl) (fun _ _ _ h => h) (Or.inl ⟨by rfl, ?_⟩) trivial ?_
                  (rotate_left); (focus (intro wv hSw; clear hSw; go_simp; (try with_reducible rfl)))
                  try simp only [Act.put, List.getElem_toArray, List.getElem_cons_succ, List.getElem_cons_zero, List.setIfInBounds_toArray, List.set_cons_zero, List.set_cons_succ]
                  refine wpAnyH_ready (rs := [6]) (by kernel_rfl) (by simp) ?_
                  refine AllReadyH.cons (o := _) rfl (fun K hK => ?_) (AllReadyH.nil)
                  go_simp
                  refine hK.out _ _ trivial (fun hHeld => ?_)
                  clear hHeld hK K
                  try simp only [Act.put, List.getElem_toArray, List.getElem_cons_succ, List.getElem_cons_zero, List.setIfInBounds_toArray, List.set_cons_zero, List.set_cons_succ]
                  refine wpAnyH_take (i := 7) (oi := _) (v := ?_) rfl (by kernel_rfl) (by kernel_rfl) (by kernel_rfl) (fun _ _ _ h => h) (Or.inl ⟨by rfl, ?_⟩) trivial ?_
                  (rotate_left); (focus (intro wv hSw; clear hSw; go_simp; (try with_reducible rfl)))
                  try simp only [Act.put, List.getElem_toArray, List.getElem_cons_succ, List.getElem_cons_zero, List.setIfInBounds_toArray, List.set_cons_zero, List.set_cons_succ]
                  have fg := hO_0ac.frozen 0
                  have cg := ownNum hO_0ac hkn
                  refine wpAnyH_ready (rs := [8]) (by kernel_rfl) (by simp) ?_
                  refine AllReadyH.cons (o := _) rfl (fun K hK => ?_) AllReadyH.nil
                  go_simp
                  refine hK.out _ _ trivial (fun hHeld => ?_)
                  clear hHeld hK K
                  try simp only [Act.put, List.getElem_toArray, List.getElem_cons_succ, List.getElem_cons_zero, List.setIfInBounds_toArray, List.set_cons_zero, List.set_cons_succ]
                  refine wpAnyH_done (by kernel_rfl) ?_ _
                  have hO9 := setNumO hO_0ac 0 hkn (21)
                  have hC9 := blk_setOther (i := 0) hC_0ac hgC (.int .i64 (21))
                  have hZ9 := blk_setOther (i := 0) hZ_0ac (show w.heap.size ≠ g by omega) (.int .i64 (21))
                  have hR9 := hR_0ac.setOther (C := g) (i := 0) hBg (.int .i64 (21))
                  have hX9 := hX_0ac.setNew (C := g) (by omega) 0 (.int .i64 (21))
                  have HN9 : Hid ((xs.set 0 (21)).length = k) := Lib.hid (by rw [List.length_set]; exact HN.out)
                  generalize World.setCell x0ac ⟨g, 0, none⟩ (.int .i64 (21)) = w9 at hO9 hC9 hZ9 hR9 hX9 ⊢
                  obtain ⟨r0, r1, s0_, s1_, zR⟩ := blk2 hZ9
                  obtain ⟨e0_, e1_, _, _, _⟩ := blk2 hC9
                  go_wp2_with fail
                  exact bodyPost_ret (v := .agg #[.int .i64 d, .slice (some ⟨g, 0, none⟩) k cv]) (by simp [results, Try.results45, go_sem, r0, r1]) rfl ⟨d, (xs.set 0 (21)), (some ⟨g, 0, none⟩), cv, by rw [HN9.out], ⟨by omega, by omega⟩, by rw [HN9.out]; omega, SOwn.mono (SOwn.far2Y hO9 (by omega) _ _) (by omega), (((hR9.mono (u' := u + 130) (by omega)).setOther (by omega) _).setOther (by omega) _), ((hX9.setNew (Nat.le_refl _) _ _).setNew (Nat.le_refl _) _ _)⟩
              · go_simp
                (go_at_call 64; refine (pick_any B _ 2 _ hR_0a (by omega) (by omega) (by omega)).mono ?_; rintro e x0ac ⟨j2, rfl, j20, j21, hR_0ac, hx_0ac⟩)
                refine hK.out _ _ trivial (fun hHeld => ?_)
                clear hHeld hK K
                try simp only [Act.put, List.getElem_toArray, List.getElem_cons_succ, List.getElem_cons_zero, List.setIfInBounds_toArray, List.set_cons_zero, List.set_cons_succ]
                have hC_0ac := blk_ext hC_0a hx_0ac hCB
                have hZ_0ac := blk_ext hZ_0a hx_0ac hRB
                have hO_0ac := hO_0a.extK hx_0ac (by omega)
                have hX_0ac := hX_0a.trans hx_0ac
                have hL_0ac := blk_ext hL_0a hx_0ac (by have := hB4; simp at *; omega)
                by_cases c2 : j2 = 0
                · subst c2
                  obtain ⟨l0_, l1_, _, _, _⟩ := blk2 hL_0ac
                  refine wpAnyH_take (i := 5) (oi := _) (v := ?_) rfl (by kernel_rfl) (by kernel_rfl) (by kernel_rfl) (fun _ _ _ h => h) (Or.inl ⟨by rfl, ?_⟩) trivial ?_
                  (rotate_left); (focus (intro wv hSw; clear hSw; go_simp; (try with_reducible rfl)))
                  try simp only [Act.put, List.getElem_toArray, List.getElem_cons_succ, List.getElem_cons_zero, List.setIfInBounds_toArray, List.set_cons_zero, List.set_cons_succ]
                  refine wpAnyH_ready (rs := [1, 6]) (by kernel_rfl) (by simp) ?_
                  refine AllReadyH.cons (o := _) rfl (fun K hK => ?_) (AllReadyH.cons (o := _) rfl (fun K hK => ?_) (AllReadyH.nil))
                  · obtain ⟨_, _, _, _, _⟩ := blk2 hC_0ac
                    obtain ⟨_, _, _, _, _⟩ := blk2 hC4
                    go_simp
                    refine hK.out _ _ trivial (fun hHeld => ?_)
                    clear hHeld hK K
                    try simp only [Act.put, List.getElem_toArray, List.getElem_cons_succ, List.getElem_cons_zero, List.setIfInBounds_toArray, List.set_cons_zero, List.set_cons_succ]
                    refine wpAnyH_ready (rs := [6]) (by kernel_rfl) (by simp) ?_
                    refine AllReadyH.cons (o := _) rfl (fun K hK => ?_) (AllReadyH.nil)
                    go_simp
                    refine hK.out _ _ trivial (fun hHeld => ?_)
                    clear hHeld hK K
                    try simp only [Act.put, List.getElem_toArray, List.getElem_cons_succ, List.getElem_cons_zero, List.setIfInBounds_toArray, List.set_cons_zero, List.set_cons_succ]
                    refine wpAnyH_take (i := 7) (oi := _) (v := ?_) rfl (by kernel_rfl) (by kernel_rfl) (by kernel_rfl) (fun _ _ _ h => h) (Or.inl ⟨by rfl, ?_⟩) trivial ?_
                    (rotate_left); (focus (intro wv hSw; clear hSw; go_simp; (try with_reducible rfl)))
                    try simp only [Act.put, List.getElem_toArray, List.getElem_cons_succ, List.getElem_cons_zero, List.setIfInBounds_toArray, List.set_cons_zero, List.set_cons_succ]
                    have fg := hO_0ac.frozen 0
                    have cg := ownNum hO_0ac hkn
                    refine wpAnyH_ready (rs := [8]) (by kernel_rfl) (by simp) ?_
                    refine AllReadyH.cons (o := _) rfl (fun K hK => ?_) AllReadyH.nil
                    go_simp
                    refine hK.out _ _ trivial (fun hHeld => ?_)
                    clear hHeld hK K
                    try simp only [Act.put, List.getElem_toArray, List.getElem_cons_succ, List.getElem_cons_zero, List.setIfInBounds_toArray, List.set_cons_zero, List.set_cons_succ]
                    refine wpAnyH_done (by kernel_rfl) ?_ _
                    have hO9 := setNumO hO_0ac 0 hkn (-1)
                    have hC9 := blk_setOther (i := 0) hC_0ac hgC (.int .i64 (-1))
                    have hZ9 := blk_setOther (i := 0) hZ_0ac (show w.heap.size ≠ g by omega) (.int .i64 (-1))
                    have hR9 := hR_0ac.setOther (C := g) (i := 0) hBg (.int .i64 (-1))
                    have hX9 := hX_0ac.setNew (C := g) (by omega) 0 (.int .i64 (-1))
                    have HN9 : Hid ((xs.set 0 (-1)).length = k) := Lib.hid (by rw [List.length_set]; exact HN.out)
                    generalize World.setCell x0ac ⟨g, 0, none⟩ (.int .i64 (-1)) = w9 at hO9 hC9 hZ9 hR9 hX9 ⊢
                    obtain ⟨r0, r1, s0_, s1_, zR⟩ := blk2 hZ9
                    obtain ⟨e0_, e1_, _, _, _⟩ := blk2 hC9
                    go_wp2_with fail
                    exact bodyPost_ret (v := .agg #[.int .i64 d, .slice (some ⟨g, 0, none⟩) k cv]) (by simp [results, Try.results45, go_sem, r0, r1]) rfl ⟨d, (xs.set 0 (-1)), (some ⟨g, 0, none⟩), cv, by rw [HN9.out], ⟨by omega, by omega⟩, by rw [HN9.out]; omega, SOwn.mono (SOwn.far2Y hO9 (by omega) _ _) (by omega), (((hR9.mono (u' := u + 130) (by omega)).setOther (by omega) _).setOther (by omega) _), ((hX9.setNew (Nat.le_refl _) _ _).setNew (Nat.le_refl _) _ _)⟩
                  · go_simp
                    refine hK.out _ _ trivial (fun hHeld => ?_)
                    clear hHeld hK K
                    try simp only [Act.put, List.getElem_toArray, List.getElem_cons_succ, List.getElem_cons_zero, List.setIfInBounds_toArray, List.set_cons_zero, List.set_cons_succ]
                    refine wpAnyH_ready (rs := [1]) (by kernel_rfl) (by simp) ?_
                    refine AllReadyH.cons (o := _) rfl (fun K hK => ?_) (AllReadyH.nil)
                    obtain ⟨_, _, _, _, _⟩ := blk2 hC_0ac
                    obtain ⟨_, _, _, _, _⟩ := blk2 hC4
                    go_simp
                    refine hK.out _ _ trivial (fun hHeld => ?_)
                    clear hHeld hK K
                    try simp only [Act.put, List.getElem_toArray, List.getElem_cons_succ, List.getElem_cons_zero, List.setIfInBounds_toArray, List.set_cons_zero, List.set_cons_succ]
                    refine wpAnyH_take (i := 7) (oi := _) (v := ?_) rfl (by kernel_rfl) (by kernel_rfl) (by kernel_rfl) (fun _ _ _ h => h) (Or.inl ⟨by rfl, ?_⟩) trivial ?_
                    (rotate_left); (focus (intro wv hSw; clear hSw; go_simp; (try with_reducible rfl)))
                    try simp only [Act.put, List.getElem_toArray, List.getElem_cons_succ, List.getElem_cons_zero, List.setIfInBounds_toArray, List.set_cons_zero, List.set_cons_succ]
                    have fg := hO_0ac.frozen 0
                    have cg := ownNum hO_0ac hkn
                    refine wpAnyH_ready (rs := [8]) (by kernel_rfl) (by simp) ?_
                    refine AllReadyH.cons (o := _) rfl (fun K hK => ?_) AllReadyH.nil
                    go_simp
                    refine hK.out _ _ trivial (fun hHeld => ?_)
                    clear hHeld hK K
                    try simp only [Act.put, List.getElem_toArray, List.getElem_cons_succ, List.getElem_cons_zero, List.setIfInBounds_toArray, List.set_cons_zero, List.set_cons_succ]
                    refine wpAnyH_done (by kernel_rfl) ?_ _
                    have hO9 := setNumO hO_0ac 0 hkn (-1)
                    have hC9 := blk_setOther (i := 0) hC_0ac hgC (.int .i64 (-1))
                    have hZ9 := blk_setOther (i := 0) hZ_0ac (show w.heap.size ≠ g by omega) (.int .i64 (-1))
                    have hR9 := hR_0ac.setOther (C := g) (i := 0) hBg (.int .i64 (-1))
                    have hX9 := hX_0ac.setNew (C := g) (by omega) 0 (.int .i64 (-1))
                    have HN9 : Hid ((xs.set 0 (-1)).length = k) := Lib.hid (by rw [List.length_set]; exact HN.out)
                    generalize World.setCell x0ac ⟨g, 0, none⟩ (.int .i64 (-1)) = w9 at hO9 hC9 hZ9 hR9 hX9 ⊢
                    obtain ⟨r0, r1, s0_, s1_, zR⟩ := blk2 hZ9
                    obtain ⟨e0_, e1_, _, _, _⟩ := blk2 hC9
                    go_wp2_with fail
                    exact bodyPost_ret (v := .agg #[.int .i64 d, .slice (some ⟨g, 0, none⟩) k cv]) (by simp [results, Try.results45, go_sem, r0, r1]) rfl ⟨d, (xs.set 0 (-1)), (some ⟨g, 0, none⟩), cv, by rw [HN9.out], ⟨by omega, by omega⟩, by rw [HN9.out]; omega, SOwn.mono (SOwn.far2Y hO9 (by omega) _ _) (by omega), (((hR9.mono (u' := u + 130) (by omega)).setOther (by omega) _).setOther (by omega) _), ((hX9.setNew (Nat.le_refl _) _ _).setNew (Nat.le_refl _) _ _)⟩
                · obtain rfl : j2 = 1 := by omega
                  clear c2
                  obtain ⟨l0_, l1_, _, _, _⟩ := blk2 hL_0ac
                  refine wpAnyH_take (i := 5) (oi := _) (v := ?_) rfl (by kernel_rfl) (by kernel_rfl) (by kernel_rfl) (fun _ _ _ h => h) (Or.inl ⟨by rfl, ?_⟩) trivial ?_
                  (rotate_left); (focus (intro wv hSw; clear hSw; go_simp; (try with_reducible rfl)))
                  try simp only [Act.put, List.getElem_toArray, List.getElem_cons_succ, List.getElem_cons_zero, List.setIfInBounds_toArray, List.set_cons_zero, List.set_cons_succ]
                  refine wpAnyH_ready (rs := [1, 6]) (by kernel_rfl) (by simp) ?_
                  refine AllReadyH.cons (o := _) rfl (fun K hK => ?_) (AllReadyH.cons (o := _) rfl (fun K hK => ?_) (AllReadyH.nil))
                  · obtain ⟨_, _, _, _, _⟩ := blk2 hC_0ac
                    obtain ⟨_, _, _, _, _⟩ := blk2 hC4
                    go_simp
                    refine hK.out _ _ trivial (fun hHeld => ?_)
                    clear hHeld hK K
                    try simp only [Act.put, List.getElem_toArray, List.getElem_cons_succ, List.getElem_cons_zero, List.setIfInBounds_toArray, List.set_cons_zero, List.set_cons_succ]
                    refine wpAnyH_ready (rs := [6]) (by kernel_rfl) (by simp) ?_
                    refine AllReadyH.cons (o := _) rfl (fun K hK => ?_) (AllReadyH.nil)
                    go_simp
                    refine hK.out _ _ trivial (fun hHeld => ?_)
                    clear hHeld hK K
                    try simp only [Act.put, List.getElem_toArray, List.getElem_cons_succ, List.getElem_cons_zero, List.setIfInBounds_toArray, List.set_cons_zero, List.set_cons_succ]
                    refine wpAnyH_take (i := 7) (oi := _) (v := ?_) rfl (by kernel_rfl) (by kernel_rfl) (by kernel_rfl) (fun _ _ _ h => h) (Or.inl ⟨by rfl, ?_⟩) trivial ?_
                    (rotate_left); (focus (intro wv hSw; clear hSw; go_simp; (try with_reducible rfl)))
                    try simp only [Act.put, List.getElem_toArray, List.getElem_cons_succ, List.getElem_cons_zero, List.setIfInBounds_toArray, List.set_cons_zero, List.set_cons_succ]
                    have fg := hO_0ac.frozen 0
                    have cg := ownNum hO_0ac hkn
                    refine wpAnyH_ready (rs := [8]) (by kernel_rfl) (by simp) ?_
                    refine AllReadyH.cons (o := _) rfl (fun K hK => ?_) AllReadyH.nil
                    go_simp
                    refine hK.out _ _ trivial (fun hHeld => ?_)
                    clear hHeld hK K
                    try simp only [Act.put, List.getElem_toArray, List.getElem_cons_succ, List.getElem_cons_zero, List.setIfInBounds_toArray, List.set_cons_zero, List.set_cons_succ]
                    refine wpAnyH_done (by kernel_rfl) ?_ _
                    have hO9 := setNumO hO_0ac 0 hkn (21)
                    have hC9 := blk_setOther (i := 0) hC_0ac hgC (.int .i64 (21))
                    have hZ9 := blk_setOther (i := 0) hZ_0ac (show w.heap.size ≠ g by omega) (.int .i64 (21))
                    have hR9 := hR_0ac.setOther (C := g) (i := 0) hBg (.int .i64 (21))
                    have hX9 := hX_0ac.setNew (C := g) (by omega) 0 (.int .i64 (21))
                    have HN9 : Hid ((xs.set 0 (21)).length = k) := Lib.hid (by rw [List.length_set]; exact HN.out)
                    generalize World.setCell x0ac ⟨g, 0, none⟩ (.int .i64 (21)) = w9 at hO9 hC9 hZ9 hR9 hX9 ⊢
                    obtain ⟨r0, r1, s0_, s1_, zR⟩ := blk2 hZ9
                    obtain ⟨e0_, e1_, _, _, _⟩ := blk2 hC9
                    go_wp2_with fail
                    exact bodyPost_ret (v := .agg #[.int .i64 d, .slice (some ⟨g, 0, none⟩) k cv]) (by simp [results, Try.results45, go_sem, r0, r1]) rfl ⟨d, (xs.set 0 (21)), (some ⟨g, 0, none⟩), cv, by rw [HN9.out], ⟨by omega, by omega⟩, by rw [HN9.out]; omega, SOwn.mono (SOwn.far2Y hO9 (by omega) _ _) (by omega), (((hR9.mono (u' := u + 130) (by omega)).setOther (by omega) _).setOther (by omega) _), ((hX9.setNew (Nat.le_refl _) _ _).setNew (Nat.le_refl _) _ _)⟩
                  · go_simp
                    refine hK.out _ _ trivial (fun hHeld => ?_)
                    clear hHeld hK K
                    try simp only [Act.put, List.getElem_toArray, List.getElem_cons_succ, List.getElem_cons_zero, List.setIfInBounds_toArray, List.set_cons_zero, List.set_cons_succ]
                    refine wpAnyH_ready (rs := [1]) (by kernel_rfl) (by simp) ?_
                    refine AllReadyH.cons (o := _) rfl (fun K hK => ?_) (AllReadyH.nil)
                    obtain ⟨_, _, _, _, _⟩ := blk2 hC_0ac
                    obtain ⟨_, _, _, _, _⟩ := blk2 hC4
                    go_simp
                    refine hK.out _ _ trivial (fun hHeld => ?_)
                    clear hHeld hK K
                    try simp only [Act.put, List.getElem_toArray, List.getElem_cons_succ, List.getElem_cons_zero, List.setIfInBounds_toArray, List.set_cons_zero, List.set_cons_succ]
                    refine wpAnyH_take (i := 7) (oi := _) (v := ?_) rfl (by kernel_rfl) (by kernel_rfl) (by kernel_rfl) (fun _ _ _ h => h) (Or.inl ⟨by rfl, ?_⟩) trivial ?_
                    (rotate_left); (focus (intro wv hSw; clear hSw; go_simp; (try with_reducible rfl)))
                    try simp only [Act.put, List.getElem_toArray, List.getElem_cons_succ, List.getElem_cons_zero, List.setIfInBounds_toArray, List.set_cons_zero, List.set_cons_succ]
                    have fg := hO_0ac.frozen 0
                    have cg := ownNum hO_0ac hkn
                    refine wpAnyH_ready (rs := [8]) (by kernel_rfl) (by simp) ?_
                    refine AllReadyH.cons (o := _) rfl (fun K hK => ?_) AllReadyH.nil
                    go_simp
                    refine hK.out _ _ trivial (fun hHeld => ?_)
                    clear hHeld hK K
                    try simp only [Act.put, List.getElem_toArray, List.getElem_cons_succ, List.getElem_cons_zero, List.setIfInBounds_toArray, List.set_cons_zero, List.set_cons_succ]
                    refine wpAnyH_done (by kernel_rfl) ?_ _
                    have hO9 := setNumO hO_0ac 0 hkn (21)
                    have hC9 := blk_setOther (i := 0) hC_0ac hgC (.int .i64 (21))
                    have hZ9 := blk_setOther (i := 0) hZ_0ac (show w.heap.size ≠ g by omega) (.int .i64 (21))
                    have hR9 := hR_0ac.setOther (C := g) (i := 0) hBg (.int .i64 (21))
                    have hX9 := hX_0ac.setNew (C := g) (by omega) 0 (.int .i64 (21))
                    have HN9 : Hid ((xs.set 0 (21)).length = k) := Lib.hid (by rw [List.length_set]; exact HN.out)
                    generalize World.setCell x0ac ⟨g, 0, none⟩ (.int .i64 (21)) = w9 at hO9 hC9 hZ9 hR9 hX9 ⊢
                    obtain ⟨r0, r1, s0_, s1_, zR⟩ := blk2 hZ9
                    obtain ⟨e0_, e1_, _, _, _⟩ := blk2 hC9
                    go_wp2_with fail
                    exact bodyPost_ret (v := .agg #[.int .i64 d, .slice (some ⟨g, 0, none⟩) k cv]) (by simp [results, Try.results45, go_sem, r0, r1]) rfl ⟨d, (xs.set 0 (21)), (some ⟨g, 0, none⟩), cv, by rw [HN9.out], ⟨by omega, by omega⟩, by rw [HN9.out]; omega, SOwn.mono (SOwn.far2Y hO9 (by omega) _ _) (by omega), (((hR9.mono (u' := u + 130) (by omega)).setOther (by omega) _).setOther (by omega) _), ((hX9.setNew (Nat.le_refl _) _ _).setNew (Nat.le_refl _) _ _)⟩
            · go_simp
              (go_at_call 64; refine (pick_any B _ 2 _ hR_0 (by omega) (by omega) (by omega)).mono ?_; rintro e x0c ⟨j2, rfl, j20, j21, hR_0c, hx_0c⟩)
              refine hK.out _ _ trivial (fun hHeld => ?_)
              clear hHeld hK K
              try simp only [Act.put, List.getElem_toArray, List.getElem_cons_succ, List.getElem_cons_zero, List.setIfInBounds_toArray, List.set_cons_zero, List.set_cons_succ]
              have hC_0c := blk_ext hC_0 hx_0c hCB
              have hZ_0c := blk_ext hZ_0 hx_0c hRB
              have hO_0c := hO_0.extK hx_0c (by omega)
              have hX_0c := hX_0.trans hx_0c
              by_cases c2 : j2 = 0
              · subst c2
                refine wpAnyH_ready (rs := [1, 2]) (by kernel_rfl) (by simp) ?_
                refine AllReadyH.cons (o := _) rfl (fun K hK => ?_) (AllReadyH.cons (o := _) rfl (fun K hK => ?_) (AllReadyH.nil))
                · obtain ⟨_, _, _, _, _⟩ := blk2 hC_0c
                  obtain ⟨_, _, _, _, _⟩ := blk2 hC4
                  go_simp
                  refine hK.out _ _ trivial (fun hHeld => ?_)
                  clear hHeld hK K
                  try simp only [Act.put, List.getElem_toArray, List.getElem_cons_succ, List.getElem_cons_zero, List.setIfInBounds_toArray, List.set_cons_zero, List.set_cons_succ]
                  refine wpAnyH_ready (rs := [2]) (by kernel_rfl) (by simp) ?_
                  refine AllReadyH.cons (o := _) rfl (fun K hK => ?_) (AllReadyH.nil)
                  go_simp
                  refine hK.out _ _ trivial (fun hHeld => ?_)
                  clear hHeld hK K
                  try simp only [Act.put, List.getElem_toArray, List.getElem_cons_succ, List.getElem_cons_zero, List.setIfInBounds_toArray, List.set_cons_zero, List.set_cons_succ]
                  have hC_0ca := blk_old hC_0c (.cells #[.int .i64 (-1), .int .i64 21] 3)
                  have hZ_0ca := blk_old hZ_0c (.cells #[.int .i64 (-1), .int .i64 21] 3)
                  have hO_0ca := hO_0c.alloc (.cells #[.int .i64 (-1), .int .i64 21] 3)
                  have hR_0ca := hR_0c.alloc (.cells #[.int .i64 (-1), .int .i64 21] 3)
                  have hX_0ca := hX_0c.alloc (.cells #[.int .i64 (-1), .int .i64 21] 3)
                  have hL_0ca : (x0c.alloc (.cells #[.int .i64 (-1), .int .i64 21] 3)).heap[x0c.heap.size]? = some (.cells #[.int .i64 (-1), .int .i64 21] 3) := blk_new x0c (.cells #[.int .i64 (-1), .int .i64 21] 3)
                  have hDB_0ca := hR_0c.lt
                  generalize (x0c.alloc (.cells #[.int .i64 (-1), .int .i64 21] 3)) = y0ca at hC_0ca hZ_0ca hO_0ca hR_0ca hX_0ca hL_0ca ⊢
                  obtain ⟨l0_, l1_, _, _, _⟩ := blk2 hL_0ca
                  refine wpAnyH_take (i := 5) (oi := _) (v := ?_) rfl (by kernel_rfl) (by kernel_rfl) (by kernel_rfl) (fun _ _ _ h => h) (Or.inl ⟨by rfl, ?_⟩) trivial ?_
                  (rotate_left); (focus (intro wv hSw; clear hSw; go_simp; (try with_reducible rfl)))
                  try simp only [Act.put, List.getElem_toArray, List.getElem_cons_succ, List.getElem_cons_zero, List.setIfInBounds_toArray, List.set_cons_zero, List.set_cons_succ]
                  refine wpAnyH_ready (rs := [6]) (by kernel_rfl) (by simp) ?_
                  refine AllReadyH.cons (o := _) rfl (fun K hK => ?_) (AllReadyH.nil)
                  go_simp
                  refine hK.out _ _ trivial (fun hHeld => ?_)
                  clear hHeld hK K
                  try simp only [Act.put, List.getElem_toArray, List.getElem_cons_succ, List.getElem_cons_zero, List.setIfInBounds_toArray, List.set_cons_zero, List.set_cons_succ]
                  refine wpAnyH_take (i := 7) (oi := _) (v := ?_) rfl (by kernel_rfl) (by kernel_rfl) (by kernel_rfl) (fun _ _ _ h => h) (Or.inl ⟨by rfl, ?_⟩) trivial ?_
                  (rotate_left); (focus (intro wv hSw; clear hSw; go_simp; (try with_reducible rfl)))
                  try simp only [Act.put, List.getElem_toArray, List.getElem_cons_succ, List.getElem_cons_zero, List.setIfInBounds_toArray, List.set_cons_zero, List.set_cons_succ]
                  have fg := hO_0ca.frozen 0
                  have cg := ownNum hO_0ca hkn
                  refine wpAnyH_ready (rs := [8]) (by kernel_rfl) (by simp) ?_
                  refine AllReadyH.cons (o := _) rfl (fun K hK => ?_) AllReadyH.nil
                  go_simp
                  refine hK.out _ _ trivial (fun hHeld => ?_)
                  clear hHeld hK K
                  try simp only [Act.put, List.getElem_toArray, List.getElem_cons_succ, List.getElem_cons_zero, List.setIfInBounds_toArray, List.set_cons_zero, List.set_cons_succ]
                  refine wpAnyH_done (by kernel_rfl) ?_ _
                  have hO9 := setNumO hO_0ca 0 hkn (-1)
                  have hC9 := blk_setOther (i := 0) hC_0ca hgC (.int .i64 (-1))
                  have hZ9 := blk_setOther (i := 0) hZ_0ca (show w.heap.size ≠ g by omega) (.int .i64 (-1))
                  have hR9 := hR_0ca.setOther (C := g) (i := 0) hBg (.int .i64 (-1))
                  have hX9 := hX_0ca.setNew (C := g) (by omega) 0 (.int .i64 (-1))
                  have HN9 : Hid ((xs.set 0 (-1)).length = k) := Lib.hid (by rw [List.length_set]; exact HN.out)
                  generalize World.setCell y0ca ⟨g, 0, none⟩ (.int .i64 (-1)) = w9 at hO9 hC9 hZ9 hR9 hX9 ⊢
                  obtain ⟨r0, r1, s0_, s1_, zR⟩ := blk2 hZ9
                  obtain ⟨e0_, e1_, _, _, _⟩ := blk2 hC9
                  go_wp2_with fail
                  exact bodyPost_ret (v := .agg #[.int .i64 d, .slice (some ⟨g, 0, none⟩) k cv]) (by simp [results, Try.results45, go_sem, r0, r1]) rfl ⟨d, (xs.set 0 (-1)), (some ⟨g, 0, none⟩), cv, by rw [HN9.out], ⟨by omega, by omega⟩, by rw [HN9.out]; omega, SOwn.mono (SOwn.far2Y hO9 (by omega) _ _) (by omega), (((hR9.mono (u' := u + 130) (by omega)).setOther (by omega) _).setOther (by omega) _), ((hX9.setNew (Nat.le_refl _) _ _).setNew (Nat.le_refl _) _ _)⟩
                · go_simp
                  refine hK.out _ _ trivial (fun hHeld => ?_)
                  clear hHeld hK K
                  try simp only [Act.put, List.getElem_toArray, List.getElem_cons_succ, List.getElem_cons_zero, List.setIfInBounds_toArray, List.set_cons_zero, List.set_cons_succ]
                  have hC_0ca := blk_old hC_0c (.cells #[.int .i64 (-1), .int .i64 21] 3)
                  have hZ_0ca := blk_old hZ_0c (.cells #[.int .i64 (-1), .int .i64 21] 3)
                  have hO_0ca := hO_0c.alloc (.cells #[.int .i64 (-1), .int .i64 21] 3)
                  have hR_0ca := hR_0c.alloc (.cells #[.int .i64 (-1), .int .i64 21] 3)
                  have hX_0ca := hX_0c.alloc (.cells #[.int .i64 (-1), .int .i64 21] 3)
                  have hL_0ca : (x0c.alloc (.cells #[.int .i64 (-1), .int .i64 21] 3)).heap[x0c.heap.size]? = some (.cells #[.int .i64 (-1), .int .i64 21] 3) := blk_new x0c (.cells #[.int .i64 (-1), .int .i64 21] 3)
                  have hDB_0ca := hR_0c.lt
                  generalize (x0c.alloc (.cells #[.int .i64 (-1), .int .i64 21] 3)) = y0ca at hC_0ca hZ_0ca hO_0ca hR_0ca hX_0ca hL_0ca ⊢
                  obtain ⟨l0_, l1_, _, _, _⟩ := blk2 hL_0ca
                  refine wpAnyH_take (i := 5) (oi := _) (v := ?_) rfl (by kernel_rfl) (by kernel_rfl) (by kernel_rfl) (fun _ _ _ h => h) (Or.inl ⟨by rfl, ?_⟩) trivial ?_
                  (rotate_left); (focus (intro wv hSw; clear hSw; go_simp; (try with_reducible rfl)))
                  try simp only [Act.put, List.getElem_toArray, List.getElem_cons_succ, List.getElem_cons_zero, List.setIfInBounds_toArray, List.set_cons_zero, List.set_cons_succ]
                  refine wpAnyH_ready (rs := [1, 6]) (by kernel_rfl) (by simp) ?_
                  refine AllReadyH.cons (o := _) rfl (fun K hK => ?_) (AllReadyH.cons (o := _) rfl (fun K hK => ?_) (AllReadyH.nil))
                  · obtain ⟨_, _, _, _, _⟩ := blk2 hC_0ca
                    obtain ⟨_, _, _, _, _⟩ := blk2 hC4
                    go_simp
                    refine hK.out _ _ trivial (fun hHeld => ?_)
                    clear hHeld hK K
                    try simp only [Act.put, List.getElem_toArray, List.getElem_cons_succ, List.getElem_cons_zero, List.setIfInBounds_toArray, List.set_cons_zero, List.set_cons_succ]
                    refine wpAnyH_ready (rs := [6]) (by kernel_rfl) (by simp) ?_
                    refine AllReadyH.cons (o := _) rfl (fun K hK => ?_) (AllReadyH.nil)
                    go_simp
                    refine hK.out _ _ trivial (fun hHeld => ?_)
                    clear hHeld hK K
                    try simp only [Act.put, List.getElem_toArray, List.getElem_cons_succ, List.getElem_cons_zero, List.setIfInBounds_toArray, List.set_cons_zero, List.set_cons_succ]
                    refine wpAnyH_take (i := 7) (oi := _) (v := ?_) rfl (by kernel_rfl) (by kernel_rfl) (by kernel_rfl) (fun _ _ _ h => h) (Or.inl ⟨by rfl, ?_⟩) trivial ?_
                    (rotate_left); (focus (intro wv hSw; clear hSw; go_simp; (try with_reducible rfl)))
                    try simp only [Act.put, List.getElem_toArray, List.getElem_cons_succ, List.getElem_cons_zero, List.setIfInBounds_toArray, List.set_cons_zero, List.set_cons_succ]
                    have fg := hO_0ca.frozen 0
                    have cg := ownNum hO_0ca hkn
                    refine wpAnyH_ready (rs := [8]) (by kernel_rfl) (by simp) ?_
                    refine AllReadyH.cons (o := _) rfl (fun K hK => ?_) AllReadyH.nil
                    go_simp
                    refine hK.out _ _ trivial (fun hHeld => ?_)
                    clear hHeld hK K
                    try simp only [Act.put, List.getElem_toArray, List.getElem_cons_succ, List.getElem_cons_zero, List.setIfInBounds_toArray, List.set_cons_zero, List.set_cons_succ]
                    refine wpAnyH_done (by kernel_rfl) ?_ _
                    have hO9 := setNumO hO_0ca 0 hkn (-1)
                    have hC9 := blk_setOther (i := 0) hC_0ca hgC (.int .i64 (-1))
                    have hZ9 := blk_setOther (i := 0) hZ_0ca (show w.heap.size ≠ g by omega) (.int .i64 (-1))
                    have hR9 := hR_0ca.setOther (C := g) (i := 0) hBg (.int .i64 (-1))
                    have hX9 := hX_0ca.setNew (C := g) (by omega) 0 (.int .i64 (-1))
                    have HN9 : Hid ((xs.set 0 (-1)).length = k) := Lib.hid (by rw [List.length_set]; exact HN.out)
                    generalize World.setCell y0ca ⟨g, 0, none⟩ (.int .i64 (-1)) = w9 at hO9 hC9 hZ9 hR9 hX9 ⊢
                    obtain ⟨r0, r1, s0_, s1_, zR⟩ := blk2 hZ9
                    obtain ⟨e0_, e1_, _, _, _⟩ := blk2 hC9
                    go_wp2_with fail
                    exact bodyPost_ret (v := .agg #[.int .i64 d, .slice (some ⟨g, 0, none⟩) k cv]) (by simp [results, Try.results45, go_sem, r0, r1]) rfl ⟨d, (xs.set 0 (-1)), (some ⟨g, 0, none⟩), cv, by rw [HN9.out], ⟨by omega, by omega⟩, by rw [HN9.out]; omega, SOwn.mono (SOwn.far2Y hO9 (by omega) _ _) (by omega), (((hR9.mono (u' := u + 130) (by omega)).setOther (by omega) _).setOther (by omega) _), ((hX9.setNew (Nat.le_refl _) _ _).setNew (Nat.le_refl _) _ _)⟩
                  · go_simp
                    refine hK.out _ _ trivial (fun hHeld => ?_)
                    clear hHeld hK K
                    try simp only [Act.put, List.getElem_toArray, List.getElem_cons_succ, List.getElem_cons_zero, List.setIfInBounds_toArray, List.set_cons_zero, List.set_cons_succ]
                    refine wpAnyH_ready (rs := [1]) (by kernel_rfl) (by simp) ?_
                    refine AllReadyH.cons (o := _) rfl (fun K hK => ?_) (AllReadyH.nil)
                    obtain ⟨_, _, _, _, _⟩ := blk2 hC_0ca
                    obtain ⟨_, _, _, _, _⟩ := blk2 hC4
                    go_simp
                    refine hK.out _ _ trivial (fun hHeld => ?_)
                    clear hHeld hK K
                    try simp only [Act.put, List.getElem_toArray, List.getElem_cons_succ, List.getElem_cons_zero, List.setIfInBounds_toArray, List.set_cons_zero, List.set_cons_succ]
                    refine wpAnyH_take (i := 7) (oi := _) (v := ?_) rfl (by kernel_rfl) (by kernel_rfl) (by kernel_rfl) (fun _ _ _ h => h) (Or.inl ⟨by rfl, ?_⟩) trivial ?_
                    (rotate_left); (focus (intro wv hSw; clear hSw; go_simp; (try with_reducible rfl)))
                    try simp only [Act.put, List.getElem_toArray, List.getElem_cons_succ, List.getElem_cons_zero, List.setIfInBounds_toArray, List.set_cons_zero, List.set_cons_succ]
                    have fg := hO_0ca.frozen 0
                    have cg := ownNum hO_0ca hkn
                    refine wpAnyH_ready (rs := [8]) (by kernel_rfl) (by simp) ?_
                    refine AllReadyH.cons (o := _) rfl (fun K hK => ?_) AllReadyH.nil
                    go_simp
                    refine hK.out _ _ trivial (fun hHeld => ?_)
                    clear hHeld hK K
                    try simp only [Act.put, List.getElem_toArray, List.getElem_cons_succ, List.getElem_cons_zero, List.setIfInBounds_toArray, List.set_cons_zero, List.set_cons_succ]
                    refine wpAnyH_done (by kernel_rfl) ?_ _
                    have hO9 := setNumO hO_0ca 0 hkn (-1)
                    have hC9 := blk_setOther (i := 0) hC_0ca hgC (.int .i64 (-1))
                    have hZ9 := blk_setOther (i := 0) hZ_0ca (show w.heap.size ≠ g by omega) (.int .i64 (-1))
                    have hR9 := hR_0ca.setOther (C := g) (i := 0) hBg (.int .i64 (-1))
                    have hX9 := hX_0ca.setNew (C := g) (by omega) 0 (.int .i64 (-1))
                    have HN9 : Hid ((xs.set 0 (-1)).length = k) := Lib.hid (by rw [List.length_set]; exact HN.out)
                    generalize World.setCell y0ca ⟨g, 0, none⟩ (.int .i64 (-1)) = w9 at hO9 hC9 hZ9 hR9 hX9 ⊢
                    obtain ⟨r0, r1, s0_, s1_, zR⟩ := blk2 hZ9
                    obtain ⟨e0_, e1_, _, _, _⟩ := blk2 hC9
                    go_wp2_with fail
                    exact bodyPost_ret (v := .agg #[.int .i64 d, .slice (some ⟨g, 0, none⟩) k cv]) (by simp [results, Try.results45, go_sem, r0, r1]) rfl ⟨d, (xs.set 0 (-1)), (some ⟨g, 0, none⟩), cv, by rw [HN9.out], ⟨by omega, by omega⟩, by rw [HN9.out]; omega, SOwn.mono (SOwn.far2Y hO9 (by omega) _ _) (by omega), (((hR9.mono (u' := u + 130) (by omega)).setOther (by omega) _).setOther (by omega) _), ((hX9.setNew (Nat.le_refl _) _ _).setNew (Nat.le_refl _) _ _)⟩
              · obtain rfl : j2 = 1 := by omega
                clear c2
                refine wpAnyH_ready (rs := [1, 2]) (by kernel_rfl) (by simp) ?_
                refine AllReadyH.cons (o := _) rfl (fun K hK => ?_) (AllReadyH.cons (o := _) rfl (fun K hK => ?_) (AllReadyH.nil))
                · obtain ⟨_, _, _, _, _⟩ := blk2 hC_0c
                  obtain ⟨_, _, _, _, _⟩ := blk2 hC4
                  go_simp
                  refine hK.out _ _ trivial (fun hHeld => ?_)
                  clear hHeld hK K
                  try simp only [Act.put, List.getElem_toArray, List.getElem_cons_succ, List.getElem_cons_zero, List.setIfInBounds_toArray, List.set_cons_zero, List.set_cons_succ]
                  refine wpAnyH_ready (rs := [2]) (by kernel_rfl) (by simp) ?_
                  refine AllReadyH.cons (o := _) rfl (fun K hK => ?_) (AllReadyH.nil)
                  go_simp
                  refine hK.out _ _ trivial (fun hHeld => ?_)
                  clear hHeld hK K
                  try simp only [Act.put, List.getElem_toArray, List.getElem_cons_succ, List.getElem_cons_zero, List.setIfInBounds_toArray, List.set_cons_zero, List.set_cons_succ]
                  have hC_0ca := blk_old hC_0c (.cells #[.int .i64 (-1), .int .i64 21] 3)
                  have hZ_0ca := blk_old hZ_0c (.cells #[.int .i64 (-1), .int .i64 21] 3)
                  have hO_0ca := hO_0c.alloc (.cells #[.int .i64 (-1), .int .i64 21] 3)
                  have hR_0ca := hR_0c.alloc (.cells #[.int .i64 (-1), .int .i64 21] 3)
                  have hX_0ca := hX_0c.alloc (.cells #[.int .i64 (-1), .int .i64 21] 3)
                  have hL_0ca : (x0c.alloc (.cells #[.int .i64 (-1), .int .i64 21] 3)).heap[x0c.heap.size]? = some (.cells #[.int .i64 (-1), .int .i64 21] 3) := blk_new x0c (.cells #[.int .i64 (-1), .int .i64 21] 3)
                  have hDB_0ca := hR_0c.lt
                  generalize (x0c.alloc (.cells #[.int .i64 (-1), .int .i64 21] 3)) = y0ca at hC_0ca hZ_0ca hO_0ca hR_0ca hX_0ca hL_0ca ⊢
                  obtain ⟨l0_, l1_, _, _, _⟩ := blk2 hL_0ca
                  refine wpAnyH_take (i := 5) (oi := _) (v := ?_) rfl (by kernel_rfl) (by kernel_rfl) (by kernel_rfl) (fun _ _ _ h => h) (Or.inl ⟨by rfl, ?_⟩) trivial ?_
                  (rotate_left); (focus (intro wv hSw; clear hSw; go_simp; (try with_reducible rfl)))
                  try simp only [Act.put, List.getElem_toArray, List.getElem_cons_succ, List.getElem_cons_zero, List.setIfInBounds_toArray, List.set_cons_zero, List.set_cons_succ]
                  refine wpAnyH_ready (rs := [6]) (by kernel_rfl) (by simp) ?_
                  refine AllReadyH.cons (o := _) rfl (fun K hK => ?_) (AllReadyH.nil)
                  go_simp
                  refine hK.out _ _ trivial (fun hHeld => ?_)
                  clear hHeld hK K
                  try simp only [Act.put, List.getElem_toArray, List.getElem_cons_succ, List.getElem_cons_zero, List.setIfInBounds_toArray, List.set_cons_zero, List.set_cons_succ]
                  refine wpAnyH_take (i := 7) (oi := _) (v := ?_) rfl (by kernel_rfl) (by kernel_rfl) (by kernel_rfl) (fun _ _ _ h => h) (Or.inl ⟨by rfl, ?_⟩) trivial ?_
                  (rotate_left); (focus (intro wv hSw; clear hSw; go_simp; (try with_reducible rfl)))
                  try simp only [Act.put, List.getElem_toArray, List.getElem_cons_succ, List.getElem_cons_zero, List.setIfInBounds_toArray, List.set_cons_zero, List.set_cons_succ]
                  have fg := hO_0ca.frozen 0
                  have cg := ownNum hO_0ca hkn
                  refine wpAnyH_ready (rs := [8]) (by kernel_rfl) (by simp) ?_
                  refine AllReadyH.cons (o := _) rfl (fun K hK => ?_) AllReadyH.nil
                  go_simp
                  refine hK.out _ _ trivial (fun hHeld => ?_)
                  clear hHeld hK K
                  try simp only [Act.put, List.getElem_toArray, List.getElem_cons_succ, List.getElem_cons_zero, List.setIfInBounds_toArray, List.set_cons_zero, List.set_cons_succ]
                  refine wpAnyH_done (by kernel_rfl) ?_ _
                  have hO9 := setNumO hO_0ca 0 hkn (21)
                  have hC9 := blk_setOther (i := 0) hC_0ca hgC (.int .i64 (21))
                  have hZ9 := blk_setOther (i := 0) hZ_0ca (show w.heap.size ≠ g by omega) (.int .i64 (21))
                  have hR9 := hR_0ca.setOther (C := g) (i := 0) hBg (.int .i64 (21))
                  have hX9 := hX_0ca.setNew (C := g) (by omega) 0 (.int .i64 (21))
                  have HN9 : Hid ((xs.set 0 (21)).length = k) := Lib.hid (by rw [List.length_set]; exact HN.out)
                  generalize World.setCell y0ca ⟨g, 0, none⟩ (.int .i64 (21)) = w9 at hO9 hC9 hZ9 hR9 hX9 ⊢
                  obtain ⟨r0, r1, s0_, s1_, zR⟩ := blk2 hZ9
                  obtain ⟨e0_, e1_, _, _, _⟩ := blk2 hC9
                  go_wp2_with fail
                  exact bodyPost_ret (v := .agg #[.int .i64 d, .slice (some ⟨g, 0, none⟩) k cv]) (by simp [results, Try.results45, go_sem, r0, r1]) rfl ⟨d, (xs.set 0 (21)), (some ⟨g, 0, none⟩), cv, by rw [HN9.out], ⟨by omega, by omega⟩, by rw [HN9.out]; omega, SOwn.mono (SOwn.far2Y hO9 (by omega) _ _) (by omega), (((hR9.mono (u' := u + 130) (by omega)).setOther (by omega) _).setOther (by omega) _), ((hX9.setNew (Nat.le_refl _) _ _).setNew (Nat.le_refl _) _ _)⟩
                · go_simp
                  refine hK.out _ _ trivial (fun hHeld => ?_)
                  clear hHeld hK K
                  try simp only [Act.put, List.getElem_toArray, List.getElem_cons_succ, List.getElem_cons_zero, List.setIfInBounds_toArray, List.set_cons_zero, List.set_cons_succ]
                  have hC_0ca := blk_old hC_0c (.cells #[.int .i64 (-1), .int .i64 21] 3)
                  have hZ_0ca := blk_old hZ_0c (.cells #[.int .i64 (-1), .int .i64 21] 3)
                  have hO_0ca := hO_0c.alloc (.cells #[.int .i64 (-1), .int .i64 21] 3)
                  have hR_0ca := hR_0c.alloc (.cells #[.int .i64 (-1), .int .i64 21] 3)
                  have hX_0ca := hX_0c.alloc (.cells #[.int .i64 (-1), .int .i64 21] 3)
                  have hL_0ca : (x0c.alloc (.cells #[.int .i64 (-1), .int .i64 21] 3)).heap[x0c.heap.size]? = some (.cells #[.int .i64 (-1), .int .i64 21] 3) := blk_new x0c (.cells #[.int .i64 (-1), .int .i64 21] 3)
                  have hDB_0ca := hR_0c.lt
                  generalize (x0c.alloc (.cells #[.int .i64 (-1), .int .i64 21] 3)) = y0ca at hC_0ca hZ_0ca hO_0ca hR_0ca hX_0ca hL_0ca ⊢
                  obtain ⟨l0_, l1_, _, _, _⟩ := blk2 hL_0ca
                  refine wpAnyH_take (i := 5) (oi := _) (v := ?_) rfl (by kernel_rfl) (by kernel_rfl) (by kernel_rfl) (fun _ _ _ h => h) (Or.inl ⟨by rfl, ?_⟩) trivial ?_
                  (rotate_left); (focus (intro wv hSw; clear hSw; go_simp; (try with_reducible rfl)))
                  try simp only [Act.put, List.getElem_toArray, List.getElem_cons_succ, List.getElem_cons_zero, List.setIfInBounds_toArray, List.set_cons_zero, List.set_cons_succ]
                  refine wpAnyH_ready (rs := [1, 6]) (by kernel_rfl) (by simp) ?_
                  refine AllReadyH.cons (o := _) rfl (fun K hK => ?_) (AllReadyH.cons (o := _) rfl (fun K hK => ?_) (AllReadyH.nil))
                  · obtain ⟨_, _, _, _, _⟩ := blk2 hC_0ca
                    obtain ⟨_, _, _, _, _⟩ := blk2 hC4
                    go_simp
                    refine hK.out _ _ trivial (fun hHeld => ?_)
                    clear hHeld hK K
                    try simp only [Act.put, List.getElem_toArray, List.getElem_cons_succ, List.getElem_cons_zero, List.setIfInBounds_toArray, List.set_cons_zero, List.set_cons_succ]
                    refine wpAnyH_ready (rs := [6]) (by kernel_rfl) (by simp) ?_
                    refine AllReadyH.cons (o := _) rfl (fun K hK => ?_) (AllReadyH.nil)
                    go_simp
                    refine hK.out _ _ trivial (fun hHeld => ?_)
                    clear hHeld hK K
                    try simp only [Act.put, List.getElem_toArray, List.getElem_cons_succ, List.getElem_cons_zero, List.setIfInBounds_toArray, List.set_cons_zero, List.set_cons_succ]
                    refine wpAnyH_take (i := 7) (oi := _) (v := ?_) rfl (by kernel_rfl) (by kernel_rfl) (by kernel_rfl) (fun _ _ _ h => h) (Or.inl ⟨by rfl, ?_⟩) trivial ?_
                    (rotate_left); (focus (intro wv hSw; clear hSw; go_simp; (try with_reducible rfl)))
                    try simp only [Act.put, List.getElem_toArray, List.getElem_cons_succ, List.getElem_cons_zero, List.setIfInBounds_toArray, List.set_cons_zero, List.set_cons_succ]
                    have fg := hO_0ca.frozen 0
                    have cg := ownNum hO_0ca hkn
                    refine wpAnyH_ready (rs := [8]) (by kernel_rfl) (by simp) ?_
                    refine AllReadyH.cons (o := _) rfl (fun K hK => ?_) AllReadyH.nil
                    go_simp
                    refine hK.out _ _ trivial (fun hHeld => ?_)
                    clear hHeld hK K
                    try simp only [Act.put, List.getElem_toArray, List.getElem_cons_succ, List.getElem_cons_zero, List.setIfInBounds_toArray, List.set_cons_zero, List.set_cons_succ]
                    refine wpAnyH_done (by kernel_rfl) ?_ _
                    have hO9 := setNumO hO_0ca 0 hkn (21)
                    have hC9 := blk_setOther (i := 0) hC_0ca hgC (.int .i64 (21))
                    have hZ9 := blk_setOther (i := 0) hZ_0ca (show w.heap.size ≠ g by omega) (.int .i64 (21))
                    have hR9 := hR_0ca.setOther (C := g) (i := 0) hBg (.int .i64 (21))
                    have hX9 := hX_0ca.setNew (C := g) (by omega) 0 (.int .i64 (21))
                    have HN9 : Hid ((xs.set 0 (21)).length = k) := Lib.hid (by rw [List.length_set]; exact HN.out)
                    generalize World.setCell y0ca ⟨g, 0, none⟩ (.int .i64 (21)) = w9 at hO9 hC9 hZ9 hR9 hX9 ⊢
                    obtain ⟨r0, r1, s0_, s1_, zR⟩ := blk2 hZ9
                    obtain ⟨e0_, e1_, _, _, _⟩ := blk2 hC9
                    go_wp2_with fail
                    exact bodyPost_ret (v := .agg #[.int .i64 d, .slice (some ⟨g, 0, none⟩) k cv]) (by simp [results, Try.results45, go_sem, r0, r1]) rfl ⟨d, (xs.set 0 (21)), (some ⟨g, 0, none⟩), cv, by rw [HN9.out], ⟨by omega, by omega⟩, by rw [HN9.out]; omega, SOwn.mono (SOwn.far2Y hO9 (by omega) _ _) (by omega), (((hR9.mono (u' := u + 130) (by omega)).setOther (by omega) _).setOther (by omega) _), ((hX9.setNew (Nat.le_refl _) _ _).setNew (Nat.le_refl _) _ _)⟩
                  · go_simp
                    refine hK.out _ _ trivial (fun hHeld => ?_)
                    clear hHeld hK K
                    try simp only [Act.put, List.getElem_toArray, List.getElem_cons_succ, List.getElem_cons_zero, List.setIfInBounds_toArray, List.set_cons_zero, List.set_cons_succ]
                    refine wpAnyH_ready (rs := [1]) (by kernel_rfl) (by simp) ?_
                    refine AllReadyH.cons (o := _) rfl (fun K hK => ?_) (AllReadyH.nil)
                    obtain ⟨_, _, _, _, _⟩ := blk2 hC_0ca
                    obtain ⟨_, _, _, _, _⟩ := blk2 hC4
                    go_simp
                    refine hK.out _ _ trivial (fun hHeld => ?_)
                    clear hHeld hK K
                    try simp only [Act.put, List.getElem_toArray, List.getElem_cons_succ, List.getElem_cons_zero, List.setIfInBounds_toArray, List.set_cons_zero, List.set_cons_succ]
                    refine wpAnyH_take (i := 7) (oi := _) (v := ?_) rfl (by kernel_rfl) (by kernel_rfl) (by kernel_rfl) (fun _ _ _ h => h) (Or.inl ⟨by rfl, ?_⟩) trivial ?_
                    (rotate_left); (focus (intro wv hSw; clear hSw; go_simp; (try with_reducible rfl)))
                    try simp only [Act.put, List.getElem_toArray, List.getElem_cons_succ, List.getElem_cons_zero, List.setIfInBounds_toArray, List.set_cons_zero, List.set_cons_succ]
                    have fg := hO_0ca.frozen 0
                    have cg := ownNum hO_0ca hkn
                    refine wpAnyH_ready (rs := [8]) (by kernel_rfl) (by simp) ?_
                    refine AllReadyH.cons (o := _) rfl (fun K hK => ?_) AllReadyH.nil
                    go_simp
                    refine hK.out _ _ trivial (fun hHeld => ?_)
                    clear hHeld hK K
                    try simp only [Act.put, List.getElem_toArray, List.getElem_cons_succ, List.getElem_cons_zero, List.setIfInBounds_toArray, List.set_cons_zero, List.set_cons_succ]
                    refine wpAnyH_done (by kernel_rfl) ?_ _
                    have hO9 := setNumO hO_0ca 0 hkn (21)
                    have hC9 := blk_setOther (i := 0) hC_0ca hgC (.int .i64 (21))
                    have hZ9 := blk_setOther (i := 0) hZ_0ca (show w.heap.size ≠ g by omega) (.int .i64 (21))
                    have hR9 := hR_0ca.setOther (C := g) (i := 0) hBg (.int .i64 (21))
                    have hX9 := hX_0ca.setNew (C := g) (by omega) 0 (.int .i64 (21))
                    have HN9 : Hid ((xs.set 0 (21)).length = k) := Lib.hid (by rw [List.length_set]; exact HN.out)
                    generalize World.setCell y0ca ⟨g, 0, none⟩ (.int .i64 (21)) = w9 at hO9 hC9 hZ9 hR9 hX9 ⊢
                    obtain ⟨r0, r1, s0_, s1_, zR⟩ := blk2 hZ9
                    obtain ⟨e0_, e1_, _, _, _⟩ := blk2 hC9
                    go_wp2_with fail
                    exact bodyPost_ret (v := .agg #[.int .i64 d, .slice (some ⟨g, 0, none⟩) k cv]) (by simp [results, Try.results45, go_sem, r0, r1]) rfl ⟨d, (xs.set 0 (21)), (some ⟨g, 0, none⟩), cv, by rw [HN9.out], ⟨by omega, by omega⟩, by rw [HN9.out]; omega, SOwn.mono (SOwn.far2Y hO9 (by omega) _ _) (by omega), (((hR9.mono (u' := u + 130) (by omega)).setOther (by omega) _).setOther (by omega) _), ((hX9.setNew (Nat.le_refl _) _ _).setNew (Nat.le_refl _) _ _)⟩
          · have e1 : (j == 1) = false := by rw [beq_eq_false_iff_ne]; exact cj1
            clear cj0 cj1
            obtain ⟨r0, r1, s0_, s1_, zR⟩ := blk2 hZ4
            go_wp2_with fail
            exact bodyPost_ret (v := .agg #[.int .i64 0, .slice none 0 0]) (by simp [results, Try.results45, go_sem, r0, r1]) rfl ⟨0, [], none, 0, rfl, ⟨by omega, by omega⟩, by simp, SOwn.nil _ _ _, (((h4.mono (u' := u + 130) (by omega)).setOther (by omega) _).setOther (by omega) _), ((hX4.setNew (Nat.le_refl _) _ _).setNew (Nat.le_refl _) _ _)⟩
end Go.Proofs.Ytidppabconifkaa
