/- What the laws on texts of dates draw out of a code. -/
import Derived.Test.YtpkjgepchincjaaDoorTd
import Derived.Test.YtpkjgepchincjaaDoorRd3
namespace Go.Proofs.YtpkjgepchincjaaDoor
open Go Go.ChangeShapes Go.WideShapes Go.ChangeAt Go.RowKit
set_option linter.unusedSimpArgs false
set_option linter.unusedVariables false

/-- Nothing is held. -/
def AnyW (w : World) : Prop := 0 ≤ w.heap.size
theorem AnyW.mk {w : World} : AnyW w := Nat.zero_le _
def DrewD (w : World) (e : Ending) (w' : World) : Prop := ∃ y m d : Int, e = .returned (.agg #[.int .i64 y, .int .i64 m, .int .i64 d]) ∧ -10 ≤ y ∧ y ≤ 5000 ∧ -10 ≤ m ∧ m ≤ 100 ∧ -10 ≤ d ∧ d ≤ 100 ∧ Below w.heap.size w w'
theorem drDateText_any (a : Option Addr) (len cap : Nat) (w : World) (h : CodeOk w a len cap) :
    Calls Tryd.prog 7 #[.slice a len cap] w (DrewD w) := by
  go_enter Tryd.func7, Tryd.ntmps7
  go_wp2_with fail
  refine (open_any _ _ _ _ (code_below h (bel1 _ _))).mono ?_; rintro e w1 ⟨B, rfl, hB, h1, hb1⟩
  obtain ⟨hH1, hB1⟩ := ownb hb1
  have hz1 := blk_lt hH1
  have hB' : w.heap.size < B := by simp at hB; omega
  clear hB
  go_wp2_with fail
  refine (date_any B 0 _ _ h1 (by omega) (by omega) (by omega)).mono ?_; rintro e w2 ⟨y, m, d, rfl, y0, y1, m0, m1, d0, d1, _, hx⟩
  have hH2 := blk_ext hH1 hx (by omega)
  have hB2 := hB1.trans (hx.below (N := w.heap.size) (by omega) (by omega))
  obtain ⟨c0, c1, c2, f0, f1, f2, hz⟩ := blk3 hH2
  go_wp2
  exact bodyPost_ret (v := .agg #[.int .i64 y, .int .i64 m, .int .i64 d]) (by simp [results, Tryd.results7, go_sem, c0, c1, c2]) rfl ⟨_, _, _, rfl, y0, y1, m0, m1, d0, d1, (((hB2.setCell (p := ⟨_, _, _⟩) (by simp) _).setCell (p := ⟨_, _, _⟩) (by simp) _).setCell (p := ⟨_, _, _⟩) (by simp) _)⟩
theorem rdu_drew {B : Nat} {u : Int} {w : World} (h : RdU B u w) : RdU B u w.drew := h
theorem Ext.drew {B : Nat} {a w : World} (h : Ext B a w) : Ext B a w.drew := ⟨h.os, h.tape, h.output, h.size, h.block⟩
def DrewS (w : World) (e : Ending) (w' : World) : Prop := ∃ s : ByteArray, e = .returned (.string s) ∧ s.size ≤ 30 ∧ Below w.heap.size w w'
theorem blk_str_at {w : World} {b : Nat} {t : TypeId} (zs : List ByteArray) (h : w.heap[b]? = some (.cells (zs.map Value.string).toArray t (0, 0))) (n : Nat) (hz : ∀ z ∈ zs, z.size ≤ n) (i : Nat) (hi' : i < zs.length) :
    ∃ v : ByteArray, w.cell? ⟨b, i, none⟩ = some (.string v) ∧ v.size ≤ n := by
  refine ⟨zs[i], ?_, hz _ (List.getElem_mem hi')⟩
  simp [World.cell?, h, hi']
theorem cat3_size {s v : ByteArray} {a b : Nat} (hv : v.size ≤ 1) (hs : s.size = 10) : (s.extract 0 a ++ v ++ s.extract b 10).size ≤ 30 := by
  simp only [ByteArray.size_append, ByteArray.size_extract]; omega
set_option maxRecDepth 100000 in
set_option maxHeartbeats 8000000 in
theorem drReadDate_any (a : Option Addr) (len cap : Nat) (w : World) (h : CodeOk w a len cap) :
    Calls Tryd.prog 14 #[.slice a len cap] w (DrewS w) := by
  go_enter Tryd.func14, Tryd.ntmps14
  go_wp2_with fail
  refine (open_any _ _ _ _ h).mono ?_; rintro e w1 ⟨B, rfl, hB, h1, hb1⟩
  go_wp2_with fail
  refine (date_any B 0 0 _ h1 (by omega) (by omega) (by omega)).mono ?_; rintro e w2 ⟨y, m, d, rfl, y0, y1, m0, m1, d0, d1, h2, hx2⟩
  go_wp2_with fail
  refine (sDT_any y m d _).mono ?_; rintro e w3 ⟨rfl, hw3⟩
  have h3 := h2.next hw3
  have hx3 := hx2.of_below hw3
  obtain ⟨S, hS, hz⟩ : ∃ S, bs (dateL y m d) = S ∧ (S.size = 0 ∨ S.size = 10) := ⟨_, rfl, by
    rw [bs_size]
    cases hv : valB y m d
    · left; rw [dateL_f hv]; rfl
    · right; exact dateL_len hv⟩
  rw [hS]
  clear hS y0 y1 m0 m1 d0 d1 h1 h2 hx2 hw3
  go_wp2_with fail
  refine (pick_any B _ 3 _ h3 (by omega) (by omega) (by omega)).mono ?_; rintro e w4 ⟨k, rfl, k0, k1, h4, hx4⟩
  have hx4 := hx3.trans hx4
  clear hx3 h3
  by_cases hk : k = 0
  · subst hk
    rcases hz with hz | hz
    · go_wp2_with fail
      go_ret
      exact ⟨S, rfl, by omega, hb1.trans (hx4.below hB hb1.size)⟩
    · go_wp2_with fail
      refine (pick_any B _ 10 _ h4 (by omega) (by omega) (by omega)).mono ?_; rintro e w5 ⟨i, rfl, i0, i1, h5, hx5⟩
      have hx5 := hx4.trans hx5
      clear hx4 h4
      have hb5 := h5.lt
      obtain ⟨n, rfl⟩ : ∃ n : Nat, i = n := ⟨i.toNat, by omega⟩
      go_wp2_with fail
      have q1 : IntKind.i64.wrap ((n : Int) + 1) = (n : Int) + 1 := IntWalk.i64_in _ (by omega)
      have q2 : ((n : Int) + 1).toNat = n + 1 := by omega
      have i2 : (n : Int) ≤ 10 := by omega
      have i3 : (n : Int) + 1 ≤ 10 := by omega
      have i4 : (0 : Int) ≤ (n : Int) + 1 := by omega
      have z1 : (S.extract 0 n).size = n := by simp [ByteArray.size_extract]; omega
      have z2 : (S.extract (n + 1) 10).size = 9 - n := by simp [ByteArray.size_extract]; omega
      have hR_0 : RdU B _ w5.drew := rdu_drew h5
      have hE_0 := hx5.drew
      refine wp_region_held_drew (S := AnyW) (by kernel_rfl) AnyW.mk (fun hHeld => ?_)
      clear hHeld
      refine wpAnyH_take (i := 0) (oi := _) (v := ?_) rfl (by kernel_rfl) (by kernel_rfl) (by kernel_rfl) (fun _ _ _ h => h) (Or.inl ⟨by rfl, ?_⟩) AnyW.mk ?_
      (rotate_left); (focus (intro wv hSw; clear hSw; go_simp; (try with_reducible rfl)))
      try simp only [Act.put, List.getElem_toArray, List.getElem_cons_succ, List.getElem_cons_zero, List.setIfInBounds_toArray, List.set_cons_zero, List.set_cons_succ]
      refine wpAnyH_take (i := 1) (oi := _) (v := ?_) rfl (by kernel_rfl) (by kernel_rfl) (by kernel_rfl) (fun _ _ _ h => h) (Or.inl ⟨by rfl, ?_⟩) AnyW.mk ?_
      (rotate_left); (focus (intro wv hSw; clear hSw; go_simp; (try with_reducible rfl)))
      try simp only [Act.put, List.getElem_toArray, List.getElem_cons_succ, List.getElem_cons_zero, List.setIfInBounds_toArray, List.set_cons_zero, List.set_cons_succ]
      refine wpAnyH_take (i := 2) (oi := _) (v := ?_) rfl (by kernel_rfl) (by kernel_rfl) (by kernel_rfl) (fun _ _ _ h => h) (Or.inl ⟨by rfl, ?_⟩) AnyW.mk ?_
      (rotate_left); (focus (intro wv hSw; clear hSw; go_simp; (try with_reducible rfl)))
      try simp only [Act.put, List.getElem_toArray, List.getElem_cons_succ, List.getElem_cons_zero, List.setIfInBounds_toArray, List.set_cons_zero, List.set_cons_succ]
      refine wpAnyH_take (i := 4) (oi := _) (v := ?_) rfl (by kernel_rfl) (by kernel_rfl) (by kernel_rfl) (fun _ _ _ h => h) (Or.inl ⟨by rfl, ?_⟩) AnyW.mk ?_
      (rotate_left); (focus (intro wv hSw; clear hSw; go_simp; (try with_reducible rfl)))
      try simp only [Act.put, List.getElem_toArray, List.getElem_cons_succ, List.getElem_cons_zero, List.setIfInBounds_toArray, List.set_cons_zero, List.set_cons_succ]
      refine wpAnyH_take (i := 9) (oi := _) (v := ?_) rfl (by kernel_rfl) (by kernel_rfl) (by kernel_rfl) (fun _ _ _ h => h) (Or.inl ⟨by rfl, ?_⟩) AnyW.mk ?_
      (rotate_left); (focus (intro wv hSw; clear hSw; go_simp; (try with_reducible rfl)))
      try simp only [Act.put, List.getElem_toArray, List.getElem_cons_succ, List.getElem_cons_zero, List.setIfInBounds_toArray, List.set_cons_zero, List.set_cons_succ]
      refine wpAnyH_take (i := 10) (oi := _) (v := ?_) rfl (by kernel_rfl) (by kernel_rfl) (by kernel_rfl) (fun _ _ _ h => h) (Or.inl ⟨by rfl, ?_⟩) AnyW.mk ?_
      (rotate_left); (focus (intro wv hSw; clear hSw; go_simp; (try with_reducible rfl)))
      try simp only [Act.put, List.getElem_toArray, List.getElem_cons_succ, List.getElem_cons_zero, List.setIfInBounds_toArray, List.set_cons_zero, List.set_cons_succ]
      refine wpAnyH_take (i := 11) (oi := _) (v := ?_) rfl (by kernel_rfl) (by kernel_rfl) (by kernel_rfl) (fun _ _ _ h => h) (Or.inl ⟨by rfl, ?_⟩) AnyW.mk ?_
      (rotate_left); (focus (intro wv hSw; clear hSw; go_simp; (try with_reducible rfl)))
      try simp only [Act.put, List.getElem_toArray, List.getElem_cons_succ, List.getElem_cons_zero, List.setIfInBounds_toArray, List.set_cons_zero, List.set_cons_succ]
      refine wpAnyH_take (i := 12) (oi := _) (v := ?_) rfl (by kernel_rfl) (by kernel_rfl) (by kernel_rfl) (fun _ _ _ h => h) (Or.inl ⟨by rfl, ?_⟩) AnyW.mk ?_
      (rotate_left); (focus (intro wv hSw; clear hSw; go_simp; (try with_reducible rfl)))
      try simp only [Act.put, List.getElem_toArray, List.getElem_cons_succ, List.getElem_cons_zero, List.setIfInBounds_toArray, List.set_cons_zero, List.set_cons_succ]
      refine wpAnyH_ready (rs := [3, 5]) (by kernel_rfl) (by simp) ?_
      refine AllReadyH.cons (o := _) rfl (fun K hK => ?_) (AllReadyH.cons (o := _) rfl (fun K hK => ?_) (AllReadyH.nil))
      · go_simp
        refine hK.out _ _ AnyW.mk (fun hHeld => ?_)
        clear hHeld hK K
        try simp only [Act.put, List.getElem_toArray, List.getElem_cons_succ, List.getElem_cons_zero, List.setIfInBounds_toArray, List.set_cons_zero, List.set_cons_succ]
        have hR_0a := hR_0.alloc (.cells #[.string { data := #[] }, .string { data := #[48] }, .string { data := #[45] }, .string { data := #[57] }, .string { data := #[50] }] 9)
        have hE_0a := hE_0.alloc (.cells #[.string { data := #[] }, .string { data := #[48] }, .string { data := #[45] }, .string { data := #[57] }, .string { data := #[50] }] 9)
        have hz_0a := hR_0.lt
        have hL_0a : (w5.drew.alloc (.cells #[.string { data := #[] }, .string { data := #[48] }, .string { data := #[45] }, .string { data := #[57] }, .string { data := #[50] }] 9)).heap[w5.heap.size]? = some (.cells #[.string { data := #[] }, .string { data := #[48] }, .string { data := #[45] }, .string { data := #[57] }, .string { data := #[50] }] 9) := blk_new (w5.drew) (.cells #[.string { data := #[] }, .string { data := #[48] }, .string { data := #[45] }, .string { data := #[57] }, .string { data := #[50] }] 9)
        refine wpAnyH_ready (rs := [5]) (by kernel_rfl) (by simp) ?_
        refine AllReadyH.cons (o := _) rfl (fun K hK => ?_) (AllReadyH.nil)
        go_simp
        (go_at_call 28; refine (pick_any B _ 5 _ hR_0a (by omega) (by omega) (by omega)).mono ?_; rintro e x0ac ⟨j, rfl, j0, j1, hR_0ac, hx_0ac⟩)
        refine hK.out _ _ AnyW.mk (fun hHeld => ?_)
        clear hHeld hK K
        try simp only [Act.put, List.getElem_toArray, List.getElem_cons_succ, List.getElem_cons_zero, List.setIfInBounds_toArray, List.set_cons_zero, List.set_cons_succ]
        have hE_0ac := hE_0a.trans hx_0ac
        have hL_0ac := blk_ext hL_0a hx_0ac (by omega)
        obtain ⟨v, hv, v0⟩ := blk_str_at [{ data := #[] }, { data := #[48] }, { data := #[45] }, { data := #[57] }, { data := #[50] }] hL_0ac 1 (by decide) j.toNat (by simp; omega)
        have k1 : ¬ 9223372036854775807 < n + v.size := by omega
        have k2 : ¬ 9223372036854775807 < n + v.size + (9 - n) := by omega
        refine wpAnyH_take (i := 6) (oi := _) (v := ?_) rfl (by kernel_rfl) (by kernel_rfl) (by kernel_rfl) (fun _ _ _ h => h) (Or.inl ⟨by rfl, ?_⟩) AnyW.mk ?_
        (rotate_left); (focus (intro wv hSw; clear hSw; go_simp; (try with_reducible rfl)))
        try simp only [Act.put, List.getElem_toArray, List.getElem_cons_succ, List.getElem_cons_zero, List.setIfInBounds_toArray, List.set_cons_zero, List.set_cons_succ]
        refine wpAnyH_ready (rs := [7]) (by kernel_rfl) (by simp) ?_
        refine AllReadyH.cons (o := _) rfl (fun K hK => ?_) (AllReadyH.nil)
        go_simp
        refine hK.out _ _ AnyW.mk (fun hHeld => ?_)
        clear hHeld hK K
        try simp only [Act.put, List.getElem_toArray, List.getElem_cons_succ, List.getElem_cons_zero, List.setIfInBounds_toArray, List.set_cons_zero, List.set_cons_succ]
        have hR_0acl := hR_0ac
        have hE_0acl := hE_0ac
        have hL_0acl := hL_0ac
        refine wpAnyH_take (i := 8) (oi := _) (v := ?_) rfl (by kernel_rfl) (by kernel_rfl) (by kernel_rfl) (fun _ _ _ h => h) (Or.inl ⟨by rfl, ?_⟩) AnyW.mk ?_
        (rotate_left); (focus (intro wv hSw; clear hSw; go_simp; (try with_reducible rfl)))
        try simp only [Act.put, List.getElem_toArray, List.getElem_cons_succ, List.getElem_cons_zero, List.setIfInBounds_toArray, List.set_cons_zero, List.set_cons_succ]
        refine wpAnyH_take (i := 13) (oi := _) (v := ?_) rfl (by kernel_rfl) (by kernel_rfl) (by kernel_rfl) (fun _ _ _ h => h) (Or.inl ⟨by rfl, ?_⟩) AnyW.mk ?_
        (rotate_left); (focus (intro wv hSw; clear hSw; go_simp; (try with_reducible rfl)))
        try simp only [Act.put, List.getElem_toArray, List.getElem_cons_succ, List.getElem_cons_zero, List.setIfInBounds_toArray, List.set_cons_zero, List.set_cons_succ]
        refine wpAnyH_take (i := 14) (oi := _) (v := ?_) rfl (by kernel_rfl) (by kernel_rfl) (by kernel_rfl) (fun _ _ _ h => h) (Or.inl ⟨by rfl, ?_⟩) AnyW.mk ?_
        (rotate_left); (focus (intro wv hSw; clear hSw; go_simp; (try with_reducible rfl)))
        try simp only [Act.put, List.getElem_toArray, List.getElem_cons_succ, List.getElem_cons_zero, List.setIfInBounds_toArray, List.set_cons_zero, List.set_cons_succ]
        refine wpAnyH_done (by kernel_rfl) ?_ _
        go_wp2_with fail
        go_ret
        have e1 := hE_0acl
        exact ⟨_, rfl, cat3_size v0 hz, hb1.trans (hE_0acl.below hB hb1.size)⟩
      · go_simp
        (go_at_call 28; refine (pick_any B _ 5 _ hR_0 (by omega) (by omega) (by omega)).mono ?_; rintro e x0c ⟨j, rfl, j0, j1, hR_0c, hx_0c⟩)
        refine hK.out _ _ AnyW.mk (fun hHeld => ?_)
        clear hHeld hK K
        try simp only [Act.put, List.getElem_toArray, List.getElem_cons_succ, List.getElem_cons_zero, List.setIfInBounds_toArray, List.set_cons_zero, List.set_cons_succ]
        have hE_0c := hE_0.trans hx_0c
        refine wpAnyH_ready (rs := [3]) (by kernel_rfl) (by simp) ?_
        refine AllReadyH.cons (o := _) rfl (fun K hK => ?_) (AllReadyH.nil)
        go_simp
        refine hK.out _ _ AnyW.mk (fun hHeld => ?_)
        clear hHeld hK K
        try simp only [Act.put, List.getElem_toArray, List.getElem_cons_succ, List.getElem_cons_zero, List.setIfInBounds_toArray, List.set_cons_zero, List.set_cons_succ]
        have hR_0ca := hR_0c.alloc (.cells #[.string { data := #[] }, .string { data := #[48] }, .string { data := #[45] }, .string { data := #[57] }, .string { data := #[50] }] 9)
        have hE_0ca := hE_0c.alloc (.cells #[.string { data := #[] }, .string { data := #[48] }, .string { data := #[45] }, .string { data := #[57] }, .string { data := #[50] }] 9)
        have hz_0ca := hR_0c.lt
        have hL_0ca : (x0c.alloc (.cells #[.string { data := #[] }, .string { data := #[48] }, .string { data := #[45] }, .string { data := #[57] }, .string { data := #[50] }] 9)).heap[x0c.heap.size]? = some (.cells #[.string { data := #[] }, .string { data := #[48] }, .string { data := #[45] }, .string { data := #[57] }, .string { data := #[50] }] 9) := blk_new (x0c) (.cells #[.string { data := #[] }, .string { data := #[48] }, .string { data := #[45] }, .string { data := #[57] }, .string { data := #[50] }] 9)
        obtain ⟨v, hv, v0⟩ := blk_str_at [{ data := #[] }, { data := #[48] }, { data := #[45] }, { data := #[57] }, { data := #[50] }] hL_0ca 1 (by decide) j.toNat (by simp; omega)
        have k1 : ¬ 9223372036854775807 < n + v.size := by omega
        have k2 : ¬ 9223372036854775807 < n + v.size + (9 - n) := by omega
        refine wpAnyH_take (i := 6) (oi := _) (v := ?_) rfl (by kernel_rfl) (by kernel_rfl) (by kernel_rfl) (fun _ _ _ h => h) (Or.inl ⟨by rfl, ?_⟩) AnyW.mk ?_
        (rotate_left); (focus (intro wv hSw; clear hSw; go_simp; (try with_reducible rfl)))
        try simp only [Act.put, List.getElem_toArray, List.getElem_cons_succ, List.getElem_cons_zero, List.setIfInBounds_toArray, List.set_cons_zero, List.set_cons_succ]
        refine wpAnyH_ready (rs := [7]) (by kernel_rfl) (by simp) ?_
        refine AllReadyH.cons (o := _) rfl (fun K hK => ?_) (AllReadyH.nil)
        go_simp
        refine hK.out _ _ AnyW.mk (fun hHeld => ?_)
        clear hHeld hK K
        try simp only [Act.put, List.getElem_toArray, List.getElem_cons_succ, List.getElem_cons_zero, List.setIfInBounds_toArray, List.set_cons_zero, List.set_cons_succ]
        have hR_0cal := hR_0ca
        have hE_0cal := hE_0ca
        have hL_0cal := hL_0ca
        refine wpAnyH_take (i := 8) (oi := _) (v := ?_) rfl (by kernel_rfl) (by kernel_rfl) (by kernel_rfl) (fun _ _ _ h => h) (Or.inl ⟨by rfl, ?_⟩) AnyW.mk ?_
        (rotate_left); (focus (intro wv hSw; clear hSw; go_simp; (try with_reducible rfl)))
        try simp only [Act.put, List.getElem_toArray, List.getElem_cons_succ, List.getElem_cons_zero, List.setIfInBounds_toArray, List.set_cons_zero, List.set_cons_succ]
        refine wpAnyH_take (i := 13) (oi := _) (v := ?_) rfl (by kernel_rfl) (by kernel_rfl) (by kernel_rfl) (fun _ _ _ h => h) (Or.inl ⟨by rfl, ?_⟩) AnyW.mk ?_
        (rotate_left); (focus (intro wv hSw; clear hSw; go_simp; (try with_reducible rfl)))
        try simp only [Act.put, List.getElem_toArray, List.getElem_cons_succ, List.getElem_cons_zero, List.setIfInBounds_toArray, List.set_cons_zero, List.set_cons_succ]
        refine wpAnyH_take (i := 14) (oi := _) (v := ?_) rfl (by kernel_rfl) (by kernel_rfl) (by kernel_rfl) (fun _ _ _ h => h) (Or.inl ⟨by rfl, ?_⟩) AnyW.mk ?_
        (rotate_left); (focus (intro wv hSw; clear hSw; go_simp; (try with_reducible rfl)))
        try simp only [Act.put, List.getElem_toArray, List.getElem_cons_succ, List.getElem_cons_zero, List.setIfInBounds_toArray, List.set_cons_zero, List.set_cons_succ]
        refine wpAnyH_done (by kernel_rfl) ?_ _
        go_wp2_with fail
        go_ret
        have e1 := hE_0cal
        exact ⟨_, rfl, cat3_size v0 hz, hb1.trans (hE_0cal.below hB hb1.size)⟩
  · have e0 : (k == 0) = false := by rw [beq_eq_false_iff_ne]; omega
    go_wp2_with fail
    go_ret
    exact ⟨S, rfl, by omega, hb1.trans (hx4.below hB hb1.size)⟩
end Go.Proofs.YtpkjgepchincjaaDoor
