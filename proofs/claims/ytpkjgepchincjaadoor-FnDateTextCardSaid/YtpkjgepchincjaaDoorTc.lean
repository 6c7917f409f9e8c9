/- Contracts of chapter 1: the text of a date, and what a text reads as. -/
import Derived.Test.YtpkjgepchincjaaDoorTb
namespace Go.Proofs.YtpkjgepchincjaaDoor
open Go Go.ChangeShapes Go.WideShapes Go.ChangeAt Go.RowKit
set_option linter.unusedSimpArgs false
set_option linter.unusedVariables false

theorem sz_two (n : Nat) : (bs (two n)).size = 2 := rfl
theorem sz_four (n : Nat) : (bs (four n)).size = 4 := rfl
theorem cat4 (y m d : Nat) : bs (four y) ++ { data := #[45] } ++ bs (two m) ++ { data := #[45] } ++ bs (two d) = bs (dtext y m d) := by
  rw [show ({ data := #[45] } : ByteArray) = bs [45] from rfl, bs_append, bs_append, bs_append, bs_append]; rfl
theorem cat5 (y m d : Nat) : bs (two (y / 100)) ++ bs (two (y % 100)) ++ { data := #[45] } ++ bs (two m) ++ { data := #[45] } ++ bs (two d) = bs (dtext y m d) := by
  rw [show ({ data := #[45] } : ByteArray) = bs [45] from rfl, bs_append, bs_append, bs_append, bs_append, bs_append]; rfl
set_option maxHeartbeats 8000000 in
theorem iDT_any (y m d : Int) (w : World) (ht : Tab w) : Calls Tryd.prog 8 #[.agg #[.int .i64 y, .int .i64 m, .int .i64 d]] w fun e w' => e = .returned (.string (bs (dateL y m d))) ∧ Below w.heap.size w w' := by
  cases hv : valB y m d
  · have HV := Lib.hid hv
    clear hv
    go_enter Tryd.func8, Tryd.ntmps8
    go_wp2_with fail
    refine (iDV_any _ _ _ _).mono ?_; rintro e w1 ⟨rfl, hw1⟩
    rw [HV.out]
    go_wp2
    go_ret
    exact ⟨ret_str (by rw [dateL_f HV.out]; rfl), (ownb hw1).2⟩
  · have hi := valB_in hv
    have hd := dim_le m (leapB y)
    obtain ⟨y0, y1, m0, m1, d0, d1⟩ := hi
    have d2 : d ≤ 31 := by omega
    have HV := Lib.hid hv
    have HT := Lib.hid ht
    clear ht
    have s1 := sz_four y.toNat
    have s2 := sz_two m.toNat
    have s3 := sz_two d.toNat
    clear hv d1 hd
    go_enter Tryd.func8, Tryd.ntmps8
    go_wp2_with fail
    refine (iDV_any _ _ _ _).mono ?_; rintro e w1 ⟨rfl, hw1⟩
    rw [HV.out]
    obtain ⟨hP1, hB1⟩ := ownb hw1
    go_wp2_with fail
    refine wp_region_held_drew (S := (fun w' => w'.heap[w.heap.size]? = some (.cells #[.int .i64 y, .int .i64 m, .int .i64 d] 24) ∧ Below w.heap.size w w')) (by kernel_rfl) ⟨hP1, hB1.drew⟩ (fun hHeld => ?_)
    obtain ⟨hP_0, hB_0⟩ := id hHeld
    refine wpAnyH_take (i := 0) (oi := _) (v := ?_) rfl (by kernel_rfl) (by kernel_rfl) (by kernel_rfl) (fun _ _ _ h => h) (Or.inl ⟨by rfl, ?_⟩) (by assumption) ?_
    (rotate_left); (focus (intro wv hSw; (obtain ⟨qP, qB⟩ := hSw); obtain ⟨_, _, _, _, _, _, _⟩ := blk3 qP; go_simp; (try with_reducible rfl)))
    try simp only [Act.put, List.getElem_toArray, List.getElem_cons_succ, List.getElem_cons_zero, List.setIfInBounds_toArray, List.set_cons_zero, List.set_cons_succ]
    refine wpAnyH_take (i := 1) (oi := _) (v := ?_) rfl (by kernel_rfl) (by kernel_rfl) (by kernel_rfl) (fun _ _ _ h => h) (Or.inl ⟨by rfl, ?_⟩) (by assumption) ?_
    (rotate_left); (focus (intro wv hSw; (obtain ⟨qP, qB⟩ := hSw); obtain ⟨_, _, _, _, _, _, _⟩ := blk3 qP; go_simp; (try with_reducible rfl)))
    try simp only [Act.put, List.getElem_toArray, List.getElem_cons_succ, List.getElem_cons_zero, List.setIfInBounds_toArray, List.set_cons_zero, List.set_cons_succ]
    refine wpAnyH_take (i := 4) (oi := _) (v := ?_) rfl (by kernel_rfl) (by kernel_rfl) (by kernel_rfl) (fun _ _ _ h => h) (Or.inl ⟨by rfl, ?_⟩) (by assumption) ?_
    (rotate_left); (focus (intro wv hSw; (obtain ⟨qP, qB⟩ := hSw); obtain ⟨_, _, _, _, _, _, _⟩ := blk3 qP; go_simp; (try with_reducible rfl)))
    try simp only [Act.put, List.getElem_toArray, List.getElem_cons_succ, List.getElem_cons_zero, List.setIfInBounds_toArray, List.set_cons_zero, List.set_cons_succ]
    refine wpAnyH_take (i := 5) (oi := _) (v := ?_) rfl (by kernel_rfl) (by kernel_rfl) (by kernel_rfl) (fun _ _ _ h => h) (Or.inl ⟨by rfl, ?_⟩) (by assumption) ?_
    (rotate_left); (focus (intro wv hSw; (obtain ⟨qP, qB⟩ := hSw); obtain ⟨_, _, _, _, _, _, _⟩ := blk3 qP; go_simp; (try with_reducible rfl)))
    try simp only [Act.put, List.getElem_toArray, List.getElem_cons_succ, List.getElem_cons_zero, List.setIfInBounds_toArray, List.set_cons_zero, List.set_cons_succ]
    refine wpAnyH_take (i := 9) (oi := _) (v := ?_) rfl (by kernel_rfl) (by kernel_rfl) (by kernel_rfl) (fun _ _ _ h => h) (Or.inl ⟨by rfl, ?_⟩) (by assumption) ?_
    (rotate_left); (focus (intro wv hSw; (obtain ⟨qP, qB⟩ := hSw); obtain ⟨_, _, _, _, _, _, _⟩ := blk3 qP; go_simp; (try with_reducible rfl)))
    try simp only [Act.put, List.getElem_toArray, List.getElem_cons_succ, List.getElem_cons_zero, List.setIfInBounds_toArray, List.set_cons_zero, List.set_cons_succ]
    refine wpAnyH_take (i := 10) (oi := _) (v := ?_) rfl (by kernel_rfl) (by kernel_rfl) (by kernel_rfl) (fun _ _ _ h => h) (Or.inl ⟨by rfl, ?_⟩) (by assumption) ?_
    (rotate_left); (focus (intro wv hSw; (obtain ⟨qP, qB⟩ := hSw); obtain ⟨_, _, _, _, _, _, _⟩ := blk3 qP; go_simp; (try with_reducible rfl)))
    try simp only [Act.put, List.getElem_toArray, List.getElem_cons_succ, List.getElem_cons_zero, List.setIfInBounds_toArray, List.set_cons_zero, List.set_cons_succ]
    refine wpAnyH_ready (rs := [2]) (by kernel_rfl) (by simp) ?_
    refine AllReadyH.cons (o := _) rfl (fun K hK => ?_) (AllReadyH.nil)
    go_simp
    (go_at_call 20; refine (pad_four _ _ (by omega) (by omega) (HT.out.next hB_0)).mono ?_; rintro e x0c ⟨rfl, hw_0c⟩)
    refine hK.out _ _ ⟨blk_next hP_0 hw_0c, bel_next hB_0 hw_0c⟩ (fun hHeld => ?_)
    clear hK K
    try simp only [Act.put, List.getElem_toArray, List.getElem_cons_succ, List.getElem_cons_zero, List.setIfInBounds_toArray, List.set_cons_zero, List.set_cons_succ]
    obtain ⟨hP_0c, hB_0c⟩ := id hHeld
    refine wpAnyH_take (i := 3) (oi := _) (v := ?_) rfl (by kernel_rfl) (by kernel_rfl) (by kernel_rfl) (fun _ _ _ h => h) (Or.inl ⟨by rfl, ?_⟩) (by assumption) ?_
    (rotate_left); (focus (intro wv hSw; (obtain ⟨qP, qB⟩ := hSw); obtain ⟨_, _, _, _, _, _, _⟩ := blk3 qP; go_simp; (try with_reducible rfl)))
    try simp only [Act.put, List.getElem_toArray, List.getElem_cons_succ, List.getElem_cons_zero, List.setIfInBounds_toArray, List.set_cons_zero, List.set_cons_succ]
    refine wpAnyH_ready (rs := [6]) (by kernel_rfl) (by simp) ?_
    refine AllReadyH.cons (o := _) rfl (fun K hK => ?_) (AllReadyH.nil)
    go_simp
    (go_at_call 20; refine (pad_two _ _ (by omega) (by omega) (HT.out.next hB_0c)).mono ?_; rintro e x0cc ⟨rfl, hw_0cc⟩)
    refine hK.out _ _ ⟨blk_next hP_0c hw_0cc, bel_next hB_0c hw_0cc⟩ (fun hHeld => ?_)
    clear hK K
    try simp only [Act.put, List.getElem_toArray, List.getElem_cons_succ, List.getElem_cons_zero, List.setIfInBounds_toArray, List.set_cons_zero, List.set_cons_succ]
    obtain ⟨hP_0cc, hB_0cc⟩ := id hHeld
    refine wpAnyH_take (i := 7) (oi := _) (v := ?_) rfl (by kernel_rfl) (by kernel_rfl) (by kernel_rfl) (fun _ _ _ h => h) (Or.inl ⟨by rfl, ?_⟩) (by assumption) ?_
    (rotate_left); (focus (intro wv hSw; (obtain ⟨qP, qB⟩ := hSw); obtain ⟨_, _, _, _, _, _, _⟩ := blk3 qP; go_simp; (try with_reducible rfl)))
    try simp only [Act.put, List.getElem_toArray, List.getElem_cons_succ, List.getElem_cons_zero, List.setIfInBounds_toArray, List.set_cons_zero, List.set_cons_succ]
    refine wpAnyH_take (i := 8) (oi := _) (v := ?_) rfl (by kernel_rfl) (by kernel_rfl) (by kernel_rfl) (fun _ _ _ h => h) (Or.inl ⟨by rfl, ?_⟩) (by assumption) ?_
    (rotate_left); (focus (intro wv hSw; (obtain ⟨qP, qB⟩ := hSw); obtain ⟨_, _, _, _, _, _, _⟩ := blk3 qP; go_simp; (try with_reducible rfl)))
    try simp only [Act.put, List.getElem_toArray, List.getElem_cons_succ, List.getElem_cons_zero, List.setIfInBounds_toArray, List.set_cons_zero, List.set_cons_succ]
    refine wpAnyH_ready (rs := [11]) (by kernel_rfl) (by simp) ?_
    refine AllReadyH.cons (o := _) rfl (fun K hK => ?_) (AllReadyH.nil)
    go_simp
    (go_at_call 20; refine (pad_two _ _ (by omega) (by omega) (HT.out.next hB_0cc)).mono ?_; rintro e x0ccc ⟨rfl, hw_0ccc⟩)
    refine hK.out _ _ ⟨blk_next hP_0cc hw_0ccc, bel_next hB_0cc hw_0ccc⟩ (fun hHeld => ?_)
    clear hK K
    try simp only [Act.put, List.getElem_toArray, List.getElem_cons_succ, List.getElem_cons_zero, List.setIfInBounds_toArray, List.set_cons_zero, List.set_cons_succ]
    obtain ⟨hP_0ccc, hB_0ccc⟩ := id hHeld
    refine wpAnyH_take (i := 12) (oi := _) (v := ?_) rfl (by kernel_rfl) (by kernel_rfl) (by kernel_rfl) (fun _ _ _ h => h) (Or.inl ⟨by rfl, ?_⟩) (by assumption) ?_
    (rotate_left); (focus (intro wv hSw; (obtain ⟨qP, qB⟩ := hSw); obtain ⟨_, _, _, _, _, _, _⟩ := blk3 qP; go_simp; (try with_reducible rfl)))
    try simp only [Act.put, List.getElem_toArray, List.getElem_cons_succ, List.getElem_cons_zero, List.setIfInBounds_toArray, List.set_cons_zero, List.set_cons_succ]
    refine wpAnyH_take (i := 13) (oi := _) (v := ?_) rfl (by kernel_rfl) (by kernel_rfl) (by kernel_rfl) (fun _ _ _ h => h) (Or.inl ⟨by rfl, ?_⟩) (by assumption) ?_
    (rotate_left); (focus (intro wv hSw; (obtain ⟨qP, qB⟩ := hSw); obtain ⟨_, _, _, _, _, _, _⟩ := blk3 qP; go_simp; (try with_reducible rfl)))
    try simp only [Act.put, List.getElem_toArray, List.getElem_cons_succ, List.getElem_cons_zero, List.setIfInBounds_toArray, List.set_cons_zero, List.set_cons_succ]
    refine wpAnyH_done (by kernel_rfl) ?_ _
    go_wp2_with fail
    go_ret
    exact ⟨ret_str (by rw [dateL_t HV.out]; exact cat4 _ _ _), hB_0ccc⟩
set_option maxHeartbeats 8000000 in
theorem sDT_any (y m d : Int) (w : World) : Calls Tryd.prog 9 #[.agg #[.int .i64 y, .int .i64 m, .int .i64 d]] w fun e w' => e = .returned (.string (bs (dateL y m d))) ∧ Below w.heap.size w w' := by
  cases hv : valB y m d
  · have HV := Lib.hid hv
    clear hv
    go_enter Tryd.func9, Tryd.ntmps9
    go_wp2_with fail
    refine (sDV_any _ _ _ _).mono ?_; rintro e w1 ⟨rfl, hw1⟩
    rw [HV.out]
    go_wp2
    go_ret
    exact ⟨ret_str (by rw [dateL_f HV.out]; rfl), (ownb hw1).2⟩
  · have hi := valB_in hv
    have hd := dim_le m (leapB y)
    obtain ⟨y0, y1, m0, m1, d0, d1⟩ := hi
    have d2 : d ≤ 31 := by omega
    have HV := Lib.hid hv
    have s1 := sz_four y.toNat
    have s2 := sz_two m.toNat
    have s3 := sz_two d.toNat
    have s4 := sz_two (y / 100).toNat
    have s5 := sz_two (y % 100).toNat
    have q1 : IntKind.i64.wrap (y.tdiv 100) = y / 100 := by rw [Int.tdiv_eq_ediv_of_nonneg (by omega)]; exact IntWalk.i64_in _ (by omega)
    have q2 : y.tmod 100 = y % 100 := Int.tmod_eq_emod_of_nonneg (by omega)
    clear hv d1 hd
    go_enter Tryd.func9, Tryd.ntmps9
    go_wp2_with fail
    refine (sDV_any _ _ _ _).mono ?_; rintro e w1 ⟨rfl, hw1⟩
    rw [HV.out]
    obtain ⟨hP1, hB1⟩ := ownb hw1
    go_wp2_with fail
    refine wp_region_held_drew (S := (fun w' => w'.heap[w.heap.size]? = some (.cells #[.int .i64 y, .int .i64 m, .int .i64 d] 24) ∧ Below w.heap.size w w')) (by kernel_rfl) ⟨hP1, hB1.drew⟩ (fun hHeld => ?_)
    obtain ⟨hP_0, hB_0⟩ := id hHeld
    refine wpAnyH_take (i := 0) (oi := _) (v := ?_) rfl (by kernel_rfl) (by kernel_rfl) (by kernel_rfl) (fun _ _ _ h => h) (Or.inl ⟨by rfl, ?_⟩) (by assumption) ?_
    (rotate_left); (focus (intro wv hSw; (obtain ⟨qP, qB⟩ := hSw); obtain ⟨_, _, _, _, _, _, _⟩ := blk3 qP; go_simp; (try with_reducible rfl)))
    try simp only [Act.put, List.getElem_toArray, List.getElem_cons_succ, List.getElem_cons_zero, List.setIfInBounds_toArray, List.set_cons_zero, List.set_cons_succ]
    refine wpAnyH_take (i := 1) (oi := _) (v := ?_) rfl (by kernel_rfl) (by kernel_rfl) (by kernel_rfl) (fun _ _ _ h => h) (Or.inl ⟨by rfl, ?_⟩) (by assumption) ?_
    (rotate_left); (focus (intro wv hSw; (obtain ⟨qP, qB⟩ := hSw); obtain ⟨_, _, _, _, _, _, _⟩ := blk3 qP; go_simp; (try with_reducible rfl)))
    try simp only [Act.put, List.getElem_toArray, List.getElem_cons_succ, List.getElem_cons_zero, List.setIfInBounds_toArray, List.set_cons_zero, List.set_cons_succ]
    refine wpAnyH_take (i := 2) (oi := _) (v := ?_) rfl (by kernel_rfl) (by kernel_rfl) (by kernel_rfl) (fun _ _ _ h => h) (Or.inl ⟨by rfl, ?_⟩) (by assumption) ?_
    (rotate_left); (focus (intro wv hSw; (obtain ⟨qP, qB⟩ := hSw); obtain ⟨_, _, _, _, _, _, _⟩ := blk3 qP; go_simp; (try with_reducible rfl)))
    try simp only [Act.put, List.getElem_toArray, List.getElem_cons_succ, List.getElem_cons_zero, List.setIfInBounds_toArray, List.set_cons_zero, List.set_cons_succ]
    refine wpAnyH_take (i := 4) (oi := _) (v := ?_) rfl (by kernel_rfl) (by kernel_rfl) (by kernel_rfl) (fun _ _ _ h => h) (Or.inl ⟨by rfl, ?_⟩) (by assumption) ?_
    (rotate_left); (focus (intro wv hSw; (obtain ⟨qP, qB⟩ := hSw); obtain ⟨_, _, _, _, _, _, _⟩ := blk3 qP; go_simp; (try with_reducible rfl)))
    try simp only [Act.put, List.getElem_toArray, List.getElem_cons_succ, List.getElem_cons_zero, List.setIfInBounds_toArray, List.set_cons_zero, List.set_cons_succ]
    refine wpAnyH_take (i := 5) (oi := _) (v := ?_) rfl (by kernel_rfl) (by kernel_rfl) (by kernel_rfl) (fun _ _ _ h => h) (Or.inl ⟨by rfl, ?_⟩) (by assumption) ?_
    (rotate_left); (focus (intro wv hSw; (obtain ⟨qP, qB⟩ := hSw); obtain ⟨_, _, _, _, _, _, _⟩ := blk3 qP; go_simp; (try with_reducible rfl)))
    try simp only [Act.put, List.getElem_toArray, List.getElem_cons_succ, List.getElem_cons_zero, List.setIfInBounds_toArray, List.set_cons_zero, List.set_cons_succ]
    refine wpAnyH_take (i := 6) (oi := _) (v := ?_) rfl (by kernel_rfl) (by kernel_rfl) (by kernel_rfl) (fun _ _ _ h => h) (Or.inl ⟨by rfl, ?_⟩) (by assumption) ?_
    (rotate_left); (focus (intro wv hSw; (obtain ⟨qP, qB⟩ := hSw); obtain ⟨_, _, _, _, _, _, _⟩ := blk3 qP; go_simp; (try with_reducible rfl)))
    try simp only [Act.put, List.getElem_toArray, List.getElem_cons_succ, List.getElem_cons_zero, List.setIfInBounds_toArray, List.set_cons_zero, List.set_cons_succ]
    refine wpAnyH_take (i := 10) (oi := _) (v := ?_) rfl (by kernel_rfl) (by kernel_rfl) (by kernel_rfl) (fun _ _ _ h => h) (Or.inl ⟨by rfl, ?_⟩) (by assumption) ?_
    (rotate_left); (focus (intro wv hSw; (obtain ⟨qP, qB⟩ := hSw); obtain ⟨_, _, _, _, _, _, _⟩ := blk3 qP; go_simp; (try with_reducible rfl)))
    try simp only [Act.put, List.getElem_toArray, List.getElem_cons_succ, List.getElem_cons_zero, List.setIfInBounds_toArray, List.set_cons_zero, List.set_cons_succ]
    refine wpAnyH_take (i := 11) (oi := _) (v := ?_) rfl (by kernel_rfl) (by kernel_rfl) (by kernel_rfl) (fun _ _ _ h => h) (Or.inl ⟨by rfl, ?_⟩) (by assumption) ?_
    (rotate_left); (focus (intro wv hSw; (obtain ⟨qP, qB⟩ := hSw); obtain ⟨_, _, _, _, _, _, _⟩ := blk3 qP; go_simp; (try with_reducible rfl)))
    try simp only [Act.put, List.getElem_toArray, List.getElem_cons_succ, List.getElem_cons_zero, List.setIfInBounds_toArray, List.set_cons_zero, List.set_cons_succ]
    refine wpAnyH_take (i := 15) (oi := _) (v := ?_) rfl (by kernel_rfl) (by kernel_rfl) (by kernel_rfl) (fun _ _ _ h => h) (Or.inl ⟨by rfl, ?_⟩) (by assumption) ?_
    (rotate_left); (focus (intro wv hSw; (obtain ⟨qP, qB⟩ := hSw); obtain ⟨_, _, _, _, _, _, _⟩ := blk3 qP; go_simp; (try with_reducible rfl)))
    try simp only [Act.put, List.getElem_toArray, List.getElem_cons_succ, List.getElem_cons_zero, List.setIfInBounds_toArray, List.set_cons_zero, List.set_cons_succ]
    refine wpAnyH_take (i := 16) (oi := _) (v := ?_) rfl (by kernel_rfl) (by kernel_rfl) (by kernel_rfl) (fun _ _ _ h => h) (Or.inl ⟨by rfl, ?_⟩) (by assumption) ?_
    (rotate_left); (focus (intro wv hSw; (obtain ⟨qP, qB⟩ := hSw); obtain ⟨_, _, _, _, _, _, _⟩ := blk3 qP; go_simp; (try with_reducible rfl)))
    try simp only [Act.put, List.getElem_toArray, List.getElem_cons_succ, List.getElem_cons_zero, List.setIfInBounds_toArray, List.set_cons_zero, List.set_cons_succ]
    refine wpAnyH_ready (rs := [3]) (by kernel_rfl) (by simp) ?_
    refine AllReadyH.cons (o := _) rfl (fun K hK => ?_) (AllReadyH.nil)
    go_simp
    (go_at_call 22; refine (l1Two_any _ _ (by omega) (by omega)).mono ?_; rintro e x0c ⟨rfl, hw_0c⟩)
    refine hK.out _ _ ⟨blk_next hP_0 hw_0c, bel_next hB_0 hw_0c⟩ (fun hHeld => ?_)
    clear hK K
    try simp only [Act.put, List.getElem_toArray, List.getElem_cons_succ, List.getElem_cons_zero, List.setIfInBounds_toArray, List.set_cons_zero, List.set_cons_succ]
    obtain ⟨hP_0c, hB_0c⟩ := id hHeld
    refine wpAnyH_ready (rs := [7]) (by kernel_rfl) (by simp) ?_
    refine AllReadyH.cons (o := _) rfl (fun K hK => ?_) (AllReadyH.nil)
    go_simp
    (go_at_call 22; refine (l1Two_any _ _ (by omega) (by omega)).mono ?_; rintro e x0cc ⟨rfl, hw_0cc⟩)
    refine hK.out _ _ ⟨blk_next hP_0c hw_0cc, bel_next hB_0c hw_0cc⟩ (fun hHeld => ?_)
    clear hK K
    try simp only [Act.put, List.getElem_toArray, List.getElem_cons_succ, List.getElem_cons_zero, List.setIfInBounds_toArray, List.set_cons_zero, List.set_cons_succ]
    obtain ⟨hP_0cc, hB_0cc⟩ := id hHeld
    refine wpAnyH_take (i := 8) (oi := _) (v := ?_) rfl (by kernel_rfl) (by kernel_rfl) (by kernel_rfl) (fun _ _ _ h => h) (Or.inl ⟨by rfl, ?_⟩) (by assumption) ?_
    (rotate_left); (focus (intro wv hSw; (obtain ⟨qP, qB⟩ := hSw); obtain ⟨_, _, _, _, _, _, _⟩ := blk3 qP; go_simp; (try with_reducible rfl)))
    try simp only [Act.put, List.getElem_toArray, List.getElem_cons_succ, List.getElem_cons_zero, List.setIfInBounds_toArray, List.set_cons_zero, List.set_cons_succ]
    refine wpAnyH_take (i := 9) (oi := _) (v := ?_) rfl (by kernel_rfl) (by kernel_rfl) (by kernel_rfl) (fun _ _ _ h => h) (Or.inl ⟨by rfl, ?_⟩) (by assumption) ?_
    (rotate_left); (focus (intro wv hSw; (obtain ⟨qP, qB⟩ := hSw); obtain ⟨_, _, _, _, _, _, _⟩ := blk3 qP; go_simp; (try with_reducible rfl)))
    try simp only [Act.put, List.getElem_toArray, List.getElem_cons_succ, List.getElem_cons_zero, List.setIfInBounds_toArray, List.set_cons_zero, List.set_cons_succ]
    refine wpAnyH_ready (rs := [12]) (by kernel_rfl) (by simp) ?_
    refine AllReadyH.cons (o := _) rfl (fun K hK => ?_) (AllReadyH.nil)
    go_simp
    (go_at_call 22; refine (l1Two_any _ _ (by omega) (by omega)).mono ?_; rintro e x0ccc ⟨rfl, hw_0ccc⟩)
    refine hK.out _ _ ⟨blk_next hP_0cc hw_0ccc, bel_next hB_0cc hw_0ccc⟩ (fun hHeld => ?_)
    clear hK K
    try simp only [Act.put, List.getElem_toArray, List.getElem_cons_succ, List.getElem_cons_zero, List.setIfInBounds_toArray, List.set_cons_zero, List.set_cons_succ]
    obtain ⟨hP_0ccc, hB_0ccc⟩ := id hHeld
    refine wpAnyH_take (i := 13) (oi := _) (v := ?_) rfl (by kernel_rfl) (by kernel_rfl) (by kernel_rfl) (fun _ _ _ h => h) (Or.inl ⟨by rfl, ?_⟩) (by assumption) ?_
    (rotate_left); (focus (intro wv hSw; (obtain ⟨qP, qB⟩ := hSw); obtain ⟨_, _, _, _, _, _, _⟩ := blk3 qP; go_simp; (try with_reducible rfl)))
    try simp only [Act.put, List.getElem_toArray, List.getElem_cons_succ, List.getElem_cons_zero, List.setIfInBounds_toArray, List.set_cons_zero, List.set_cons_succ]
    refine wpAnyH_take (i := 14) (oi := _) (v := ?_) rfl (by kernel_rfl) (by kernel_rfl) (by kernel_rfl) (fun _ _ _ h => h) (Or.inl ⟨by rfl, ?_⟩) (by assumption) ?_
    (rotate_left); (focus (intro wv hSw; (obtain ⟨qP, qB⟩ := hSw); obtain ⟨_, _, _, _, _, _, _⟩ := blk3 qP; go_simp; (try with_reducible rfl)))
    try simp only [Act.put, List.getElem_toArray, List.getElem_cons_succ, List.getElem_cons_zero, List.setIfInBounds_toArray, List.set_cons_zero, List.set_cons_succ]
    refine wpAnyH_ready (rs := [17]) (by kernel_rfl) (by simp) ?_
    refine AllReadyH.cons (o := _) rfl (fun K hK => ?_) (AllReadyH.nil)
    go_simp
    (go_at_call 22; refine (l1Two_any _ _ (by omega) (by omega)).mono ?_; rintro e x0cccc ⟨rfl, hw_0cccc⟩)
    refine hK.out _ _ ⟨blk_next hP_0ccc hw_0cccc, bel_next hB_0ccc hw_0cccc⟩ (fun hHeld => ?_)
    clear hK K
    try simp only [Act.put, List.getElem_toArray, List.getElem_cons_succ, List.getElem_cons_zero, List.setIfInBounds_toArray, List.set_cons_zero, List.set_cons_succ]
    obtain ⟨hP_0cccc, hB_0cccc⟩ := id hHeld
    refine wpAnyH_take (i := 18) (oi := _) (v := ?_) rfl (by kernel_rfl) (by kernel_rfl) (by kernel_rfl) (fun _ _ _ h => h) (Or.inl ⟨by rfl, ?_⟩) (by assumption) ?_
    (rotate_left); (focus (intro wv hSw; (obtain ⟨qP, qB⟩ := hSw); obtain ⟨_, _, _, _, _, _, _⟩ := blk3 qP; go_simp; (try with_reducible rfl)))
    try simp only [Act.put, List.getElem_toArray, List.getElem_cons_succ, List.getElem_cons_zero, List.setIfInBounds_toArray, List.set_cons_zero, List.set_cons_succ]
    refine wpAnyH_take (i := 19) (oi := _) (v := ?_) rfl (by kernel_rfl) (by kernel_rfl) (by kernel_rfl) (fun _ _ _ h => h) (Or.inl ⟨by rfl, ?_⟩) (by assumption) ?_
    (rotate_left); (focus (intro wv hSw; (obtain ⟨qP, qB⟩ := hSw); obtain ⟨_, _, _, _, _, _, _⟩ := blk3 qP; go_simp; (try with_reducible rfl)))
    try simp only [Act.put, List.getElem_toArray, List.getElem_cons_succ, List.getElem_cons_zero, List.setIfInBounds_toArray, List.set_cons_zero, List.set_cons_succ]
    refine wpAnyH_done (by kernel_rfl) ?_ _
    go_wp2_with fail
    go_ret
    exact ⟨ret_str (by first | rw [q1, q2] | skip; rw [dateL_t HV.out, show (y / 100).toNat = y.toNat / 100 by omega, show (y % 100).toNat = y.toNat % 100 by omega]; exact cat5 _ _ _), hB_0cccc⟩
end Go.Proofs.YtpkjgepchincjaaDoor
