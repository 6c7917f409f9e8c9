/- FnWayTimes: whatever the input, the law returns true, and its arguments read as they did. No conditions beyond those of the statement's row. -/
import Derived.Test.YtbegajmdadkknaaDr5
import Derived.Test.YtbegajmdadkknaaWi
import Derived.Test.YtbegajmdadkknaaLp
namespace Go.Proofs.Ytbegajmdadkknaa.fnWayTimes
open Go.Proofs.Ytbegajmdadkknaa
open Go.ChangeShapes Go.WideShapes Go.ChangeAt Go.RowKit Go.Joins
set_option linter.unusedVariables false
set_option linter.unusedSimpArgs false
set_option linter.unnecessarySimpa false

theorem own : ownKnob Try.prog.godebug = none := by kernel_rfl
theorem laidOut : laidOutB Try.prog = true := by kernel_rfl

set_option maxRecDepth 100000 in
set_option maxHeartbeats 4000000 in
theorem walk (w : World) (a0 : Option Addr) (len0 cap0 : Nat) (w0 : CodeOk w a0 len0 cap0) (a1 : Option Addr) (len1 cap1 : Nat) (w1 : CodeOk w a1 len1 cap1) :
    Calls Try.prog 5 #[.slice a0 len0 cap0, .slice a1 len1 cap1] w fun e w' => e = .returned (.bool true) ∧ Below w.heap.size w w' := by
  have w0' := w0.2.1
  unfold maxLen at w0'
  have w1' := w1.2.1
  unfold maxLen at w1'
  have hle0 := w0.1
  have hle1 := w1.1
  have HW := Lib.hid w0
  have HW1 := Lib.hid w1
  clear w0 w1
  by_cases hl : 1048576 < len0
  · go_enter Try.func5, Try.ntmps5
    go_wp2
    go_ret
    exact ⟨rfl, Below.refl _ _⟩
  · by_cases hl1 : 1048576 < len1
    · go_enter Try.func5, Try.ntmps5
      go_wp2
      go_ret
      exact ⟨rfl, Below.refl _ _⟩
    · go_enter Try.func5, Try.ntmps5
      go_wp2_with fail
      refine (drWayTimes_any _ _ _ _ HW.out).mono ?_; rintro e w1 ⟨a, b, c, d, rfl, a0, a1, b0, b1, c0, c1, d0, d1, hB0⟩
      obtain ⟨xe, hx1⟩ : ∃ z : Int, z = a * c - b * d := ⟨_, rfl⟩
      obtain ⟨xn, hx2⟩ : ∃ z : Int, z = a * d + b * c := ⟨_, rfl⟩
      have m1 := mul_bnd (B := 3003) (x := a) (y := c) (by omega) (by omega) (by omega) (by omega)
      have m2 := mul_bnd (B := 3003) (x := b) (y := d) (by omega) (by omega) (by omega) (by omega)
      have m3 := mul_bnd (B := 3003) (x := a) (y := d) (by omega) (by omega) (by omega) (by omega)
      have m4 := mul_bnd (B := 3003) (x := b) (y := c) (by omega) (by omega) (by omega) (by omega)
      have xe0 : -18036018 ≤ xe ∧ xe ≤ 18036018 := by omega
      have xn0 : -18036018 ≤ xn ∧ xn ≤ 18036018 := by omega
      clear m1 m2 m3 m4
      have HX1 := Lib.hid hx1
      have HX2 := Lib.hid hx2
      clear hx1 hx2
      go_wp2_with fail
      refine (iWT_is (r := xe) (q := xn) _ ((tE_is (by omega) (by omega) (by omega) (by omega)).trans (by rw [HX1.out])) ((tN_is (by omega) (by omega) (by omega) (by omega)).trans (by rw [HX2.out]))).mono ?_; rintro e w2 ⟨rfl, hw2⟩
      obtain ⟨hP2, hQ2, hB2⟩ := ownb2 hw2
      go_wp2_with fail
      refine wp_region_held_drew (S := (fun w' => w'.heap[w1.heap.size]? = some (.cells #[.int .i64 (a), .int .i64 (b)] 24) ∧ w'.heap[w1.heap.size + 1]? = some (.cells #[.int .i64 (c), .int .i64 (d)] 24) ∧ w'.heap[w2.heap.size]? = some (.cells #[.int .i64 (xe), .int .i64 (xn)] 24) ∧ Below w1.heap.size w1 w')) (by kernel_rfl) ⟨blk_old hP2 _, blk_old hQ2 _, blk_new w2 _, (hB2.alloc hB2.size _).drew⟩ (fun hHeld => ?_)
      obtain ⟨hP_0, hQ_0, hX_0, hB_0⟩ := id hHeld
      refine wpAnyH_take (i := 0) (oi := _) (v := ?_) rfl (by kernel_rfl) (by kernel_rfl) (by kernel_rfl) (fun _ _ _ h => h) (Or.inl ⟨by rfl, ?_⟩) (by assumption) ?_
      (rotate_left); (focus (intro wv hSw; (obtain ⟨qP, qQ, qX, qB⟩ := hSw); obtain ⟨_, _, _, _, _⟩ := blk2 qP; obtain ⟨_, _, _, _, _⟩ := blk2 qQ; obtain ⟨_, _, _, _, _⟩ := blk2 qX; go_simp; (try with_reducible rfl)))
      try simp only [Act.put, List.getElem_toArray, List.getElem_cons_succ, List.getElem_cons_zero, List.setIfInBounds_toArray, List.set_cons_zero, List.set_cons_succ]
      refine wpAnyH_take (i := 1) (oi := _) (v := ?_) rfl (by kernel_rfl) (by kernel_rfl) (by kernel_rfl) (fun _ _ _ h => h) (Or.inl ⟨by rfl, ?_⟩) (by assumption) ?_
      (rotate_left); (focus (intro wv hSw; (obtain ⟨qP, qQ, qX, qB⟩ := hSw); obtain ⟨_, _, _, _, _⟩ := blk2 qP; obtain ⟨_, _, _, _, _⟩ := blk2 qQ; obtain ⟨_, _, _, _, _⟩ := blk2 qX; go_simp; (try with_reducible rfl)))
      try simp only [Act.put, List.getElem_toArray, List.getElem_cons_succ, List.getElem_cons_zero, List.setIfInBounds_toArray, List.set_cons_zero, List.set_cons_succ]
      refine wpAnyH_take (i := 2) (oi := _) (v := ?_) rfl (by kernel_rfl) (by kernel_rfl) (by kernel_rfl) (fun _ _ _ h => h) (Or.inl ⟨by rfl, ?_⟩) (by assumption) ?_
      (rotate_left); (focus (intro wv hSw; (obtain ⟨qP, qQ, qX, qB⟩ := hSw); obtain ⟨_, _, _, _, _⟩ := blk2 qP; obtain ⟨_, _, _, _, _⟩ := blk2 qQ; obtain ⟨_, _, _, _, _⟩ := blk2 qX; go_simp; (try with_reducible rfl)))
      try simp only [Act.put, List.getElem_toArray, List.getElem_cons_succ, List.getElem_cons_zero, List.setIfInBounds_toArray, List.set_cons_zero, List.set_cons_succ]
      refine wpAnyH_ready (rs := [3]) (by kernel_rfl) (by simp) ?_
      refine AllReadyH.cons (o := _) rfl (fun K hK => ?_) (AllReadyH.nil)
      go_simp
      (go_at_call 21; refine (sWT_is (r := xe) (q := xn) _ ((tE_is (by omega) (by omega) (by omega) (by omega)).trans (by rw [HX1.out])) ((tN_is (by omega) (by omega) (by omega) (by omega)).trans (by rw [HX2.out]))).mono ?_; rintro e x0c ⟨rfl, hw_0c⟩)
      refine hK.out _ _ ⟨blk_next hP_0 hw_0c, blk_next hQ_0 hw_0c, blk_next hX_0 hw_0c, bel_next hB_0 hw_0c⟩ (fun hHeld => ?_)
      clear hK K
      try simp only [Act.put, List.getElem_toArray, List.getElem_cons_succ, List.getElem_cons_zero, List.setIfInBounds_toArray, List.set_cons_zero, List.set_cons_succ]
      obtain ⟨hP_0c, hQ_0c, hX_0c, hB_0c⟩ := id hHeld
      refine wpAnyH_take (i := 4) (oi := _) (v := ?_) rfl (by kernel_rfl) (by kernel_rfl) (by kernel_rfl) (fun _ _ _ h => h) (Or.inl ⟨by rfl, ?_⟩) (by assumption) ?_
      (rotate_left); (focus (intro wv hSw; (obtain ⟨qP, qQ, qX, qB⟩ := hSw); obtain ⟨_, _, _, _, _⟩ := blk2 qP; obtain ⟨_, _, _, _, _⟩ := blk2 qQ; obtain ⟨_, _, _, _, _⟩ := blk2 qX; go_simp; (try with_reducible rfl)))
      try simp only [Act.put, List.getElem_toArray, List.getElem_cons_succ, List.getElem_cons_zero, List.setIfInBounds_toArray, List.set_cons_zero, List.set_cons_succ]
      refine wpAnyH_done (by kernel_rfl) ?_ _
      have hT := bel_next hB0 hB_0c
      go_wp2_with fail
      refine (drWayTimes_any _ _ _ _ (code_below HW1.out hT)).mono ?_; rintro e w3 ⟨g, k, g', k', rfl, g0, g1, k0, k1, _, _, _, _, hw3⟩
      have hP3 := blk_next hP_0c hw3
      have hQ3 := blk_next hQ_0c hw3
      have hX3 := blk_next hX_0c hw3
      have hB3 := bel_next hB_0c hw3
      obtain ⟨le, hl1⟩ : ∃ z : Int, z = xe * g - xn * k := ⟨_, rfl⟩
      obtain ⟨ln, hl2⟩ : ∃ z : Int, z = xe * k + xn * g := ⟨_, rfl⟩
      obtain ⟨be, hb1⟩ : ∃ z : Int, z = c * g - d * k := ⟨_, rfl⟩
      obtain ⟨bn, hb2⟩ : ∃ z : Int, z = c * k + d * g := ⟨_, rfl⟩
      obtain ⟨se, hs1⟩ : ∃ z : Int, z = c + g := ⟨_, rfl⟩
      obtain ⟨sn, hs2⟩ : ∃ z : Int, z = d + k := ⟨_, rfl⟩
      obtain ⟨re, hr1⟩ : ∃ z : Int, z = a * se - b * sn := ⟨_, rfl⟩
      obtain ⟨rn, hr2⟩ : ∃ z : Int, z = a * sn + b * se := ⟨_, rfl⟩
      obtain ⟨he, hh1⟩ : ∃ z : Int, z = a * g - b * k := ⟨_, rfl⟩
      obtain ⟨hn, hh2⟩ : ∃ z : Int, z = a * k + b * g := ⟨_, rfl⟩
      obtain ⟨sx, hq0⟩ : ∃ z : Int, z = xe * xe + xn * xn := ⟨_, rfl⟩
      obtain ⟨su, hq1⟩ : ∃ z : Int, z = a * a + b * b := ⟨_, rfl⟩
      obtain ⟨sv, hq2⟩ : ∃ z : Int, z = c * c + d * d := ⟨_, rfl⟩
      have m1 := mul_bnd (B := 3003) (x := c) (y := g) (by omega) (by omega) (by omega) (by omega)
      have m2 := mul_bnd (B := 3003) (x := d) (y := k) (by omega) (by omega) (by omega) (by omega)
      have m3 := mul_bnd (B := 3003) (x := c) (y := k) (by omega) (by omega) (by omega) (by omega)
      have m4 := mul_bnd (B := 3003) (x := d) (y := g) (by omega) (by omega) (by omega) (by omega)
      have be0 : -18036018 ≤ be ∧ be ≤ 18036018 := by omega
      have bn0 : -18036018 ≤ bn ∧ bn ≤ 18036018 := by omega
      clear m1 m2 m3 m4
      have m1 := mul_bnd (B := 3003) (x := a) (y := g) (by omega) (by omega) (by omega) (by omega)
      have m2 := mul_bnd (B := 3003) (x := b) (y := k) (by omega) (by omega) (by omega) (by omega)
      have m3 := mul_bnd (B := 3003) (x := a) (y := k) (by omega) (by omega) (by omega) (by omega)
      have m4 := mul_bnd (B := 3003) (x := b) (y := g) (by omega) (by omega) (by omega) (by omega)
      have he0 : -18036018 ≤ he ∧ he ≤ 18036018 := by omega
      have hn0 : -18036018 ≤ hn ∧ hn ≤ 18036018 := by omega
      clear m1 m2 m3 m4
      have se0 : -5000 ≤ se ∧ se ≤ 5000 := by omega
      have sn0 : -5000 ≤ sn ∧ sn ≤ 5000 := by omega
      have m1 := mul_bnd (B := 18036018) (x := xe) (y := xe) (by omega) (by omega) (by omega) (by omega)
      have m2 := mul_bnd (B := 18036018) (x := xn) (y := xn) (by omega) (by omega) (by omega) (by omega)
      have hsq : su * sv = sx := by rw [hq0, hq1, hq2, HX1.out, HX2.out]; grind
      have E1 : Hid (IntKind.i64.wrap (su * sv) = sx) := by show IntKind.i64.wrap (su * sv) = sx; rw [hsq]; exact wr_is (by omega) (by omega)
      clear m1 m2 hsq
      have HL1 := Lib.hid hl1
      have HL2 := Lib.hid hl2
      have HB1 := Lib.hid hb1
      have HB2 := Lib.hid hb2
      have HS1 := Lib.hid hs1
      have HS2 := Lib.hid hs2
      have HR1 := Lib.hid hr1
      have HR2 := Lib.hid hr2
      have HH1 := Lib.hid hh1
      have HH2 := Lib.hid hh2
      have HQ0 := Lib.hid hq0
      have HQ1 := Lib.hid hq1
      have HQ2 := Lib.hid hq2
      clear hl1 hl2 hb1 hb2 hs1 hs2 hr1 hr2 hh1 hh2 hq0 hq1 hq2
      obtain ⟨y0, y1, y2, y3, y4⟩ := blk2 (blk_old (blk_old hX3 (.cells #[.int .i64 (g), .int .i64 (k)] 24)) (.cells #[.int .i64 (g'), .int .i64 (k')] 24))
      go_wp2_with fail
      refine (iWT_is (r := le) (q := ln) _ ((tE_is (by omega) (by omega) (by omega) (by omega)).trans (by rw [HL1.out])) ((tN_is (by omega) (by omega) (by omega) (by omega)).trans (by rw [HL2.out]))).mono ?_; rintro e w4 ⟨rfl, hw4⟩
      obtain ⟨hC4, hD4, hE4⟩ := ownb2 hw4
      have hP4 := blk_next hP3 hE4
      have hQ4 := blk_next hQ3 hE4
      have hX4 := blk_next hX3 hE4
      have hB4 := bel_next hB3 hE4
      go_upto_region 9 with fail
      go_cut [11] (fun s11 wx => ∃ M : Nat, s11 = .pointer (some ⟨M, 0, none⟩) ∧ wx.heap[M]? = some (.cells #[.int .i64 (le), .int .i64 (ln)] 24) ∧ wx.heap[w1.heap.size]? = some (.cells #[.int .i64 (a), .int .i64 (b)] 24) ∧ wx.heap[w1.heap.size + 1]? = some (.cells #[.int .i64 (c), .int .i64 (d)] 24) ∧ wx.heap[w2.heap.size]? = some (.cells #[.int .i64 (xe), .int .i64 (xn)] 24) ∧ wx.heap[w3.heap.size]? = some (.cells #[.int .i64 (g), .int .i64 (k)] 24) ∧ wx.heap[w4.heap.size]? = some (.cells #[.int .i64 (le), .int .i64 (ln)] 24) ∧ Below w1.heap.size w1 wx)
      case first =>
        refine wp_region_held_drew (S := (fun w' => w'.heap[w1.heap.size]? = some (.cells #[.int .i64 (a), .int .i64 (b)] 24) ∧ w'.heap[w1.heap.size + 1]? = some (.cells #[.int .i64 (c), .int .i64 (d)] 24) ∧ w'.heap[w2.heap.size]? = some (.cells #[.int .i64 (xe), .int .i64 (xn)] 24) ∧ w'.heap[w3.heap.size]? = some (.cells #[.int .i64 (g), .int .i64 (k)] 24) ∧ w'.heap[w4.heap.size]? = some (.cells #[.int .i64 (le), .int .i64 (ln)] 24) ∧ Below w1.heap.size w1 w')) (by kernel_rfl) ⟨blk_old hP4 _, blk_old hQ4 _, blk_old hX4 _, blk_old hC4 _, blk_new w4 _, (hB4.alloc hB4.size _).drew⟩ (fun hHeld => ?_)
        obtain ⟨hP_0, hQ_0, hX_0, hC_0, hL_0, hB_0⟩ := id hHeld
        refine wpAnyH_take (i := 0) (oi := _) (v := ?_) rfl (by kernel_rfl) (by kernel_rfl) (by kernel_rfl) (fun _ _ _ h => h) (Or.inl ⟨by rfl, ?_⟩) (by assumption) ?_
        (rotate_left); (focus (intro wv hSw; (obtain ⟨qP, qQ, qX, qC, qL, qB⟩ := hSw); obtain ⟨_, _, _, _, _⟩ := blk2 qP; obtain ⟨_, _, _, _, _⟩ := blk2 qQ; obtain ⟨_, _, _, _, _⟩ := blk2 qX; obtain ⟨_, _, _, _, _⟩ := blk2 qC; obtain ⟨_, _, _, _, _⟩ := blk2 qL; go_simp; (try with_reducible rfl)))
        try simp only [Act.put, List.getElem_toArray, List.getElem_cons_succ, List.getElem_cons_zero, List.setIfInBounds_toArray, List.set_cons_zero, List.set_cons_succ]
        refine wpAnyH_take (i := 1) (oi := _) (v := ?_) rfl (by kernel_rfl) (by kernel_rfl) (by kernel_rfl) (fun _ _ _ h => h) (Or.inl ⟨by rfl, ?_⟩) (by assumption) ?_
        (rotate_left); (focus (intro wv hSw; (obtain ⟨qP, qQ, qX, qC, qL, qB⟩ := hSw); obtain ⟨_, _, _, _, _⟩ := blk2 qP; obtain ⟨_, _, _, _, _⟩ := blk2 qQ; obtain ⟨_, _, _, _, _⟩ := blk2 qX; obtain ⟨_, _, _, _, _⟩ := blk2 qC; obtain ⟨_, _, _, _, _⟩ := blk2 qL; go_simp; (try with_reducible rfl)))
        try simp only [Act.put, List.getElem_toArray, List.getElem_cons_succ, List.getElem_cons_zero, List.setIfInBounds_toArray, List.set_cons_zero, List.set_cons_succ]
        refine wpAnyH_take (i := 2) (oi := _) (v := ?_) rfl (by kernel_rfl) (by kernel_rfl) (by kernel_rfl) (fun _ _ _ h => h) (Or.inl ⟨by rfl, ?_⟩) (by assumption) ?_
        (rotate_left); (focus (intro wv hSw; (obtain ⟨qP, qQ, qX, qC, qL, qB⟩ := hSw); obtain ⟨_, _, _, _, _⟩ := blk2 qP; obtain ⟨_, _, _, _, _⟩ := blk2 qQ; obtain ⟨_, _, _, _, _⟩ := blk2 qX; obtain ⟨_, _, _, _, _⟩ := blk2 qC; obtain ⟨_, _, _, _, _⟩ := blk2 qL; go_simp; (try with_reducible rfl)))
        try simp only [Act.put, List.getElem_toArray, List.getElem_cons_succ, List.getElem_cons_zero, List.setIfInBounds_toArray, List.set_cons_zero, List.set_cons_succ]
        refine wpAnyH_ready (rs := [3, 5]) (by kernel_rfl) (by simp) ?_
        refine AllReadyH.cons (o := _) rfl (fun K hK => ?_) (AllReadyH.cons (o := _) rfl (fun K hK => ?_) (AllReadyH.nil))
        · go_simp
          (go_at_call 20; refine (iWT_is (r := be) (q := bn) _ ((tE_is (by omega) (by omega) (by omega) (by omega)).trans (by rw [HB1.out])) ((tN_is (by omega) (by omega) (by omega) (by omega)).trans (by rw [HB2.out]))).mono ?_; rintro e x0c ⟨rfl, hw_0c⟩)
          refine hK.out _ _ ⟨blk_next hP_0 hw_0c, blk_next hQ_0 hw_0c, blk_next hX_0 hw_0c, blk_next hC_0 hw_0c, blk_next hL_0 hw_0c, bel_next hB_0 hw_0c⟩ (fun hHeld => ?_)
          clear hK K
          try simp only [Act.put, List.getElem_toArray, List.getElem_cons_succ, List.getElem_cons_zero, List.setIfInBounds_toArray, List.set_cons_zero, List.set_cons_succ]
          obtain ⟨hP_0c, hQ_0c, hX_0c, hC_0c, hL_0c, hB_0c⟩ := id hHeld
          refine wpAnyH_ready (rs := [4, 5]) (by kernel_rfl) (by simp) ?_
          refine AllReadyH.cons (o := _) rfl (fun K hK => ?_) (AllReadyH.cons (o := _) rfl (fun K hK => ?_) (AllReadyH.nil))
          · go_simp
            (go_at_call 20; refine (iWT_is (r := le) (q := ln) _ ((tE_is (by omega) (by omega) (by omega) (by omega)).trans (by rw [HL1.out, HB1.out, HB2.out, HX1.out, HX2.out]; grind)) ((tN_is (by omega) (by omega) (by omega) (by omega)).trans (by rw [HL2.out, HB1.out, HB2.out, HX1.out, HX2.out]; grind))).mono ?_; rintro e x0cc ⟨rfl, hw_0cc⟩)
            refine hK.out _ _ ⟨blk_next hP_0c hw_0cc, blk_next hQ_0c hw_0cc, blk_next hX_0c hw_0cc, blk_next hC_0c hw_0cc, blk_next hL_0c hw_0cc, bel_next hB_0c hw_0cc⟩ (fun hHeld => ?_)
            clear hK K
            try simp only [Act.put, List.getElem_toArray, List.getElem_cons_succ, List.getElem_cons_zero, List.setIfInBounds_toArray, List.set_cons_zero, List.set_cons_succ]
            obtain ⟨hP_0cc, hQ_0cc, hX_0cc, hC_0cc, hL_0cc, hB_0cc⟩ := id hHeld
            refine wpAnyH_ready (rs := [5]) (by kernel_rfl) (by simp) ?_
            refine AllReadyH.cons (o := _) rfl (fun K hK => ?_) (AllReadyH.nil)
            go_simp
            refine hK.out _ _ ⟨blk_old hP_0cc _, blk_old hQ_0cc _, blk_old hX_0cc _, blk_old hC_0cc _, blk_old hL_0cc _, hB_0cc.alloc (by have := hB_0cc.size; omega) _⟩ (fun hHeld => ?_)
            clear hK K
            try simp only [Act.put, List.getElem_toArray, List.getElem_cons_succ, List.getElem_cons_zero, List.setIfInBounds_toArray, List.set_cons_zero, List.set_cons_succ]
            obtain ⟨hP_0cca, hQ_0cca, hX_0cca, hC_0cca, hL_0cca, hB_0cca⟩ := id hHeld
            have hM_0cca : (x0cc.alloc (.cells #[.int .i64 (0), .int .i64 (0)] 24)).heap[x0cc.heap.size]? = some (.cells #[.int .i64 (0), .int .i64 (0)] 24) := by have := blk_new (x0cc) (.cells #[.int .i64 (0), .int .i64 (0)] 24); simpa using this
            have zMP_0cca : w1.heap.size < x0cc.heap.size := by have := blk_lt hP_0cc; simpa using this
            have zMQ_0cca : w1.heap.size + 1 < x0cc.heap.size := by have := blk_lt hQ_0cc; simpa using this
            have zMX_0cca : w2.heap.size < x0cc.heap.size := by have := blk_lt hX_0cc; simpa using this
            have zMC_0cca : w3.heap.size < x0cc.heap.size := by have := blk_lt hC_0cc; simpa using this
            have zML_0cca : w4.heap.size < x0cc.heap.size := by have := blk_lt hL_0cc; simpa using this
            have zMB_0cca : w1.heap.size ≤ x0cc.heap.size := by have := hB_0cc.size; simpa using this
            refine wpAnyH_ready (rs := [6]) (by kernel_rfl) (by simp) ?_
            refine AllReadyH.cons (o := _) rfl (fun K hK => ?_) (AllReadyH.nil)
            obtain ⟨sc0_0ccac, sc1_0ccac, sf0_0ccac, sf1_0ccac, sz_0ccac⟩ := blk2 hM_0cca
            go_simp
            refine hK.out _ _ ⟨blk_old hP_0cc _, blk_old hQ_0cc _, blk_old hX_0cc _, blk_old hC_0cc _, blk_old hL_0cc _, hB_0cc.alloc (by have := hB_0cc.size; omega) _⟩ (fun hHeld => ?_)
            clear hK K
            try simp only [Act.put, List.getElem_toArray, List.getElem_cons_succ, List.getElem_cons_zero, List.setIfInBounds_toArray, List.set_cons_zero, List.set_cons_succ]
            obtain ⟨hP_0ccac, hQ_0ccac, hX_0ccac, hC_0ccac, hL_0ccac, hB_0ccac⟩ := id hHeld
            have hM_0ccac : (x0cc.alloc (.cells #[.int .i64 le, .int .i64 ln] 24)).heap[x0cc.heap.size]? = some (.cells #[.int .i64 le, .int .i64 ln] 24) := by have := blk_new (x0cc) (.cells #[.int .i64 le, .int .i64 ln] 24); simpa using this
            refine wpAnyH_done (by kernel_rfl) ?_ _
            go_wp2_with fail
            go_meet
            exact ⟨_, rfl, hM_0ccac, hP_0ccac, hQ_0ccac, hX_0ccac, hC_0ccac, hL_0ccac, hB_0ccac⟩
          · go_simp
            refine hK.out _ _ ⟨blk_old hP_0c _, blk_old hQ_0c _, blk_old hX_0c _, blk_old hC_0c _, blk_old hL_0c _, hB_0c.alloc (by have := hB_0c.size; omega) _⟩ (fun hHeld => ?_)
            clear hK K
            try simp only [Act.put, List.getElem_toArray, List.getElem_cons_succ, List.getElem_cons_zero, List.setIfInBounds_toArray, List.set_cons_zero, List.set_cons_succ]
            obtain ⟨hP_0ca, hQ_0ca, hX_0ca, hC_0ca, hL_0ca, hB_0ca⟩ := id hHeld
            have hM_0ca : (x0c.alloc (.cells #[.int .i64 (0), .int .i64 (0)] 24)).heap[x0c.heap.size]? = some (.cells #[.int .i64 (0), .int .i64 (0)] 24) := by have := blk_new (x0c) (.cells #[.int .i64 (0), .int .i64 (0)] 24); simpa using this
            have zMP_0ca : w1.heap.size < x0c.heap.size := by have := blk_lt hP_0c; simpa using this
            have zMQ_0ca : w1.heap.size + 1 < x0c.heap.size := by have := blk_lt hQ_0c; simpa using this
            have zMX_0ca : w2.heap.size < x0c.heap.size := by have := blk_lt hX_0c; simpa using this
            have zMC_0ca : w3.heap.size < x0c.heap.size := by have := blk_lt hC_0c; simpa using this
            have zML_0ca : w4.heap.size < x0c.heap.size := by have := blk_lt hL_0c; simpa using this
            have zMB_0ca : w1.heap.size ≤ x0c.heap.size := by have := hB_0c.size; simpa using this
            refine wpAnyH_ready (rs := [4]) (by kernel_rfl) (by simp) ?_
            refine AllReadyH.cons (o := _) rfl (fun K hK => ?_) (AllReadyH.nil)
            go_simp
            (go_at_call 20; refine (iWT_is (r := le) (q := ln) _ ((tE_is (by omega) (by omega) (by omega) (by omega)).trans (by rw [HL1.out, HB1.out, HB2.out, HX1.out, HX2.out]; grind)) ((tN_is (by omega) (by omega) (by omega) (by omega)).trans (by rw [HL2.out, HB1.out, HB2.out, HX1.out, HX2.out]; grind))).mono ?_; rintro e x0cac ⟨rfl, hw_0cac⟩)
            refine hK.out _ _ ⟨blk_next hP_0ca hw_0cac, blk_next hQ_0ca hw_0cac, blk_next hX_0ca hw_0cac, blk_next hC_0ca hw_0cac, blk_next hL_0ca hw_0cac, bel_next hB_0ca hw_0cac⟩ (fun hHeld => ?_)
            clear hK K
            try simp only [Act.put, List.getElem_toArray, List.getElem_cons_succ, List.getElem_cons_zero, List.setIfInBounds_toArray, List.set_cons_zero, List.set_cons_succ]
            obtain ⟨hP_0cac, hQ_0cac, hX_0cac, hC_0cac, hL_0cac, hB_0cac⟩ := id hHeld
            have hM_0cac := blk_next hM_0ca hw_0cac
            refine wpAnyH_ready (rs := [6]) (by kernel_rfl) (by simp) ?_
            refine AllReadyH.cons (o := _) rfl (fun K hK => ?_) (AllReadyH.nil)
            obtain ⟨sc0_0cacc, sc1_0cacc, sf0_0cacc, sf1_0cacc, sz_0cacc⟩ := blk2 hM_0cac
            go_simp
            refine hK.out _ _ ⟨blk_store2 hP_0cac (Nat.ne_of_lt zMP_0ca) _ _, blk_store2 hQ_0cac (Nat.ne_of_lt zMQ_0ca) _ _, blk_store2 hX_0cac (Nat.ne_of_lt zMX_0ca) _ _, blk_store2 hC_0cac (Nat.ne_of_lt zMC_0ca) _ _, blk_store2 hL_0cac (Nat.ne_of_lt zML_0ca) _ _, store2_bel hB_0cac zMB_0ca _ _⟩ (fun hHeld => ?_)
            clear hK K
            try simp only [Act.put, List.getElem_toArray, List.getElem_cons_succ, List.getElem_cons_zero, List.setIfInBounds_toArray, List.set_cons_zero, List.set_cons_succ]
            obtain ⟨hP_0cacc, hQ_0cacc, hX_0cacc, hC_0cacc, hL_0cacc, hB_0cacc⟩ := id hHeld
            have hM_0cacc := blk2_set (a := .int .i64 le) (b := .int .i64 ln) hM_0cac
            refine wpAnyH_done (by kernel_rfl) ?_ _
            go_wp2_with fail
            go_meet
            exact ⟨_, rfl, hM_0cacc, hP_0cacc, hQ_0cacc, hX_0cacc, hC_0cacc, hL_0cacc, hB_0cacc⟩
        · go_simp
          refine hK.out _ _ ⟨blk_old hP_0 _, blk_old hQ_0 _, blk_old hX_0 _, blk_old hC_0 _, blk_old hL_0 _, hB_0.alloc (by have := hB_0.size; omega) _⟩ (fun hHeld => ?_)
          clear hK K
          try simp only [Act.put, List.getElem_toArray, List.getElem_cons_succ, List.getElem_cons_zero, List.setIfInBounds_toArray, List.set_cons_zero, List.set_cons_succ]
          obtain ⟨hP_0a, hQ_0a, hX_0a, hC_0a, hL_0a, hB_0a⟩ := id hHeld
          have hM_0a : ((w4.alloc (.cells #[.int .i64 (le), .int .i64 (ln)] 24)).drew.alloc (.cells #[.int .i64 (0), .int .i64 (0)] 24)).heap[w4.heap.size + 1]? = some (.cells #[.int .i64 (0), .int .i64 (0)] 24) := by have := blk_new ((w4.alloc (.cells #[.int .i64 (le), .int .i64 (ln)] 24)).drew) (.cells #[.int .i64 (0), .int .i64 (0)] 24); simpa using this
          have zMP_0a : w1.heap.size < w4.heap.size + 1 := by have := blk_lt hP_0; simpa using this
          have zMQ_0a : w1.heap.size + 1 < w4.heap.size + 1 := by have := blk_lt hQ_0; simpa using this
          have zMX_0a : w2.heap.size < w4.heap.size + 1 := by have := blk_lt hX_0; simpa using this
          have zMC_0a : w3.heap.size < w4.heap.size + 1 := by have := blk_lt hC_0; simpa using this
          have zML_0a : w4.heap.size < w4.heap.size + 1 := by have := blk_lt hL_0; simpa using this
          have zMB_0a : w1.heap.size ≤ w4.heap.size + 1 := by have := hB_0.size; simpa using this
          refine wpAnyH_ready (rs := [3]) (by kernel_rfl) (by simp) ?_
          refine AllReadyH.cons (o := _) rfl (fun K hK => ?_) (AllReadyH.nil)
          go_simp
          (go_at_call 20; refine (iWT_is (r := be) (q := bn) _ ((tE_is (by omega) (by omega) (by omega) (by omega)).trans (by rw [HB1.out])) ((tN_is (by omega) (by omega) (by omega) (by omega)).trans (by rw [HB2.out]))).mono ?_; rintro e x0ac ⟨rfl, hw_0ac⟩)
          refine hK.out _ _ ⟨blk_next hP_0a hw_0ac, blk_next hQ_0a hw_0ac, blk_next hX_0a hw_0ac, blk_next hC_0a hw_0ac, blk_next hL_0a hw_0ac, bel_next hB_0a hw_0ac⟩ (fun hHeld => ?_)
          clear hK K
          try simp only [Act.put, List.getElem_toArray, List.getElem_cons_succ, List.getElem_cons_zero, List.setIfInBounds_toArray, List.set_cons_zero, List.set_cons_succ]
          obtain ⟨hP_0ac, hQ_0ac, hX_0ac, hC_0ac, hL_0ac, hB_0ac⟩ := id hHeld
          have hM_0ac := blk_next hM_0a hw_0ac
          refine wpAnyH_ready (rs := [4]) (by kernel_rfl) (by simp) ?_
          refine AllReadyH.cons (o := _) rfl (fun K hK => ?_) (AllReadyH.nil)
          go_simp
          (go_at_call 20; refine (iWT_is (r := le) (q := ln) _ ((tE_is (by omega) (by omega) (by omega) (by omega)).trans (by rw [HL1.out, HB1.out, HB2.out, HX1.out, HX2.out]; grind)) ((tN_is (by omega) (by omega) (by omega) (by omega)).trans (by rw [HL2.out, HB1.out, HB2.out, HX1.out, HX2.out]; grind))).mono ?_; rintro e x0acc ⟨rfl, hw_0acc⟩)
          refine hK.out _ _ ⟨blk_next hP_0ac hw_0acc, blk_next hQ_0ac hw_0acc, blk_next hX_0ac hw_0acc, blk_next hC_0ac hw_0acc, blk_next hL_0ac hw_0acc, bel_next hB_0ac hw_0acc⟩ (fun hHeld => ?_)
          clear hK K
          try simp only [Act.put, List.getElem_toArray, List.getElem_cons_succ, List.getElem_cons_zero, List.setIfInBounds_toArray, List.set_cons_zero, List.set_cons_succ]
          obtain ⟨hP_0acc, hQ_0acc, hX_0acc, hC_0acc, hL_0acc, hB_0acc⟩ := id hHeld
          have hM_0acc := blk_next hM_0ac hw_0acc
          refine wpAnyH_ready (rs := [6]) (by kernel_rfl) (by simp) ?_
          refine AllReadyH.cons (o := _) rfl (fun K hK => ?_) (AllReadyH.nil)
          obtain ⟨sc0_0accc, sc1_0accc, sf0_0accc, sf1_0accc, sz_0accc⟩ := blk2 hM_0acc
          go_simp
          refine hK.out _ _ ⟨blk_store2 hP_0acc (Nat.ne_of_lt zMP_0a) _ _, blk_store2 hQ_0acc (Nat.ne_of_lt zMQ_0a) _ _, blk_store2 hX_0acc (Nat.ne_of_lt zMX_0a) _ _, blk_store2 hC_0acc (Nat.ne_of_lt zMC_0a) _ _, blk_store2 hL_0acc (Nat.ne_of_lt zML_0a) _ _, store2_bel hB_0acc zMB_0a _ _⟩ (fun hHeld => ?_)
          clear hK K
          try simp only [Act.put, List.getElem_toArray, List.getElem_cons_succ, List.getElem_cons_zero, List.setIfInBounds_toArray, List.set_cons_zero, List.set_cons_succ]
          obtain ⟨hP_0accc, hQ_0accc, hX_0accc, hC_0accc, hL_0accc, hB_0accc⟩ := id hHeld
          have hM_0accc := blk2_set (a := .int .i64 le) (b := .int .i64 ln) hM_0acc
          refine wpAnyH_done (by kernel_rfl) ?_ _
          go_wp2_with fail
          go_meet
          exact ⟨_, rfl, hM_0accc, hP_0accc, hQ_0accc, hX_0accc, hC_0accc, hL_0accc, hB_0accc⟩
      case rest =>
        clear hP3 hQ3 hX3 hB3 hP4 hQ4 hX4 hB4 hC4 hD4 hE4
        obtain ⟨M, rfl, hM5, hP5, hQ5, hX5, hC5, hL5, hB5⟩ := hcut
        go_wp2_with fail
        have e1 := E1.out
        refine wp_region_held_drew (S := (fun w' => w'.heap[w1.heap.size]? = some (.cells #[.int .i64 (a), .int .i64 (b)] 24) ∧ w'.heap[w1.heap.size + 1]? = some (.cells #[.int .i64 (c), .int .i64 (d)] 24) ∧ w'.heap[w2.heap.size]? = some (.cells #[.int .i64 (xe), .int .i64 (xn)] 24) ∧ w'.heap[w3.heap.size]? = some (.cells #[.int .i64 (g), .int .i64 (k)] 24) ∧ w'.heap[w4.heap.size]? = some (.cells #[.int .i64 (le), .int .i64 (ln)] 24) ∧ w'.heap[M]? = some (.cells #[.int .i64 (le), .int .i64 (ln)] 24) ∧ Below w1.heap.size w1 w')) (by kernel_rfl) ⟨hP5, hQ5, hX5, hC5, hL5, hM5, hB5.drew⟩ (fun hHeld => ?_)
        obtain ⟨hP_0, hQ_0, hX_0, hC_0, hL_0, hM_0, hB_0⟩ := id hHeld
        refine wpAnyH_take (i := 0) (oi := _) (v := ?_) rfl (by kernel_rfl) (by kernel_rfl) (by kernel_rfl) (fun _ _ _ h => h) (Or.inl ⟨by rfl, ?_⟩) (by assumption) ?_
        (rotate_left); (focus (intro wv hSw; (obtain ⟨qP, qQ, qX, qC, qL, qM, qB⟩ := hSw); obtain ⟨_, _, _, _, _⟩ := blk2 qP; obtain ⟨_, _, _, _, _⟩ := blk2 qQ; obtain ⟨_, _, _, _, _⟩ := blk2 qX; obtain ⟨_, _, _, _, _⟩ := blk2 qC; obtain ⟨_, _, _, _, _⟩ := blk2 qL; obtain ⟨_, _, _, _, _⟩ := blk2 qM; go_simp; (try with_reducible rfl)))
        try simp only [Act.put, List.getElem_toArray, List.getElem_cons_succ, List.getElem_cons_zero, List.setIfInBounds_toArray, List.set_cons_zero, List.set_cons_succ]
        refine wpAnyH_take (i := 1) (oi := _) (v := ?_) rfl (by kernel_rfl) (by kernel_rfl) (by kernel_rfl) (fun _ _ _ h => h) (Or.inl ⟨by rfl, ?_⟩) (by assumption) ?_
        (rotate_left); (focus (intro wv hSw; (obtain ⟨qP, qQ, qX, qC, qL, qM, qB⟩ := hSw); obtain ⟨_, _, _, _, _⟩ := blk2 qP; obtain ⟨_, _, _, _, _⟩ := blk2 qQ; obtain ⟨_, _, _, _, _⟩ := blk2 qX; obtain ⟨_, _, _, _, _⟩ := blk2 qC; obtain ⟨_, _, _, _, _⟩ := blk2 qL; obtain ⟨_, _, _, _, _⟩ := blk2 qM; go_simp; (try with_reducible rfl)))
        try simp only [Act.put, List.getElem_toArray, List.getElem_cons_succ, List.getElem_cons_zero, List.setIfInBounds_toArray, List.set_cons_zero, List.set_cons_succ]
        refine wpAnyH_take (i := 2) (oi := _) (v := ?_) rfl (by kernel_rfl) (by kernel_rfl) (by kernel_rfl) (fun _ _ _ h => h) (Or.inl ⟨by rfl, ?_⟩) (by assumption) ?_
        (rotate_left); (focus (intro wv hSw; (obtain ⟨qP, qQ, qX, qC, qL, qM, qB⟩ := hSw); obtain ⟨_, _, _, _, _⟩ := blk2 qP; obtain ⟨_, _, _, _, _⟩ := blk2 qQ; obtain ⟨_, _, _, _, _⟩ := blk2 qX; obtain ⟨_, _, _, _, _⟩ := blk2 qC; obtain ⟨_, _, _, _, _⟩ := blk2 qL; obtain ⟨_, _, _, _, _⟩ := blk2 qM; go_simp; (try with_reducible rfl)))
        try simp only [Act.put, List.getElem_toArray, List.getElem_cons_succ, List.getElem_cons_zero, List.setIfInBounds_toArray, List.set_cons_zero, List.set_cons_succ]
        refine wpAnyH_ready (rs := [3]) (by kernel_rfl) (by simp) ?_
        refine AllReadyH.cons (o := _) rfl (fun K hK => ?_) (AllReadyH.nil)
        go_simp
        (go_at_call 20; refine (iWT_is (r := xe) (q := xn) _ ((tE_is (by omega) (by omega) (by omega) (by omega)).trans (by rw [HX1.out]; grind)) ((tN_is (by omega) (by omega) (by omega) (by omega)).trans (by rw [HX2.out]; grind))).mono ?_; rintro e x0c ⟨rfl, hw_0c⟩)
        refine hK.out _ _ ⟨blk_next hP_0 hw_0c, blk_next hQ_0 hw_0c, blk_next hX_0 hw_0c, blk_next hC_0 hw_0c, blk_next hL_0 hw_0c, blk_next hM_0 hw_0c, bel_next hB_0 hw_0c⟩ (fun hHeld => ?_)
        clear hK K
        try simp only [Act.put, List.getElem_toArray, List.getElem_cons_succ, List.getElem_cons_zero, List.setIfInBounds_toArray, List.set_cons_zero, List.set_cons_succ]
        obtain ⟨hP_0c, hQ_0c, hX_0c, hC_0c, hL_0c, hM_0c, hB_0c⟩ := id hHeld
        refine wpAnyH_take (i := 4) (oi := _) (v := ?_) rfl (by kernel_rfl) (by kernel_rfl) (by kernel_rfl) (fun _ _ _ h => h) (Or.inl ⟨by rfl, ?_⟩) (by assumption) ?_
        (rotate_left); (focus (intro wv hSw; (obtain ⟨qP, qQ, qX, qC, qL, qM, qB⟩ := hSw); obtain ⟨_, _, _, _, _⟩ := blk2 qP; obtain ⟨_, _, _, _, _⟩ := blk2 qQ; obtain ⟨_, _, _, _, _⟩ := blk2 qX; obtain ⟨_, _, _, _, _⟩ := blk2 qC; obtain ⟨_, _, _, _, _⟩ := blk2 qL; obtain ⟨_, _, _, _, _⟩ := blk2 qM; go_simp; (try with_reducible rfl)))
        try simp only [Act.put, List.getElem_toArray, List.getElem_cons_succ, List.getElem_cons_zero, List.setIfInBounds_toArray, List.set_cons_zero, List.set_cons_succ]
        refine wpAnyH_take (i := 5) (oi := _) (v := ?_) rfl (by kernel_rfl) (by kernel_rfl) (by kernel_rfl) (fun _ _ _ h => h) (Or.inl ⟨by rfl, ?_⟩) (by assumption) ?_
        (rotate_left); (focus (intro wv hSw; (obtain ⟨qP, qQ, qX, qC, qL, qM, qB⟩ := hSw); obtain ⟨_, _, _, _, _⟩ := blk2 qP; obtain ⟨_, _, _, _, _⟩ := blk2 qQ; obtain ⟨_, _, _, _, _⟩ := blk2 qX; obtain ⟨_, _, _, _, _⟩ := blk2 qC; obtain ⟨_, _, _, _, _⟩ := blk2 qL; obtain ⟨_, _, _, _, _⟩ := blk2 qM; go_simp; (try with_reducible rfl)))
        try simp only [Act.put, List.getElem_toArray, List.getElem_cons_succ, List.getElem_cons_zero, List.setIfInBounds_toArray, List.set_cons_zero, List.set_cons_succ]
        refine wpAnyH_take (i := 6) (oi := _) (v := ?_) rfl (by kernel_rfl) (by kernel_rfl) (by kernel_rfl) (fun _ _ _ h => h) (Or.inl ⟨by rfl, ?_⟩) (by assumption) ?_
        (rotate_left); (focus (intro wv hSw; (obtain ⟨qP, qQ, qX, qC, qL, qM, qB⟩ := hSw); obtain ⟨_, _, _, _, _⟩ := blk2 qP; obtain ⟨_, _, _, _, _⟩ := blk2 qQ; obtain ⟨_, _, _, _, _⟩ := blk2 qX; obtain ⟨_, _, _, _, _⟩ := blk2 qC; obtain ⟨_, _, _, _, _⟩ := blk2 qL; obtain ⟨_, _, _, _, _⟩ := blk2 qM; go_simp; (try with_reducible rfl)))
        try simp only [Act.put, List.getElem_toArray, List.getElem_cons_succ, List.getElem_cons_zero, List.setIfInBounds_toArray, List.set_cons_zero, List.set_cons_succ]
        refine wpAnyH_take (i := 8) (oi := _) (v := ?_) rfl (by kernel_rfl) (by kernel_rfl) (by kernel_rfl) (fun _ _ _ h => h) (Or.inl ⟨by rfl, ?_⟩) (by assumption) ?_
        (rotate_left); (focus (intro wv hSw; (obtain ⟨qP, qQ, qX, qC, qL, qM, qB⟩ := hSw); obtain ⟨_, _, _, _, _⟩ := blk2 qP; obtain ⟨_, _, _, _, _⟩ := blk2 qQ; obtain ⟨_, _, _, _, _⟩ := blk2 qX; obtain ⟨_, _, _, _, _⟩ := blk2 qC; obtain ⟨_, _, _, _, _⟩ := blk2 qL; obtain ⟨_, _, _, _, _⟩ := blk2 qM; go_simp; (try with_reducible rfl)))
        try simp only [Act.put, List.getElem_toArray, List.getElem_cons_succ, List.getElem_cons_zero, List.setIfInBounds_toArray, List.set_cons_zero, List.set_cons_succ]
        refine wpAnyH_take (i := 10) (oi := _) (v := ?_) rfl (by kernel_rfl) (by kernel_rfl) (by kernel_rfl) (fun _ _ _ h => h) (Or.inl ⟨by rfl, ?_⟩) (by assumption) ?_
        (rotate_left); (focus (intro wv hSw; (obtain ⟨qP, qQ, qX, qC, qL, qM, qB⟩ := hSw); obtain ⟨_, _, _, _, _⟩ := blk2 qP; obtain ⟨_, _, _, _, _⟩ := blk2 qQ; obtain ⟨_, _, _, _, _⟩ := blk2 qX; obtain ⟨_, _, _, _, _⟩ := blk2 qC; obtain ⟨_, _, _, _, _⟩ := blk2 qL; obtain ⟨_, _, _, _, _⟩ := blk2 qM; go_simp; (try with_reducible rfl)))
        try simp only [Act.put, List.getElem_toArray, List.getElem_cons_succ, List.getElem_cons_zero, List.setIfInBounds_toArray, List.set_cons_zero, List.set_cons_succ]
        refine wpAnyH_ready (rs := [7]) (by kernel_rfl) (by simp) ?_
        refine AllReadyH.cons (o := _) rfl (fun K hK => ?_) (AllReadyH.nil)
        go_simp
        (go_at_call 22; refine (iWS_is (q := sx) _ ((dot_is (by omega) (by omega) (by omega) (by omega)).trans (by rw [HQ0.out]))).mono ?_; rintro e x0cc ⟨rfl, hw_0cc⟩)
        refine hK.out _ _ ⟨blk_next hP_0c hw_0cc, blk_next hQ_0c hw_0cc, blk_next hX_0c hw_0cc, blk_next hC_0c hw_0cc, blk_next hL_0c hw_0cc, blk_next hM_0c hw_0cc, bel_next hB_0c hw_0cc⟩ (fun hHeld => ?_)
        clear hK K
        try simp only [Act.put, List.getElem_toArray, List.getElem_cons_succ, List.getElem_cons_zero, List.setIfInBounds_toArray, List.set_cons_zero, List.set_cons_succ]
        obtain ⟨hP_0cc, hQ_0cc, hX_0cc, hC_0cc, hL_0cc, hM_0cc, hB_0cc⟩ := id hHeld
        refine wpAnyH_ready (rs := [9]) (by kernel_rfl) (by simp) ?_
        refine AllReadyH.cons (o := _) rfl (fun K hK => ?_) (AllReadyH.nil)
        go_simp
        (go_at_call 22; refine (iWS_is (q := su) _ ((dot_is (by omega) (by omega) (by omega) (by omega)).trans (by rw [HQ1.out]))).mono ?_; rintro e x0ccc ⟨rfl, hw_0ccc⟩)
        refine hK.out _ _ ⟨blk_next hP_0cc hw_0ccc, blk_next hQ_0cc hw_0ccc, blk_next hX_0cc hw_0ccc, blk_next hC_0cc hw_0ccc, blk_next hL_0cc hw_0ccc, blk_next hM_0cc hw_0ccc, bel_next hB_0cc hw_0ccc⟩ (fun hHeld => ?_)
        clear hK K
        try simp only [Act.put, List.getElem_toArray, List.getElem_cons_succ, List.getElem_cons_zero, List.setIfInBounds_toArray, List.set_cons_zero, List.set_cons_succ]
        obtain ⟨hP_0ccc, hQ_0ccc, hX_0ccc, hC_0ccc, hL_0ccc, hM_0ccc, hB_0ccc⟩ := id hHeld
        refine wpAnyH_ready (rs := [11]) (by kernel_rfl) (by simp) ?_
        refine AllReadyH.cons (o := _) rfl (fun K hK => ?_) (AllReadyH.nil)
        go_simp
        (go_at_call 22; refine (iWS_is (q := sv) _ ((dot_is (by omega) (by omega) (by omega) (by omega)).trans (by rw [HQ2.out]))).mono ?_; rintro e x0cccc ⟨rfl, hw_0cccc⟩)
        refine hK.out _ _ ⟨blk_next hP_0ccc hw_0cccc, blk_next hQ_0ccc hw_0cccc, blk_next hX_0ccc hw_0cccc, blk_next hC_0ccc hw_0cccc, blk_next hL_0ccc hw_0cccc, blk_next hM_0ccc hw_0cccc, bel_next hB_0ccc hw_0cccc⟩ (fun hHeld => ?_)
        clear hK K
        try simp only [Act.put, List.getElem_toArray, List.getElem_cons_succ, List.getElem_cons_zero, List.setIfInBounds_toArray, List.set_cons_zero, List.set_cons_succ]
        obtain ⟨hP_0cccc, hQ_0cccc, hX_0cccc, hC_0cccc, hL_0cccc, hM_0cccc, hB_0cccc⟩ := id hHeld
        refine wpAnyH_take (i := 12) (oi := _) (v := ?_) rfl (by kernel_rfl) (by kernel_rfl) (by kernel_rfl) (fun _ _ _ h => h) (Or.inl ⟨by rfl, ?_⟩) (by assumption) ?_
        (rotate_left); (focus (intro wv hSw; (obtain ⟨qP, qQ, qX, qC, qL, qM, qB⟩ := hSw); obtain ⟨_, _, _, _, _⟩ := blk2 qP; obtain ⟨_, _, _, _, _⟩ := blk2 qQ; obtain ⟨_, _, _, _, _⟩ := blk2 qX; obtain ⟨_, _, _, _, _⟩ := blk2 qC; obtain ⟨_, _, _, _, _⟩ := blk2 qL; obtain ⟨_, _, _, _, _⟩ := blk2 qM; go_simp; (try with_reducible rfl)))
        try simp only [Act.put, List.getElem_toArray, List.getElem_cons_succ, List.getElem_cons_zero, List.setIfInBounds_toArray, List.set_cons_zero, List.set_cons_succ]
        refine wpAnyH_take (i := 13) (oi := _) (v := ?_) rfl (by kernel_rfl) (by kernel_rfl) (by kernel_rfl) (fun _ _ _ h => h) (Or.inl ⟨by rfl, ?_⟩) (by assumption) ?_
        (rotate_left); (focus (intro wv hSw; (obtain ⟨qP, qQ, qX, qC, qL, qM, qB⟩ := hSw); obtain ⟨_, _, _, _, _⟩ := blk2 qP; obtain ⟨_, _, _, _, _⟩ := blk2 qQ; obtain ⟨_, _, _, _, _⟩ := blk2 qX; obtain ⟨_, _, _, _, _⟩ := blk2 qC; obtain ⟨_, _, _, _, _⟩ := blk2 qL; obtain ⟨_, _, _, _, _⟩ := blk2 qM; go_simp; (try with_reducible rfl)))
        try simp only [Act.put, List.getElem_toArray, List.getElem_cons_succ, List.getElem_cons_zero, List.setIfInBounds_toArray, List.set_cons_zero, List.set_cons_succ]
        refine wpAnyH_take (i := 14) (oi := _) (v := ?_) rfl (by kernel_rfl) (by kernel_rfl) (by kernel_rfl) (fun _ _ _ h => h) (Or.inl ⟨by rfl, ?_⟩) (by assumption) ?_
        (rotate_left); (focus (intro wv hSw; (obtain ⟨qP, qQ, qX, qC, qL, qM, qB⟩ := hSw); obtain ⟨_, _, _, _, _⟩ := blk2 qP; obtain ⟨_, _, _, _, _⟩ := blk2 qQ; obtain ⟨_, _, _, _, _⟩ := blk2 qX; obtain ⟨_, _, _, _, _⟩ := blk2 qC; obtain ⟨_, _, _, _, _⟩ := blk2 qL; obtain ⟨_, _, _, _, _⟩ := blk2 qM; go_simp; (try with_reducible rfl)))
        try simp only [Act.put, List.getElem_toArray, List.getElem_cons_succ, List.getElem_cons_zero, List.setIfInBounds_toArray, List.set_cons_zero, List.set_cons_succ]
        refine wpAnyH_take (i := 15) (oi := _) (v := ?_) rfl (by kernel_rfl) (by kernel_rfl) (by kernel_rfl) (fun _ _ _ h => h) (Or.inl ⟨by rfl, ?_⟩) (by assumption) ?_
        (rotate_left); (focus (intro wv hSw; (obtain ⟨qP, qQ, qX, qC, qL, qM, qB⟩ := hSw); obtain ⟨_, _, _, _, _⟩ := blk2 qP; obtain ⟨_, _, _, _, _⟩ := blk2 qQ; obtain ⟨_, _, _, _, _⟩ := blk2 qX; obtain ⟨_, _, _, _, _⟩ := blk2 qC; obtain ⟨_, _, _, _, _⟩ := blk2 qL; obtain ⟨_, _, _, _, _⟩ := blk2 qM; go_simp; (try with_reducible rfl)))
        try simp only [Act.put, List.getElem_toArray, List.getElem_cons_succ, List.getElem_cons_zero, List.setIfInBounds_toArray, List.set_cons_zero, List.set_cons_succ]
        refine wpAnyH_take (i := 16) (oi := _) (v := ?_) rfl (by kernel_rfl) (by kernel_rfl) (by kernel_rfl) (fun _ _ _ h => h) (Or.inl ⟨by rfl, ?_⟩) (by assumption) ?_
        (rotate_left); (focus (intro wv hSw; (obtain ⟨qP, qQ, qX, qC, qL, qM, qB⟩ := hSw); obtain ⟨_, _, _, _, _⟩ := blk2 qP; obtain ⟨_, _, _, _, _⟩ := blk2 qQ; obtain ⟨_, _, _, _, _⟩ := blk2 qX; obtain ⟨_, _, _, _, _⟩ := blk2 qC; obtain ⟨_, _, _, _, _⟩ := blk2 qL; obtain ⟨_, _, _, _, _⟩ := blk2 qM; go_simp; (try with_reducible rfl)))
        try simp only [Act.put, List.getElem_toArray, List.getElem_cons_succ, List.getElem_cons_zero, List.setIfInBounds_toArray, List.set_cons_zero, List.set_cons_succ]
        refine wpAnyH_take (i := 17) (oi := _) (v := ?_) rfl (by kernel_rfl) (by kernel_rfl) (by kernel_rfl) (fun _ _ _ h => h) (Or.inl ⟨by rfl, ?_⟩) (by assumption) ?_
        (rotate_left); (focus (intro wv hSw; (obtain ⟨qP, qQ, qX, qC, qL, qM, qB⟩ := hSw); obtain ⟨_, _, _, _, _⟩ := blk2 qP; obtain ⟨_, _, _, _, _⟩ := blk2 qQ; obtain ⟨_, _, _, _, _⟩ := blk2 qX; obtain ⟨_, _, _, _, _⟩ := blk2 qC; obtain ⟨_, _, _, _, _⟩ := blk2 qL; obtain ⟨_, _, _, _, _⟩ := blk2 qM; go_simp; (try with_reducible rfl)))
        try simp only [Act.put, List.getElem_toArray, List.getElem_cons_succ, List.getElem_cons_zero, List.setIfInBounds_toArray, List.set_cons_zero, List.set_cons_succ]
        refine wpAnyH_take (i := 18) (oi := _) (v := ?_) rfl (by kernel_rfl) (by kernel_rfl) (by kernel_rfl) (fun _ _ _ h => h) (Or.inl ⟨by rfl, ?_⟩) (by assumption) ?_
        (rotate_left); (focus (intro wv hSw; (obtain ⟨qP, qQ, qX, qC, qL, qM, qB⟩ := hSw); obtain ⟨_, _, _, _, _⟩ := blk2 qP; obtain ⟨_, _, _, _, _⟩ := blk2 qQ; obtain ⟨_, _, _, _, _⟩ := blk2 qX; obtain ⟨_, _, _, _, _⟩ := blk2 qC; obtain ⟨_, _, _, _, _⟩ := blk2 qL; obtain ⟨_, _, _, _, _⟩ := blk2 qM; go_simp; (try with_reducible rfl)))
        try simp only [Act.put, List.getElem_toArray, List.getElem_cons_succ, List.getElem_cons_zero, List.setIfInBounds_toArray, List.set_cons_zero, List.set_cons_succ]
        refine wpAnyH_take (i := 19) (oi := _) (v := ?_) rfl (by kernel_rfl) (by kernel_rfl) (by kernel_rfl) (fun _ _ _ h => h) (Or.inl ⟨by rfl, ?_⟩) (by assumption) ?_
        (rotate_left); (focus (intro wv hSw; (obtain ⟨qP, qQ, qX, qC, qL, qM, qB⟩ := hSw); obtain ⟨_, _, _, _, _⟩ := blk2 qP; obtain ⟨_, _, _, _, _⟩ := blk2 qQ; obtain ⟨_, _, _, _, _⟩ := blk2 qX; obtain ⟨_, _, _, _, _⟩ := blk2 qC; obtain ⟨_, _, _, _, _⟩ := blk2 qL; obtain ⟨_, _, _, _, _⟩ := blk2 qM; go_simp; (try with_reducible rfl)))
        try simp only [Act.put, List.getElem_toArray, List.getElem_cons_succ, List.getElem_cons_zero, List.setIfInBounds_toArray, List.set_cons_zero, List.set_cons_succ]
        refine wpAnyH_take (i := 20) (oi := _) (v := ?_) rfl (by kernel_rfl) (by kernel_rfl) (by kernel_rfl) (fun _ _ _ h => h) (Or.inl ⟨by rfl, ?_⟩) (by assumption) ?_
        (rotate_left); (focus (intro wv hSw; (obtain ⟨qP, qQ, qX, qC, qL, qM, qB⟩ := hSw); obtain ⟨_, _, _, _, _⟩ := blk2 qP; obtain ⟨_, _, _, _, _⟩ := blk2 qQ; obtain ⟨_, _, _, _, _⟩ := blk2 qX; obtain ⟨_, _, _, _, _⟩ := blk2 qC; obtain ⟨_, _, _, _, _⟩ := blk2 qL; obtain ⟨_, _, _, _, _⟩ := blk2 qM; go_simp; (try with_reducible rfl)))
        try simp only [Act.put, List.getElem_toArray, List.getElem_cons_succ, List.getElem_cons_zero, List.setIfInBounds_toArray, List.set_cons_zero, List.set_cons_succ]
        refine wpAnyH_take (i := 21) (oi := _) (v := ?_) rfl (by kernel_rfl) (by kernel_rfl) (by kernel_rfl) (fun _ _ _ h => h) (Or.inl ⟨by rfl, ?_⟩) (by assumption) ?_
        (rotate_left); (focus (intro wv hSw; (obtain ⟨qP, qQ, qX, qC, qL, qM, qB⟩ := hSw); obtain ⟨_, _, _, _, _⟩ := blk2 qP; obtain ⟨_, _, _, _, _⟩ := blk2 qQ; obtain ⟨_, _, _, _, _⟩ := blk2 qX; obtain ⟨_, _, _, _, _⟩ := blk2 qC; obtain ⟨_, _, _, _, _⟩ := blk2 qL; obtain ⟨_, _, _, _, _⟩ := blk2 qM; go_simp; (try with_reducible rfl)))
        try simp only [Act.put, List.getElem_toArray, List.getElem_cons_succ, List.getElem_cons_zero, List.setIfInBounds_toArray, List.set_cons_zero, List.set_cons_succ]
        refine wpAnyH_take (i := 22) (oi := _) (v := ?_) rfl (by kernel_rfl) (by kernel_rfl) (by kernel_rfl) (fun _ _ _ h => h) (Or.inl ⟨by rfl, ?_⟩) (by assumption) ?_
        (rotate_left); (focus (intro wv hSw; (obtain ⟨qP, qQ, qX, qC, qL, qM, qB⟩ := hSw); obtain ⟨_, _, _, _, _⟩ := blk2 qP; obtain ⟨_, _, _, _, _⟩ := blk2 qQ; obtain ⟨_, _, _, _, _⟩ := blk2 qX; obtain ⟨_, _, _, _, _⟩ := blk2 qC; obtain ⟨_, _, _, _, _⟩ := blk2 qL; obtain ⟨_, _, _, _, _⟩ := blk2 qM; go_simp; (try with_reducible rfl)))
        try simp only [Act.put, List.getElem_toArray, List.getElem_cons_succ, List.getElem_cons_zero, List.setIfInBounds_toArray, List.set_cons_zero, List.set_cons_succ]
        refine wpAnyH_take (i := 23) (oi := _) (v := ?_) rfl (by kernel_rfl) (by kernel_rfl) (by kernel_rfl) (fun _ _ _ h => h) (Or.inl ⟨by rfl, ?_⟩) (by assumption) ?_
        (rotate_left); (focus (intro wv hSw; (obtain ⟨qP, qQ, qX, qC, qL, qM, qB⟩ := hSw); obtain ⟨_, _, _, _, _⟩ := blk2 qP; obtain ⟨_, _, _, _, _⟩ := blk2 qQ; obtain ⟨_, _, _, _, _⟩ := blk2 qX; obtain ⟨_, _, _, _, _⟩ := blk2 qC; obtain ⟨_, _, _, _, _⟩ := blk2 qL; obtain ⟨_, _, _, _, _⟩ := blk2 qM; go_simp; (try with_reducible rfl)))
        try simp only [Act.put, List.getElem_toArray, List.getElem_cons_succ, List.getElem_cons_zero, List.setIfInBounds_toArray, List.set_cons_zero, List.set_cons_succ]
        refine wpAnyH_take (i := 26) (oi := _) (v := ?_) rfl (by kernel_rfl) (by kernel_rfl) (by kernel_rfl) (fun _ _ _ h => h) (Or.inl ⟨by rfl, ?_⟩) (by assumption) ?_
        (rotate_left); (focus (intro wv hSw; (obtain ⟨qP, qQ, qX, qC, qL, qM, qB⟩ := hSw); obtain ⟨_, _, _, _, _⟩ := blk2 qP; obtain ⟨_, _, _, _, _⟩ := blk2 qQ; obtain ⟨_, _, _, _, _⟩ := blk2 qX; obtain ⟨_, _, _, _, _⟩ := blk2 qC; obtain ⟨_, _, _, _, _⟩ := blk2 qL; obtain ⟨_, _, _, _, _⟩ := blk2 qM; go_simp; (try with_reducible rfl)))
        try simp only [Act.put, List.getElem_toArray, List.getElem_cons_succ, List.getElem_cons_zero, List.setIfInBounds_toArray, List.set_cons_zero, List.set_cons_succ]
        refine wpAnyH_take (i := 27) (oi := _) (v := ?_) rfl (by kernel_rfl) (by kernel_rfl) (by kernel_rfl) (fun _ _ _ h => h) (Or.inl ⟨by rfl, ?_⟩) (by assumption) ?_
        (rotate_left); (focus (intro wv hSw; (obtain ⟨qP, qQ, qX, qC, qL, qM, qB⟩ := hSw); obtain ⟨_, _, _, _, _⟩ := blk2 qP; obtain ⟨_, _, _, _, _⟩ := blk2 qQ; obtain ⟨_, _, _, _, _⟩ := blk2 qX; obtain ⟨_, _, _, _, _⟩ := blk2 qC; obtain ⟨_, _, _, _, _⟩ := blk2 qL; obtain ⟨_, _, _, _, _⟩ := blk2 qM; go_simp; (try with_reducible rfl)))
        try simp only [Act.put, List.getElem_toArray, List.getElem_cons_succ, List.getElem_cons_zero, List.setIfInBounds_toArray, List.set_cons_zero, List.set_cons_succ]
        refine wpAnyH_take (i := 28) (oi := _) (v := ?_) rfl (by kernel_rfl) (by kernel_rfl) (by kernel_rfl) (fun _ _ _ h => h) (Or.inl ⟨by rfl, ?_⟩) (by assumption) ?_
        (rotate_left); (focus (intro wv hSw; (obtain ⟨qP, qQ, qX, qC, qL, qM, qB⟩ := hSw); obtain ⟨_, _, _, _, _⟩ := blk2 qP; obtain ⟨_, _, _, _, _⟩ := blk2 qQ; obtain ⟨_, _, _, _, _⟩ := blk2 qX; obtain ⟨_, _, _, _, _⟩ := blk2 qC; obtain ⟨_, _, _, _, _⟩ := blk2 qL; obtain ⟨_, _, _, _, _⟩ := blk2 qM; go_simp; (try with_reducible rfl)))
        try simp only [Act.put, List.getElem_toArray, List.getElem_cons_succ, List.getElem_cons_zero, List.setIfInBounds_toArray, List.set_cons_zero, List.set_cons_succ]
        refine wpAnyH_ready (rs := [24]) (by kernel_rfl) (by simp) ?_
        refine AllReadyH.cons (o := _) rfl (fun K hK => ?_) (AllReadyH.nil)
        go_simp
        (go_at_call 17; refine (iWA_is (r := se) (q := sn) _ ((add_is (by omega)).trans (by rw [HS1.out])) ((add_is (by omega)).trans (by rw [HS2.out]))).mono ?_; rintro e x0ccccc ⟨rfl, hw_0ccccc⟩)
        refine hK.out _ _ ⟨blk_next hP_0cccc hw_0ccccc, blk_next hQ_0cccc hw_0ccccc, blk_next hX_0cccc hw_0ccccc, blk_next hC_0cccc hw_0ccccc, blk_next hL_0cccc hw_0ccccc, blk_next hM_0cccc hw_0ccccc, bel_next hB_0cccc hw_0ccccc⟩ (fun hHeld => ?_)
        clear hK K
        try simp only [Act.put, List.getElem_toArray, List.getElem_cons_succ, List.getElem_cons_zero, List.setIfInBounds_toArray, List.set_cons_zero, List.set_cons_succ]
        obtain ⟨hP_0ccccc, hQ_0ccccc, hX_0ccccc, hC_0ccccc, hL_0ccccc, hM_0ccccc, hB_0ccccc⟩ := id hHeld
        refine wpAnyH_ready (rs := [25]) (by kernel_rfl) (by simp) ?_
        refine AllReadyH.cons (o := _) rfl (fun K hK => ?_) (AllReadyH.nil)
        go_simp
        (go_at_call 20; refine (iWT_is (r := re) (q := rn) _ ((tE_is (by omega) (by omega) (by omega) (by omega)).trans (by rw [HR1.out])) ((tN_is (by omega) (by omega) (by omega) (by omega)).trans (by rw [HR2.out]))).mono ?_; rintro e x0cccccc ⟨rfl, hw_0cccccc⟩)
        refine hK.out _ _ ⟨blk_next hP_0ccccc hw_0cccccc, blk_next hQ_0ccccc hw_0cccccc, blk_next hX_0ccccc hw_0cccccc, blk_next hC_0ccccc hw_0cccccc, blk_next hL_0ccccc hw_0cccccc, blk_next hM_0ccccc hw_0cccccc, bel_next hB_0ccccc hw_0cccccc⟩ (fun hHeld => ?_)
        clear hK K
        try simp only [Act.put, List.getElem_toArray, List.getElem_cons_succ, List.getElem_cons_zero, List.setIfInBounds_toArray, List.set_cons_zero, List.set_cons_succ]
        obtain ⟨hP_0cccccc, hQ_0cccccc, hX_0cccccc, hC_0cccccc, hL_0cccccc, hM_0cccccc, hB_0cccccc⟩ := id hHeld
        refine wpAnyH_ready (rs := [29]) (by kernel_rfl) (by simp) ?_
        refine AllReadyH.cons (o := _) rfl (fun K hK => ?_) (AllReadyH.nil)
        go_simp
        (go_at_call 20; refine (iWT_is (r := he) (q := hn) _ ((tE_is (by omega) (by omega) (by omega) (by omega)).trans (by rw [HH1.out])) ((tN_is (by omega) (by omega) (by omega) (by omega)).trans (by rw [HH2.out]))).mono ?_; rintro e x0ccccccc ⟨rfl, hw_0ccccccc⟩)
        refine hK.out _ _ ⟨blk_next hP_0cccccc hw_0ccccccc, blk_next hQ_0cccccc hw_0ccccccc, blk_next hX_0cccccc hw_0ccccccc, blk_next hC_0cccccc hw_0ccccccc, blk_next hL_0cccccc hw_0ccccccc, blk_next hM_0cccccc hw_0ccccccc, bel_next hB_0cccccc hw_0ccccccc⟩ (fun hHeld => ?_)
        clear hK K
        try simp only [Act.put, List.getElem_toArray, List.getElem_cons_succ, List.getElem_cons_zero, List.setIfInBounds_toArray, List.set_cons_zero, List.set_cons_succ]
        obtain ⟨hP_0ccccccc, hQ_0ccccccc, hX_0ccccccc, hC_0ccccccc, hL_0ccccccc, hM_0ccccccc, hB_0ccccccc⟩ := id hHeld
        refine wpAnyH_ready (rs := [30]) (by kernel_rfl) (by simp) ?_
        refine AllReadyH.cons (o := _) rfl (fun K hK => ?_) (AllReadyH.nil)
        go_simp
        (go_at_call 17; refine (iWA_is (r := re) (q := rn) _ ((add_is (by omega)).trans (by rw [HR1.out, HS1.out, HS2.out, HH1.out, HX1.out]; grind)) ((add_is (by omega)).trans (by rw [HR2.out, HS1.out, HS2.out, HH2.out, HX2.out]; grind))).mono ?_; rintro e x0cccccccc ⟨rfl, hw_0cccccccc⟩)
        refine hK.out _ _ ⟨blk_next hP_0ccccccc hw_0cccccccc, blk_next hQ_0ccccccc hw_0cccccccc, blk_next hX_0ccccccc hw_0cccccccc, blk_next hC_0ccccccc hw_0cccccccc, blk_next hL_0ccccccc hw_0cccccccc, blk_next hM_0ccccccc hw_0cccccccc, bel_next hB_0ccccccc hw_0cccccccc⟩ (fun hHeld => ?_)
        clear hK K
        try simp only [Act.put, List.getElem_toArray, List.getElem_cons_succ, List.getElem_cons_zero, List.setIfInBounds_toArray, List.set_cons_zero, List.set_cons_succ]
        obtain ⟨hP_0cccccccc, hQ_0cccccccc, hX_0cccccccc, hC_0cccccccc, hL_0cccccccc, hM_0cccccccc, hB_0cccccccc⟩ := id hHeld
        refine wpAnyH_take (i := 31) (oi := _) (v := ?_) rfl (by kernel_rfl) (by kernel_rfl) (by kernel_rfl) (fun _ _ _ h => h) (Or.inl ⟨by rfl, ?_⟩) (by assumption) ?_
        (rotate_left); (focus (intro wv hSw; (obtain ⟨qP, qQ, qX, qC, qL, qM, qB⟩ := hSw); obtain ⟨_, _, _, _, _⟩ := blk2 qP; obtain ⟨_, _, _, _, _⟩ := blk2 qQ; obtain ⟨_, _, _, _, _⟩ := blk2 qX; obtain ⟨_, _, _, _, _⟩ := blk2 qC; obtain ⟨_, _, _, _, _⟩ := blk2 qL; obtain ⟨_, _, _, _, _⟩ := blk2 qM; go_simp; (try with_reducible rfl)))
        try simp only [Act.put, List.getElem_toArray, List.getElem_cons_succ, List.getElem_cons_zero, List.setIfInBounds_toArray, List.set_cons_zero, List.set_cons_succ]
        refine wpAnyH_take (i := 32) (oi := _) (v := ?_) rfl (by kernel_rfl) (by kernel_rfl) (by kernel_rfl) (fun _ _ _ h => h) (Or.inl ⟨by rfl, ?_⟩) (by assumption) ?_
        (rotate_left); (focus (intro wv hSw; (obtain ⟨qP, qQ, qX, qC, qL, qM, qB⟩ := hSw); obtain ⟨_, _, _, _, _⟩ := blk2 qP; obtain ⟨_, _, _, _, _⟩ := blk2 qQ; obtain ⟨_, _, _, _, _⟩ := blk2 qX; obtain ⟨_, _, _, _, _⟩ := blk2 qC; obtain ⟨_, _, _, _, _⟩ := blk2 qL; obtain ⟨_, _, _, _, _⟩ := blk2 qM; go_simp; (try with_reducible rfl)))
        try simp only [Act.put, List.getElem_toArray, List.getElem_cons_succ, List.getElem_cons_zero, List.setIfInBounds_toArray, List.set_cons_zero, List.set_cons_succ]
        refine wpAnyH_take (i := 33) (oi := _) (v := ?_) rfl (by kernel_rfl) (by kernel_rfl) (by kernel_rfl) (fun _ _ _ h => h) (Or.inl ⟨by rfl, ?_⟩) (by assumption) ?_
        (rotate_left); (focus (intro wv hSw; (obtain ⟨qP, qQ, qX, qC, qL, qM, qB⟩ := hSw); obtain ⟨_, _, _, _, _⟩ := blk2 qP; obtain ⟨_, _, _, _, _⟩ := blk2 qQ; obtain ⟨_, _, _, _, _⟩ := blk2 qX; obtain ⟨_, _, _, _, _⟩ := blk2 qC; obtain ⟨_, _, _, _, _⟩ := blk2 qL; obtain ⟨_, _, _, _, _⟩ := blk2 qM; go_simp; (try with_reducible rfl)))
        try simp only [Act.put, List.getElem_toArray, List.getElem_cons_succ, List.getElem_cons_zero, List.setIfInBounds_toArray, List.set_cons_zero, List.set_cons_succ]
        refine wpAnyH_ready (rs := [34]) (by kernel_rfl) (by simp) ?_
        refine AllReadyH.cons (o := _) rfl (fun K hK => ?_) (AllReadyH.nil)
        go_simp
        (go_at_call 15; refine (alive_bel _).mono ?_; rintro e x0ccccccccc ⟨rfl, hw_0ccccccccc⟩)
        refine hK.out _ _ ⟨blk_next hP_0cccccccc hw_0ccccccccc, blk_next hQ_0cccccccc hw_0ccccccccc, blk_next hX_0cccccccc hw_0ccccccccc, blk_next hC_0cccccccc hw_0ccccccccc, blk_next hL_0cccccccc hw_0ccccccccc, blk_next hM_0cccccccc hw_0ccccccccc, bel_next hB_0cccccccc hw_0ccccccccc⟩ (fun hHeld => ?_)
        clear hK K
        try simp only [Act.put, List.getElem_toArray, List.getElem_cons_succ, List.getElem_cons_zero, List.setIfInBounds_toArray, List.set_cons_zero, List.set_cons_succ]
        obtain ⟨hP_0ccccccccc, hQ_0ccccccccc, hX_0ccccccccc, hC_0ccccccccc, hL_0ccccccccc, hM_0ccccccccc, hB_0ccccccccc⟩ := id hHeld
        refine wpAnyH_take (i := 35) (oi := _) (v := ?_) rfl (by kernel_rfl) (by kernel_rfl) (by kernel_rfl) (fun _ _ _ h => h) (Or.inl ⟨by rfl, ?_⟩) (by assumption) ?_
        (rotate_left); (focus (intro wv hSw; (obtain ⟨qP, qQ, qX, qC, qL, qM, qB⟩ := hSw); obtain ⟨_, _, _, _, _⟩ := blk2 qP; obtain ⟨_, _, _, _, _⟩ := blk2 qQ; obtain ⟨_, _, _, _, _⟩ := blk2 qX; obtain ⟨_, _, _, _, _⟩ := blk2 qC; obtain ⟨_, _, _, _, _⟩ := blk2 qL; obtain ⟨_, _, _, _, _⟩ := blk2 qM; go_simp; (try with_reducible rfl)))
        try simp only [Act.put, List.getElem_toArray, List.getElem_cons_succ, List.getElem_cons_zero, List.setIfInBounds_toArray, List.set_cons_zero, List.set_cons_succ]
        refine wpAnyH_take (i := 36) (oi := _) (v := ?_) rfl (by kernel_rfl) (by kernel_rfl) (by kernel_rfl) (fun _ _ _ h => h) (Or.inl ⟨by rfl, ?_⟩) (by assumption) ?_
        (rotate_left); (focus (intro wv hSw; (obtain ⟨qP, qQ, qX, qC, qL, qM, qB⟩ := hSw); obtain ⟨_, _, _, _, _⟩ := blk2 qP; obtain ⟨_, _, _, _, _⟩ := blk2 qQ; obtain ⟨_, _, _, _, _⟩ := blk2 qX; obtain ⟨_, _, _, _, _⟩ := blk2 qC; obtain ⟨_, _, _, _, _⟩ := blk2 qL; obtain ⟨_, _, _, _, _⟩ := blk2 qM; go_simp; (try with_reducible rfl)))
        try simp only [Act.put, List.getElem_toArray, List.getElem_cons_succ, List.getElem_cons_zero, List.setIfInBounds_toArray, List.set_cons_zero, List.set_cons_succ]
        refine wpAnyH_done (by kernel_rfl) ?_ _
        go_wp2_with fail
        go_ret
        exact ⟨ret_bool rfl, bel_next hB0 hB_0ccccccccc⟩

set_option maxRecDepth 100000 in
theorem lifted (os : Os) (started : os.Started) (H : Type) (enc : TypeId × Value → H) :
    ReturnsInHanded {} Try.checked os 5 .any (Rows.fnWayTimesSpec.pre6 enc Try.prog Try.f5 Rows.fnWayTimesRow.domain false) (Rows.fnWayTimesSpec.post enc Try.prog Try.f5 false true false false) := by
  refine returnsInHanded_of_change (C := Try.checked) own started (by kernel_rfl) Try.func5
    (ChangeSpec.witness6 (enc := enc) (C := Try.checked) false ⟨#[], #[.slice none 0 0, .slice none 0 0], []⟩ 8 (by kernel_rfl) (by kernel_rfl) (by kernel_rfl) (by kernel_rfl)) ?_
  intro W base args ds gs before hval0 hW hcnd _
  have hval : ∀ (j : Nat) t v, Try.f5.params[j]? = some t → args[j]? = some v → Value.okWide Try.prog W .any base t v := hval0
  have hW' := hW
  obtain ⟨p, q, hA0, hV, rfl, hfz, hnd⟩ := hW
  have hA : DataW.TrodAll enc Try.prog W 0 (fun _ => true) true Try.f5.params.toList args.toList ds p := hA0
  rw [Try.params5] at hA hval
  obtain ⟨v0, vs0, d0, ds0, p0, q0, hargs, rfl, rfl, h0, r0⟩ := trodAll_cons hA
  obtain ⟨v1, vs1, d1, ds1, p1, q1, rfl, rfl, rfl, h1, r1⟩ := trodAll_cons r0
  obtain ⟨rfl, rfl, rfl⟩ := trodAll_nil r1
  obtain rfl : args = #[v0, v1] := by cases args; simp_all
  obtain ⟨rfl, rfl⟩ := trodVars_none hV
  have k0 := h0
  have lt0 : ∀ x ∈ p0, x.block < W.heap.size := by obtain ⟨m, hm⟩ := k0; exact DataW.trod_lt m _ _ _ hm
  have k1 := h1
  have lt1 : ∀ x ∈ p1, x.block < W.heap.size := by obtain ⟨m, hm⟩ := k1; exact DataW.trod_lt m _ _ _ hm
  obtain ⟨a0, len0, cap0, rfl⟩ := okWide_slice Try.underlying22 (hval 0 22 v0 rfl rfl)
  have w0 : CodeOk W a0 len0 cap0 := by
    obtain ⟨fuel, hf⟩ := h0
    rcases open_ints Try.underlying22 Try.underlying5 (by kernel_rfl) hf with ⟨hcs, _⟩ | ⟨x, l, c, zs, hcs, _, hl, hm, hz, _, hcell, hwz⟩
    · simp [Value.cells] at hcs
      obtain ⟨rfl, rfl, rfl⟩ := hcs
      exact code_nil W
    · simp [Value.cells] at hcs
      obtain ⟨rfl, rfl, rfl⟩ := hcs
      exact code_ok hl hm (by simp at hz; omega) hcell hwz
  obtain ⟨a1, len1, cap1, rfl⟩ := okWide_slice Try.underlying22 (hval 1 22 v1 rfl rfl)
  have w1 : CodeOk W a1 len1 cap1 := by
    obtain ⟨fuel, hf⟩ := h1
    rcases open_ints Try.underlying22 Try.underlying5 (by kernel_rfl) hf with ⟨hcs, _⟩ | ⟨x, l, c, zs, hcs, _, hl, hm, hz, _, hcell, hwz⟩
    · simp [Value.cells] at hcs
      obtain ⟨rfl, rfl, rfl⟩ := hcs
      exact code_nil W
    · simp [Value.cells] at hcs
      obtain ⟨rfl, rfl, rfl⟩ := hcs
      exact code_ok hl hm (by simp at hz; omega) hcell hwz
  clear hA0 hval0
  refine (walk W a0 len0 cap0 w0 a1 len1 cap1 w1).mono fun e W' ⟨he, bel⟩ => ?_
  subst he
  exact ⟨_, rfl, _, _, _, [], _, [], hW', trodAll_mk1 (shut_bool Try.underlying4 _), (trodAll_cons_mk (Below.trod laidOut (by kernel_rfl) (of_decide_eq_true (by kernel_rfl)) k0 bel lt0) (trodAll_cons_mk (Below.trod laidOut (by kernel_rfl) (of_decide_eq_true (by kernel_rfl)) k1 bel lt1) trodAll_mk0)), rfl, bel.frame _, fun h => by cases h⟩

theorem over : Rows.fnWayTimesRow.holds Try.pinned (OpenSpec.ofChange Rows.fnWayTimesSpec) :=
  OpenClaim.holds_of_wide 5 Try.f5 rfl rfl rfl rfl rfl rfl rfl ⟨rfl, rfl, rfl, rfl, rfl⟩ rfl rfl rfl rfl rfl (by kernel_rfl) Try.func5 (by kernel_rfl)
    (of_decide_eq_true (by kernel_rfl)) (by unfold Func.isWrapper; first | (rw [if_pos (by decide +kernel)]; kernel_rfl) | (rw [if_neg (by decide +kernel)]; exact ⟨rfl, rfl⟩))
    (fun os started H enc _ => lifted os started H enc)

/-- The statement. -/
theorem proved : Rows.FnWayTimesSaid :=
  over
#print axioms proved
end Go.Proofs.Ytbegajmdadkknaa.fnWayTimes
