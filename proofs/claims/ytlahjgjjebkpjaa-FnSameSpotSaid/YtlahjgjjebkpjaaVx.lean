/- Contracts of chapter 5: the model's SameSpot. -/
import Derived.Test.YtlahjgjjebkpjaaVu
namespace Go.Proofs.Ytlahjgjjebkpjaa
open Go Go.ChangeShapes Go.WideShapes Go.ChangeAt Go.RowKit
set_option linter.unusedSimpArgs false
set_option linter.unusedVariables false

theorem blk6 {w : World} {b : Nat} {x0 x1 x2 x3 x4 x5 : Value} {t : TypeId} (h : w.heap[b]? = some (.cells #[x0, x1, x2, x3, x4, x5] t (0, 0))) :
    w.cell? ⟨b, 0, none⟩ = some x0 ∧ w.cell? ⟨b, 1, none⟩ = some x1 ∧ w.cell? ⟨b, 2, none⟩ = some x2 ∧ w.cell? ⟨b, 3, none⟩ = some x3 ∧ w.cell? ⟨b, 4, none⟩ = some x4 ∧ w.cell? ⟨b, 5, none⟩ = some x5 ∧ w.frozen? ⟨b, 0, none⟩ = false ∧ w.frozen? ⟨b, 1, none⟩ = false ∧ w.frozen? ⟨b, 2, none⟩ = false ∧ w.frozen? ⟨b, 3, none⟩ = false ∧ w.frozen? ⟨b, 4, none⟩ = false ∧ w.frozen? ⟨b, 5, none⟩ = false ∧ b < w.heap.size :=
  ⟨by simp [World.cell?, h], by simp [World.cell?, h], by simp [World.cell?, h], by simp [World.cell?, h], by simp [World.cell?, h], by simp [World.cell?, h], by simp [World.frozen?, h], by simp [World.frozen?, h], by simp [World.frozen?, h], by simp [World.frozen?, h], by simp [World.frozen?, h], by simp [World.frozen?, h], blk_lt h⟩
theorem inV_t {n a b : Int} (h0 : a ≤ n) (h1 : n ≤ b) : inV n a b = true := by unfold inV; simp; omega
theorem l1V_is3 (n a b : Int) (r : Bool) (w : World) (h : inV n a b = r) : Calls Try.prog 44 #[.int .i64 n, .int .i64 a, .int .i64 b] w fun E w' => E = .returned (.bool r) ∧ w = w' := by subst h; exact l1V_any n a b w
theorem spB_three {e n d : Int} (h : spB e n d = false) : inV d 1 1000000 = false ∨ (inV d 1 1000000 = true ∧ inV e (-1000000) 1000000 = false) ∨ (inV d 1 1000000 = true ∧ inV e (-1000000) 1000000 = true ∧ inV n (-1000000) 1000000 = false) := by
  unfold spB at h; unfold inV
  have h := of_decide_eq_false h
  simp only [decide_eq_true_eq, decide_eq_false_iff_not]
  omega
theorem spB_all {e n d : Int} (h : spB e n d = true) : inV d 1 1000000 = true ∧ inV e (-1000000) 1000000 = true ∧ inV n (-1000000) 1000000 = true := by
  have h := spB_iff.1 h; unfold inV; simp only [decide_eq_true_eq]; omega
set_option maxHeartbeats 4000000 in
theorem sSS_any (e n d x y z : Int) (w : World) :
    Calls Try.prog 27 #[.agg #[.int .i64 e, .int .i64 n, .int .i64 d], .agg #[.int .i64 x, .int .i64 y, .int .i64 z]] w fun E w' => E = .returned (.bool (ssB e n d x y z)) ∧ Below w.heap.size w w' := by
  cases ha : spB e n d
  · have hv : ssB e n d x y z = false := by unfold ssB; rw [ha]; rfl
    rw [hv]; have HA := Lib.hid ha; clear ha hv
    go_enter Try.func27, Try.ntmps27
    go_wp2_with fail
    go_loopw [11] (fun i wr => ∃ k : Nat, k ≤ 0 ∧ i = .int .i64 k ∧ wr.heap[w.heap.size]? = some (.cells #[.int .i64 e, .int .i64 n, .int .i64 d] 40 (0, 0)) ∧ wr.heap[w.heap.size + 1]? = some (.cells #[.int .i64 x, .int .i64 y, .int .i64 z] 40 (0, 0)) ∧ wr.heap[w.heap.size + 1 + 1]? = some (.cells #[.int .i64 e, .int .i64 n, .int .i64 d, .int .i64 x, .int .i64 y, .int .i64 z] 40 (0, 0)) ∧ Below w.heap.size w wr) (fun i _ => (2 - intOf i).toNat)
    case atStart => exact ⟨0, by omega, rfl, blk_old (blk_old (blk_new w _) _) _, blk_old (new2 w _ _) _, new3 w _ _ _, bel3 w _ _ _⟩
    case round =>
      obtain ⟨k, k1, rfl, hP, hQ, hL, hB⟩ := hrel
      obtain rfl : k = 0 := by omega
      obtain ⟨p0, p1, p2, _, _, _, zp⟩ := blk3 hP
      obtain ⟨q0, q1, q2, _, _, _, zq⟩ := blk3 hQ
      obtain ⟨l0, l1, l2, l3, l4, l5, _, _, _, _, _, _, zl⟩ := blk6 hL
      rcases spB_three HA.out with k1 | ⟨k1, k2⟩ | ⟨k1, k2, k3⟩
      · have K1 := Lib.hid k1
        clear k1
        go_wp2_with fail
        refine (l1V_is3 d 1 1000000 _ _ K1.out).mono ?_; rintro E w' ⟨rfl, rfl⟩
        go_wp2
        go_ret
        exact ⟨rfl, hB.alloc hB.size _⟩
      · have K1 := Lib.hid k1
        have K2 := Lib.hid k2
        clear k1 k2
        go_wp2_with fail
        refine (l1V_is3 d 1 1000000 _ _ K1.out).mono ?_; rintro E w' ⟨rfl, rfl⟩
        go_wp2_with fail
        refine (l1V_is3 e (-1000000) 1000000 _ _ K2.out).mono ?_; rintro E w' ⟨rfl, rfl⟩
        go_wp2
        go_ret
        exact ⟨rfl, hB.alloc hB.size _⟩
      · have K1 := Lib.hid k1
        have K2 := Lib.hid k2
        have K3 := Lib.hid k3
        clear k1 k2 k3
        go_wp2_with fail
        refine (l1V_is3 d 1 1000000 _ _ K1.out).mono ?_; rintro E w' ⟨rfl, rfl⟩
        go_wp2_with fail
        refine (l1V_is3 e (-1000000) 1000000 _ _ K2.out).mono ?_; rintro E w' ⟨rfl, rfl⟩
        go_wp2_with fail
        refine (l1V_is3 n (-1000000) 1000000 _ _ K3.out).mono ?_; rintro E w' ⟨rfl, rfl⟩
        go_wp2
        go_ret
        exact ⟨rfl, hB.alloc hB.size _⟩
  · cases hb : spB x y z
    · have hv : ssB e n d x y z = false := by unfold ssB; rw [ha, hb]; rfl
      rw [hv]; have HA := Lib.hid ha; have HB := Lib.hid hb; clear ha hb hv
      go_enter Try.func27, Try.ntmps27
      go_wp2_with fail
      go_loopw [11] (fun i wr => ∃ k : Nat, k ≤ 1 ∧ i = .int .i64 k ∧ wr.heap[w.heap.size]? = some (.cells #[.int .i64 e, .int .i64 n, .int .i64 d] 40 (0, 0)) ∧ wr.heap[w.heap.size + 1]? = some (.cells #[.int .i64 x, .int .i64 y, .int .i64 z] 40 (0, 0)) ∧ wr.heap[w.heap.size + 1 + 1]? = some (.cells #[.int .i64 e, .int .i64 n, .int .i64 d, .int .i64 x, .int .i64 y, .int .i64 z] 40 (0, 0)) ∧ Below w.heap.size w wr) (fun i _ => (2 - intOf i).toNat)
      case atStart => exact ⟨0, by omega, rfl, blk_old (blk_old (blk_new w _) _) _, blk_old (new2 w _ _) _, new3 w _ _ _, bel3 w _ _ _⟩
      case round =>
        obtain ⟨k, k1, rfl, hP, hQ, hL, hB⟩ := hrel
        have kk : k = 0 ∨ k = 1 := by omega
        clear k1
        rcases kk with rfl | rfl
        · obtain ⟨p0, p1, p2, _, _, _, zp⟩ := blk3 hP
          obtain ⟨q0, q1, q2, _, _, _, zq⟩ := blk3 hQ
          obtain ⟨l0, l1, l2, l3, l4, l5, _, _, _, _, _, _, zl⟩ := blk6 hL
          obtain ⟨j1, j2, j3⟩ := spB_all HA.out
          have J1 := Lib.hid j1
          have J2 := Lib.hid j2
          have J3 := Lib.hid j3
          clear j1 j2 j3
          go_wp2_with fail
          refine (l1V_is3 d 1 1000000 _ _ J1.out).mono ?_; rintro E w' ⟨rfl, rfl⟩
          go_wp2_with fail
          refine (l1V_is3 e (-1000000) 1000000 _ _ J2.out).mono ?_; rintro E w' ⟨rfl, rfl⟩
          go_wp2_with fail
          refine (l1V_is3 n (-1000000) 1000000 _ _ J3.out).mono ?_; rintro E w' ⟨rfl, rfl⟩
          go_wp2_with fail
          go_roundw
          case rel => exact ⟨1, by omega, by go_num, blk_old hP _, blk_old hQ _, blk_old hL _, hB.alloc hB.size _⟩
          case measure => simp [intOf]
        · obtain ⟨p0, p1, p2, _, _, _, zp⟩ := blk3 hP
          obtain ⟨q0, q1, q2, _, _, _, zq⟩ := blk3 hQ
          obtain ⟨l0, l1, l2, l3, l4, l5, _, _, _, _, _, _, zl⟩ := blk6 hL
          rcases spB_three HB.out with k1 | ⟨k1, k2⟩ | ⟨k1, k2, k3⟩
          · have K1 := Lib.hid k1
            clear k1
            go_wp2_with fail
            refine (l1V_is3 z 1 1000000 _ _ K1.out).mono ?_; rintro E w' ⟨rfl, rfl⟩
            go_wp2
            go_ret
            exact ⟨rfl, hB.alloc hB.size _⟩
          · have K1 := Lib.hid k1
            have K2 := Lib.hid k2
            clear k1 k2
            go_wp2_with fail
            refine (l1V_is3 z 1 1000000 _ _ K1.out).mono ?_; rintro E w' ⟨rfl, rfl⟩
            go_wp2_with fail
            refine (l1V_is3 x (-1000000) 1000000 _ _ K2.out).mono ?_; rintro E w' ⟨rfl, rfl⟩
            go_wp2
            go_ret
            exact ⟨rfl, hB.alloc hB.size _⟩
          · have K1 := Lib.hid k1
            have K2 := Lib.hid k2
            have K3 := Lib.hid k3
            clear k1 k2 k3
            go_wp2_with fail
            refine (l1V_is3 z 1 1000000 _ _ K1.out).mono ?_; rintro E w' ⟨rfl, rfl⟩
            go_wp2_with fail
            refine (l1V_is3 x (-1000000) 1000000 _ _ K2.out).mono ?_; rintro E w' ⟨rfl, rfl⟩
            go_wp2_with fail
            refine (l1V_is3 y (-1000000) 1000000 _ _ K3.out).mono ?_; rintro E w' ⟨rfl, rfl⟩
            go_wp2
            go_ret
            exact ⟨rfl, hB.alloc hB.size _⟩
    · have hv : ssB e n d x y z = (decide (e * z = x * d) && decide (n * z = y * d)) := by unfold ssB; rw [ha, hb]; rfl
      rw [hv]; clear hv
      have b1 := spB_iff.1 ha
      have b2 := spB_iff.1 hb
      have m0 := mulB (p := 1000000) (q := 1000000) (a := e) (b := z) (by omega) (by omega) (by omega) (by omega)
      have m1 := mulB (p := 1000000) (q := 1000000) (a := x) (b := d) (by omega) (by omega) (by omega) (by omega)
      have m2 := mulB (p := 1000000) (q := 1000000) (a := n) (b := z) (by omega) (by omega) (by omega) (by omega)
      have m3 := mulB (p := 1000000) (q := 1000000) (a := y) (b := d) (by omega) (by omega) (by omega) (by omega)
      simp only [Int.reduceMul, Int.reduceNeg] at m0 m1 m2 m3
      obtain ⟨m00, m01⟩ := m0
      obtain ⟨m10, m11⟩ := m1
      obtain ⟨m20, m21⟩ := m2
      obtain ⟨m30, m31⟩ := m3
      have HA := Lib.hid ha
      have HB := Lib.hid hb
      clear ha hb
      go_enter Try.func27, Try.ntmps27
      go_wp2_with fail
      go_loopw [11] (fun i wr => ∃ k : Nat, k ≤ 2 ∧ i = .int .i64 k ∧ wr.heap[w.heap.size]? = some (.cells #[.int .i64 e, .int .i64 n, .int .i64 d] 40 (0, 0)) ∧ wr.heap[w.heap.size + 1]? = some (.cells #[.int .i64 x, .int .i64 y, .int .i64 z] 40 (0, 0)) ∧ wr.heap[w.heap.size + 1 + 1]? = some (.cells #[.int .i64 e, .int .i64 n, .int .i64 d, .int .i64 x, .int .i64 y, .int .i64 z] 40 (0, 0)) ∧ Below w.heap.size w wr) (fun i _ => (2 - intOf i).toNat)
      case atStart => exact ⟨0, by omega, rfl, blk_old (blk_old (blk_new w _) _) _, blk_old (new2 w _ _) _, new3 w _ _ _, bel3 w _ _ _⟩
      case round =>
        obtain ⟨k, k1, rfl, hP, hQ, hL, hB⟩ := hrel
        have kk : k = 0 ∨ k = 1 ∨ k = 2 := by omega
        clear k1
        rcases kk with rfl | rfl | rfl
        · obtain ⟨p0, p1, p2, _, _, _, zp⟩ := blk3 hP
          obtain ⟨q0, q1, q2, _, _, _, zq⟩ := blk3 hQ
          obtain ⟨l0, l1, l2, l3, l4, l5, _, _, _, _, _, _, zl⟩ := blk6 hL
          obtain ⟨j1, j2, j3⟩ := spB_all HA.out
          have J1 := Lib.hid j1
          have J2 := Lib.hid j2
          have J3 := Lib.hid j3
          clear j1 j2 j3
          go_wp2_with fail
          refine (l1V_is3 d 1 1000000 _ _ J1.out).mono ?_; rintro E w' ⟨rfl, rfl⟩
          go_wp2_with fail
          refine (l1V_is3 e (-1000000) 1000000 _ _ J2.out).mono ?_; rintro E w' ⟨rfl, rfl⟩
          go_wp2_with fail
          refine (l1V_is3 n (-1000000) 1000000 _ _ J3.out).mono ?_; rintro E w' ⟨rfl, rfl⟩
          go_wp2_with fail
          go_roundw
          case rel => exact ⟨1, by omega, by go_num, blk_old hP _, blk_old hQ _, blk_old hL _, hB.alloc hB.size _⟩
          case measure => simp [intOf]
        · obtain ⟨p0, p1, p2, _, _, _, zp⟩ := blk3 hP
          obtain ⟨q0, q1, q2, _, _, _, zq⟩ := blk3 hQ
          obtain ⟨l0, l1, l2, l3, l4, l5, _, _, _, _, _, _, zl⟩ := blk6 hL
          obtain ⟨j1, j2, j3⟩ := spB_all HB.out
          have J1 := Lib.hid j1
          have J2 := Lib.hid j2
          have J3 := Lib.hid j3
          clear j1 j2 j3
          go_wp2_with fail
          refine (l1V_is3 z 1 1000000 _ _ J1.out).mono ?_; rintro E w' ⟨rfl, rfl⟩
          go_wp2_with fail
          refine (l1V_is3 x (-1000000) 1000000 _ _ J2.out).mono ?_; rintro E w' ⟨rfl, rfl⟩
          go_wp2_with fail
          refine (l1V_is3 y (-1000000) 1000000 _ _ J3.out).mono ?_; rintro E w' ⟨rfl, rfl⟩
          go_wp2_with fail
          go_roundw
          case rel => exact ⟨2, by omega, by go_num, blk_old hP _, blk_old hQ _, blk_old hL _, hB.alloc hB.size _⟩
          case measure => simp [intOf]
        · obtain ⟨p0, p1, p2, _, _, _, zp⟩ := blk3 hP
          obtain ⟨q0, q1, q2, _, _, _, zq⟩ := blk3 hQ
          obtain ⟨l0, l1, l2, l3, l4, l5, _, _, _, _, _, _, zl⟩ := blk6 hL
          go_wp2
          all_goals go_ret
          all_goals exact ⟨ret_bool (by first | rfl | (simp_all; done) | (rw [Bool.eq_iff_iff]; simp_all; try omega)), hB⟩
theorem sSS_is {e n d x y z : Int} {r : Bool} (w : World) (h_ : ssB e n d x y z = r) : Calls Try.prog 27 #[.agg #[.int .i64 e, .int .i64 n, .int .i64 d], .agg #[.int .i64 x, .int .i64 y, .int .i64 z]] w fun E w' => E = .returned (.bool r) ∧ Below w.heap.size w w' := by subst h_; exact sSS_any e n d x y z w
end Go.Proofs.Ytlahjgjjebkpjaa
