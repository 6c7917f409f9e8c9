/- Contracts of chapter 7: sums over directions. -/
import Derived.Test.YtfgaggdiepielaaZf
namespace Go.Proofs.Ytfgaggdiepielaa
open Go Go.ChangeShapes Go.WideShapes Go.ChangeAt Go.RowKit
set_option linter.unusedSimpArgs false
set_option linter.unusedVariables false

set_option maxHeartbeats 4000000 in
theorem iFS_is (A : Option Addr) (cap : Nat) (rs : List VRay) {e n u : Int} {m : Nat} {r : Int} (w : World) (hm : rs.length = m) (h : SRow encRay w A rs) (hl : m ≤ 2000000) (hr : fsI e n u rs = r) :
    Calls Try.prog 20 #[.agg #[.int .i64 e, .int .i64 n, .int .i64 u], .slice A m cap] w fun E w' => E = .returned (.int .i64 r) ∧ Below w.heap.size w w' := by
  cases hf : fcB e n u
  · obtain rfl : r = -1 := by rw [← hr]; unfold fsI; rw [hf]; simp
    have HF := Lib.hid hf
    clear hf hr
    have HM := Lib.hid hm
    clear hm
    go_enter Try.func20, Try.ntmps20
    go_wp2_with fail
    refine (iFC_is _ HF.out).mono ?_; rintro E w1 ⟨rfl, hw1⟩
    obtain ⟨hP1, hB1⟩ := ownb hw1
    go_wp2
    go_ret
    exact ⟨rfl, hB1⟩
  · cases ha : rs.all ryT
    · obtain rfl : r = -1 := by rw [← hr]; unfold fsI; rw [hf, ha]; simp
      have HF := Lib.hid hf
      have HA0 := Lib.hid ha
      clear hf hr ha
      have HM := Lib.hid hm
      clear hm
      go_enter Try.func20, Try.ntmps20
      go_wp2_with fail
      refine (iFC_is _ HF.out).mono ?_; rintro E w1 ⟨rfl, hw1⟩
      obtain ⟨hP1, hB1⟩ := ownb hw1
      go_wp2_with fail
      refine (iAllRay7 A cap rs _ HM.out (h.next hB1) hl HA0.out).mono ?_; rintro E w2 ⟨rfl, hw2⟩
      have hP2 := blk_next hP1 hw2
      have hB2 := bel_next hB1 hw2
      go_wp2
      go_ret
      exact ⟨rfl, hB2⟩
    · have hr2 : fsT e n u rs = r := by rw [← hr]; unfold fsI; rw [hf, ha]; simp
      have HR := Lib.hid hr2
      have HF := Lib.hid hf
      have HA0 := Lib.hid ha
      clear hf hr ha hr2
      have HM := Lib.hid hm
      clear hm
      go_enter Try.func20, Try.ntmps20
      go_wp2_with fail
      refine (iFC_is _ HF.out).mono ?_; rintro E w1 ⟨rfl, hw1⟩
      obtain ⟨hP1, hB1⟩ := ownb hw1
      go_wp2_with fail
      refine (iAllRay7 A cap rs _ HM.out (h.next hB1) hl HA0.out).mono ?_; rintro E w2 ⟨rfl, hw2⟩
      have hP2 := blk_next hP1 hw2
      have hB2 := bel_next hB1 hw2
      go_wp2_with fail
      go_loopw [5, 18] (fun s v wr => ∃ k : Nat, v = .int .i64 k ∧ k ≤ m ∧ s = .int .i64 (fsT e n u (rs.take k)) ∧ Hid ((rs.take k).all ryT = true) ∧ wr.heap[w.heap.size]? = some (.cells #[.int .i64 e, .int .i64 n, .int .i64 u] 24) ∧ Below w.heap.size w wr) (fun _ v _ => (m - intOf v).toNat)
      case atStart => exact ⟨0, rfl, by omega, rfl, (by show _ = _; rfl), hP2, hB2⟩
      case round =>
        obtain ⟨k, rfl, k1, rfl, HA, hP, hB⟩ := hrel
        by_cases hlt : k < m
        · have hk : k < rs.length := by rw [HM.out]; exact hlt
          have hki : (k : Int) < (m : Int) := by omega
          obtain ⟨b, off, rfl, hb, c0, c1, c2⟩ := rowRay (h.next hB) hk
          have hry : ryB rs[k].1 rs[k].2.1 rs[k].2.2 = true := (List.all_eq_true.1 HA0.out) rs[k] (List.getElem_mem hk)
          have HA2 := Lib.hid (al7_step hk HA.out hry)
          have HS := Lib.hid (fsT_step (e := e) (n := n) (u := u) hk)
          obtain ⟨q0, q1⟩ := fsT_bd HF.out (rs.take k) HA.out
          obtain ⟨g0, g1⟩ := fgI_bd HF.out hry
          obtain ⟨v, hv⟩ : ∃ v, fgI e n u rs[k].1 rs[k].2.1 rs[k].2.2 = v := ⟨_, rfl⟩
          rw [hv] at g0 g1
          have HS2 := Lib.hid (HS.out.trans (by rw [hv]))
          have HV := Lib.hid hv
          rw [List.length_take] at q1
          clear hry hv HS
          obtain ⟨p0, p1, p2, _, _, _, zp⟩ := blk3 hP
          generalize fsT e n u (rs.take k) = s at q0 q1 HS2 ⊢
          go_wp2_with fail
          refine (iFG_is _ HV.out).mono ?_; rintro E w3 ⟨rfl, hw3⟩
          have hP3 := blk_next (blk_old hP _) hw3
          have hB3 := bel_next (hB.alloc hB.size _) hw3
          go_wp2_with fail
          go_roundw
          case rel => exact ⟨k + 1, by go_num, by omega, by rw [HS2.out], HA2, hP3, hB3⟩
          case measure => simp [intOf]; omega
        · have hki : ¬ (k : Int) < (m : Int) := by omega
          go_wp2_with fail
          go_ret
          exact ⟨ret_int (by rw [← HR.out, List.take_of_length_le (by rw [HM.out]; omega)]), hB⟩
set_option maxRecDepth 100000 in
set_option maxHeartbeats 4000000 in
theorem sFS_is (A : Option Addr) (cap : Nat) (rs : List VRay) {e n u : Int} {m : Nat} {r : Int} (w : World) (hm : rs.length = m) (h : SRow encRay w A rs) (hl : m ≤ 2000000) (hr : fsI e n u rs = r) :
    Calls Try.prog 21 #[.agg #[.int .i64 e, .int .i64 n, .int .i64 u], .slice A m cap] w fun E w' => E = .returned (.int .i64 r) ∧ Below w.heap.size w w' := by
  have HM := Lib.hid hm
  clear hm
  go_enter Try.func21, Try.ntmps21
  go_wp2_with fail
  obtain ⟨sm, hsm⟩ : ∃ sm : Nat → Int, ∀ k, sm k = fsT e n u (rs.take k) := ⟨_, fun _ => rfl⟩
  have HSM := Lib.hid hsm
  have hs0 : (0 : Int) = sm 0 := by rw [hsm]; rfl
  clear hsm
  go_loopw [5, 6] (fun s v wr => ∃ k : Nat, v = .int .i64 k ∧ k ≤ m ∧ s = .int .i64 (sm k) ∧ Hid (0 < k → fcB e n u = true) ∧ Hid ((rs.take k).all ryT = true) ∧ wr.heap[w.heap.size]? = some (.cells #[.int .i64 e, .int .i64 n, .int .i64 u] 24) ∧ Below w.heap.size w wr) (fun _ v _ => (m - intOf v).toNat)
  case atStart => exact ⟨0, rfl, by omega, by rw [← hs0], Lib.hid (by omega), (by show _ = _; rfl), blk_new w _, bel1 w _⟩
  case round =>
    clear hs0
    obtain ⟨k, rfl, k1, rfl, HF0, HA, hP, hB⟩ := hrel
    by_cases hlt : k < m
    · have hk : k < rs.length := by rw [HM.out]; exact hlt
      have hki : (k : Int) < (m : Int) := by omega
      obtain ⟨b, off, rfl, hb, c0, c1, c2⟩ := rowRay (h.next hB) hk
      clear c0 c1 c2
      have HC : Hid (∀ wv, Below w.heap.size w wv → wv.cell? ⟨b, off + k * 3, none⟩ = some (.int .i64 rs[k].1) ∧ wv.cell? ⟨b, off + k * 3 + 1, none⟩ = some (.int .i64 rs[k].2.1) ∧ wv.cell? ⟨b, off + k * 3 + 2, none⟩ = some (.int .i64 rs[k].2.2)) := by
        intro wv hw
        obtain ⟨_, _, e, _, hc⟩ := rowRay (h.next hw) hk
        simp only [Option.some.injEq, Addr.mk.injEq, and_true] at e
        obtain ⟨rfl, rfl⟩ := e
        exact hc
      obtain ⟨v, hv⟩ : ∃ v, fgI e n u rs[k].1 rs[k].2.1 rs[k].2.2 = v := ⟨_, rfl⟩
      have HV := Lib.hid hv
      cases hc : (fcB e n u && ryB rs[k].1 rs[k].2.1 rs[k].2.2)
      · have hr1 : r = -1 := by
          rw [← hr]; unfold fsI; rw [if_neg]
          intro h2; rw [Bool.and_eq_true] at h2
          have h3 := (List.all_eq_true.1 h2.2) rs[k] (List.getElem_mem hk)
          unfold ryT at h3
          rw [h2.1, h3] at hc; cases hc
        obtain rfl : v = -1 := by rw [← hv]; unfold fgI; rw [hc]; rfl
        subst hr1
        clear hc hv hr
        go_wp2_with fail
        refine wp_region_held_drew (S := (fun w' => w'.heap[w.heap.size]? = some (.cells #[.int .i64 e, .int .i64 n, .int .i64 u] 24) ∧ Below w.heap.size w w')) (by kernel_rfl) ⟨hP, hB.drew⟩ (fun hHeld => ?_)
        obtain ⟨hP_0, hB_0⟩ := id hHeld
        refine wpAnyH_take (i := 0) (oi := _) (v := ?_) rfl (by kernel_rfl) (by kernel_rfl) (by kernel_rfl) (fun _ _ _ h => h) (Or.inl ⟨by rfl, ?_⟩) (by assumption) ?_
        (rotate_left); (focus (intro wv hSw; (obtain ⟨qP, qB⟩ := hSw); obtain ⟨m0, m1, m2, _, _, _, mz⟩ := blk3 qP; obtain ⟨d0, d1, d2⟩ := HC.out wv qB; go_simp; (try with_reducible rfl)))
        try simp only [Act.put, List.getElem_toArray, List.getElem_cons_succ, List.getElem_cons_zero, List.setIfInBounds_toArray, List.set_cons_zero, List.set_cons_succ]
        refine wpAnyH_take (i := 1) (oi := _) (v := ?_) rfl (by kernel_rfl) (by kernel_rfl) (by kernel_rfl) (fun _ _ _ h => h) (Or.inl ⟨by rfl, ?_⟩) (by assumption) ?_
        (rotate_left); (focus (intro wv hSw; (obtain ⟨qP, qB⟩ := hSw); obtain ⟨m0, m1, m2, _, _, _, mz⟩ := blk3 qP; obtain ⟨d0, d1, d2⟩ := HC.out wv qB; go_simp; (try with_reducible rfl)))
        try simp only [Act.put, List.getElem_toArray, List.getElem_cons_succ, List.getElem_cons_zero, List.setIfInBounds_toArray, List.set_cons_zero, List.set_cons_succ]
        refine wpAnyH_take (i := 2) (oi := _) (v := ?_) rfl (by kernel_rfl) (by kernel_rfl) (by kernel_rfl) (fun _ _ _ h => h) (Or.inl ⟨by rfl, ?_⟩) (by assumption) ?_
        (rotate_left); (focus (intro wv hSw; (obtain ⟨qP, qB⟩ := hSw); obtain ⟨m0, m1, m2, _, _, _, mz⟩ := blk3 qP; obtain ⟨d0, d1, d2⟩ := HC.out wv qB; go_simp; (try with_reducible rfl)))
        try simp only [Act.put, List.getElem_toArray, List.getElem_cons_succ, List.getElem_cons_zero, List.setIfInBounds_toArray, List.set_cons_zero, List.set_cons_succ]
        refine wpAnyH_take (i := 3) (oi := _) (v := ?_) rfl (by kernel_rfl) (by kernel_rfl) (by kernel_rfl) (fun _ _ _ h => h) (Or.inl ⟨by rfl, ?_⟩) (by assumption) ?_
        (rotate_left); (focus (intro wv hSw; (obtain ⟨qP, qB⟩ := hSw); obtain ⟨m0, m1, m2, _, _, _, mz⟩ := blk3 qP; obtain ⟨d0, d1, d2⟩ := HC.out wv qB; go_simp; (try with_reducible rfl)))
        try simp only [Act.put, List.getElem_toArray, List.getElem_cons_succ, List.getElem_cons_zero, List.setIfInBounds_toArray, List.set_cons_zero, List.set_cons_succ]
        refine wpAnyH_take (i := 4) (oi := _) (v := ?_) rfl (by kernel_rfl) (by kernel_rfl) (by kernel_rfl) (fun _ _ _ h => h) (Or.inl ⟨by rfl, ?_⟩) (by assumption) ?_
        (rotate_left); (focus (intro wv hSw; (obtain ⟨qP, qB⟩ := hSw); obtain ⟨m0, m1, m2, _, _, _, mz⟩ := blk3 qP; obtain ⟨d0, d1, d2⟩ := HC.out wv qB; go_simp; (try with_reducible rfl)))
        try simp only [Act.put, List.getElem_toArray, List.getElem_cons_succ, List.getElem_cons_zero, List.setIfInBounds_toArray, List.set_cons_zero, List.set_cons_succ]
        refine wpAnyH_ready (rs := [5]) (by kernel_rfl) (by simp) ?_
        refine AllReadyH.cons (o := _) rfl (fun K hK => ?_) AllReadyH.nil
        go_simp
        (go_at_call 17; refine (sFG_is _ HV.out).mono ?_; rintro e x0c ⟨rfl, hw_0c⟩)
        refine hK.out _ _ ⟨blk_next hP_0 hw_0c, bel_next hB_0 hw_0c⟩ (fun hHeld => ?_)
        clear hK K
        try simp only [Act.put, List.getElem_toArray, List.getElem_cons_succ, List.getElem_cons_zero, List.setIfInBounds_toArray, List.set_cons_zero, List.set_cons_succ]
        obtain ⟨hP_0c, hB_0c⟩ := id hHeld
        refine wpAnyH_take (i := 6) (oi := _) (v := ?_) rfl (by kernel_rfl) (by kernel_rfl) (by kernel_rfl) (fun _ _ _ h => h) (Or.inl ⟨by rfl, ?_⟩) (by assumption) ?_
        (rotate_left); (focus (intro wv hSw; (obtain ⟨qP, qB⟩ := hSw); obtain ⟨m0, m1, m2, _, _, _, mz⟩ := blk3 qP; obtain ⟨d0, d1, d2⟩ := HC.out wv qB; go_simp; (try with_reducible rfl)))
        try simp only [Act.put, List.getElem_toArray, List.getElem_cons_succ, List.getElem_cons_zero, List.setIfInBounds_toArray, List.set_cons_zero, List.set_cons_succ]
        refine wpAnyH_done (by kernel_rfl) ?_ _
        go_wp2_with fail
        go_ret
        exact ⟨rfl, hB_0c⟩
      · rw [Bool.and_eq_true] at hc
        obtain ⟨hf, hry⟩ := hc
        have HA2 := Lib.hid (al7_step (p := ryT) hk HA.out hry)
        obtain ⟨q0, q1⟩ := fsT_bd hf (rs.take k) HA.out
        obtain ⟨g0, g1⟩ := fgI_bd hf hry
        rw [hv] at g0 g1
        rw [← HSM.out] at q0 q1
        have HS2 : Hid (sm (k + 1) = sm k + v) := Lib.hid (by rw [HSM.out, HSM.out, fsT_step hk, hv])
        have HF1 : Hid (0 < k + 1 → fcB e n u = true) := Lib.hid (fun _ => hf)
        rw [List.length_take] at q1
        have hvn : ¬ v < 0 := by omega
        clear hf hry hv
        generalize sm k = s at q0 q1 HS2 ⊢
        go_wp2_with fail
        refine wp_region_held_drew (S := (fun w' => w'.heap[w.heap.size]? = some (.cells #[.int .i64 e, .int .i64 n, .int .i64 u] 24) ∧ Below w.heap.size w w')) (by kernel_rfl) ⟨hP, hB.drew⟩ (fun hHeld => ?_)
        obtain ⟨hP_0, hB_0⟩ := id hHeld
        refine wpAnyH_take (i := 0) (oi := _) (v := ?_) rfl (by kernel_rfl) (by kernel_rfl) (by kernel_rfl) (fun _ _ _ h => h) (Or.inl ⟨by rfl, ?_⟩) (by assumption) ?_
        (rotate_left); (focus (intro wv hSw; (obtain ⟨qP, qB⟩ := hSw); obtain ⟨m0, m1, m2, _, _, _, mz⟩ := blk3 qP; obtain ⟨d0, d1, d2⟩ := HC.out wv qB; go_simp; (try with_reducible rfl)))
        try simp only [Act.put, List.getElem_toArray, List.getElem_cons_succ, List.getElem_cons_zero, List.setIfInBounds_toArray, List.set_cons_zero, List.set_cons_succ]
        refine wpAnyH_take (i := 1) (oi := _) (v := ?_) rfl (by kernel_rfl) (by kernel_rfl) (by kernel_rfl) (fun _ _ _ h => h) (Or.inl ⟨by rfl, ?_⟩) (by assumption) ?_
        (rotate_left); (focus (intro wv hSw; (obtain ⟨qP, qB⟩ := hSw); obtain ⟨m0, m1, m2, _, _, _, mz⟩ := blk3 qP; obtain ⟨d0, d1, d2⟩ := HC.out wv qB; go_simp; (try with_reducible rfl)))
        try simp only [Act.put, List.getElem_toArray, List.getElem_cons_succ, List.getElem_cons_zero, List.setIfInBounds_toArray, List.set_cons_zero, List.set_cons_succ]
        refine wpAnyH_take (i := 2) (oi := _) (v := ?_) rfl (by kernel_rfl) (by kernel_rfl) (by kernel_rfl) (fun _ _ _ h => h) (Or.inl ⟨by rfl, ?_⟩) (by assumption) ?_
        (rotate_left); (focus (intro wv hSw; (obtain ⟨qP, qB⟩ := hSw); obtain ⟨m0, m1, m2, _, _, _, mz⟩ := blk3 qP; obtain ⟨d0, d1, d2⟩ := HC.out wv qB; go_simp; (try with_reducible rfl)))
        try simp only [Act.put, List.getElem_toArray, List.getElem_cons_succ, List.getElem_cons_zero, List.setIfInBounds_toArray, List.set_cons_zero, List.set_cons_succ]
        refine wpAnyH_take (i := 3) (oi := _) (v := ?_) rfl (by kernel_rfl) (by kernel_rfl) (by kernel_rfl) (fun _ _ _ h => h) (Or.inl ⟨by rfl, ?_⟩) (by assumption) ?_
        (rotate_left); (focus (intro wv hSw; (obtain ⟨qP, qB⟩ := hSw); obtain ⟨m0, m1, m2, _, _, _, mz⟩ := blk3 qP; obtain ⟨d0, d1, d2⟩ := HC.out wv qB; go_simp; (try with_reducible rfl)))
        try simp only [Act.put, List.getElem_toArray, List.getElem_cons_succ, List.getElem_cons_zero, List.setIfInBounds_toArray, List.set_cons_zero, List.set_cons_succ]
        refine wpAnyH_take (i := 4) (oi := _) (v := ?_) rfl (by kernel_rfl) (by kernel_rfl) (by kernel_rfl) (fun _ _ _ h => h) (Or.inl ⟨by rfl, ?_⟩) (by assumption) ?_
        (rotate_left); (focus (intro wv hSw; (obtain ⟨qP, qB⟩ := hSw); obtain ⟨m0, m1, m2, _, _, _, mz⟩ := blk3 qP; obtain ⟨d0, d1, d2⟩ := HC.out wv qB; go_simp; (try with_reducible rfl)))
        try simp only [Act.put, List.getElem_toArray, List.getElem_cons_succ, List.getElem_cons_zero, List.setIfInBounds_toArray, List.set_cons_zero, List.set_cons_succ]
        refine wpAnyH_ready (rs := [5]) (by kernel_rfl) (by simp) ?_
        refine AllReadyH.cons (o := _) rfl (fun K hK => ?_) AllReadyH.nil
        go_simp
        (go_at_call 17; refine (sFG_is _ HV.out).mono ?_; rintro e x0c ⟨rfl, hw_0c⟩)
        refine hK.out _ _ ⟨blk_next hP_0 hw_0c, bel_next hB_0 hw_0c⟩ (fun hHeld => ?_)
        clear hK K
        try simp only [Act.put, List.getElem_toArray, List.getElem_cons_succ, List.getElem_cons_zero, List.setIfInBounds_toArray, List.set_cons_zero, List.set_cons_succ]
        obtain ⟨hP_0c, hB_0c⟩ := id hHeld
        refine wpAnyH_take (i := 6) (oi := _) (v := ?_) rfl (by kernel_rfl) (by kernel_rfl) (by kernel_rfl) (fun _ _ _ h => h) (Or.inl ⟨by rfl, ?_⟩) (by assumption) ?_
        (rotate_left); (focus (intro wv hSw; (obtain ⟨qP, qB⟩ := hSw); obtain ⟨m0, m1, m2, _, _, _, mz⟩ := blk3 qP; obtain ⟨d0, d1, d2⟩ := HC.out wv qB; go_simp; (try with_reducible rfl)))
        try simp only [Act.put, List.getElem_toArray, List.getElem_cons_succ, List.getElem_cons_zero, List.setIfInBounds_toArray, List.set_cons_zero, List.set_cons_succ]
        refine wpAnyH_done (by kernel_rfl) ?_ _
        go_wp2_with fail
        refine wp_region_held_drew (S := (fun w' => w'.heap[w.heap.size]? = some (.cells #[.int .i64 e, .int .i64 n, .int .i64 u] 24) ∧ Below w.heap.size w w')) (by kernel_rfl) ⟨hP_0c, hB_0c.drew⟩ (fun hHeld => ?_)
        obtain ⟨hPx_0, hBx_0⟩ := id hHeld
        refine wpAnyH_take (i := 0) (oi := _) (v := ?_) rfl (by kernel_rfl) (by kernel_rfl) (by kernel_rfl) (fun _ _ _ h => h) (Or.inl ⟨by rfl, ?_⟩) (by assumption) ?_
        (rotate_left); (focus (intro wv hSw; (obtain ⟨qP, qB⟩ := hSw); obtain ⟨m0, m1, m2, _, _, _, mz⟩ := blk3 qP; obtain ⟨d0, d1, d2⟩ := HC.out wv qB; go_simp; (try with_reducible rfl)))
        try simp only [Act.put, List.getElem_toArray, List.getElem_cons_succ, List.getElem_cons_zero, List.setIfInBounds_toArray, List.set_cons_zero, List.set_cons_succ]
        refine wpAnyH_take (i := 1) (oi := _) (v := ?_) rfl (by kernel_rfl) (by kernel_rfl) (by kernel_rfl) (fun _ _ _ h => h) (Or.inl ⟨by rfl, ?_⟩) (by assumption) ?_
        (rotate_left); (focus (intro wv hSw; (obtain ⟨qP, qB⟩ := hSw); obtain ⟨m0, m1, m2, _, _, _, mz⟩ := blk3 qP; obtain ⟨d0, d1, d2⟩ := HC.out wv qB; go_simp; (try with_reducible rfl)))
        try simp only [Act.put, List.getElem_toArray, List.getElem_cons_succ, List.getElem_cons_zero, List.setIfInBounds_toArray, List.set_cons_zero, List.set_cons_succ]
        refine wpAnyH_take (i := 2) (oi := _) (v := ?_) rfl (by kernel_rfl) (by kernel_rfl) (by kernel_rfl) (fun _ _ _ h => h) (Or.inl ⟨by rfl, ?_⟩) (by assumption) ?_
        (rotate_left); (focus (intro wv hSw; (obtain ⟨qP, qB⟩ := hSw); obtain ⟨m0, m1, m2, _, _, _, mz⟩ := blk3 qP; obtain ⟨d0, d1, d2⟩ := HC.out wv qB; go_simp; (try with_reducible rfl)))
        try simp only [Act.put, List.getElem_toArray, List.getElem_cons_succ, List.getElem_cons_zero, List.setIfInBounds_toArray, List.set_cons_zero, List.set_cons_succ]
        refine wpAnyH_take (i := 3) (oi := _) (v := ?_) rfl (by kernel_rfl) (by kernel_rfl) (by kernel_rfl) (fun _ _ _ h => h) (Or.inl ⟨by rfl, ?_⟩) (by assumption) ?_
        (rotate_left); (focus (intro wv hSw; (obtain ⟨qP, qB⟩ := hSw); obtain ⟨m0, m1, m2, _, _, _, mz⟩ := blk3 qP; obtain ⟨d0, d1, d2⟩ := HC.out wv qB; go_simp; (try with_reducible rfl)))
        try simp only [Act.put, List.getElem_toArray, List.getElem_cons_succ, List.getElem_cons_zero, List.setIfInBounds_toArray, List.set_cons_zero, List.set_cons_succ]
        refine wpAnyH_take (i := 4) (oi := _) (v := ?_) rfl (by kernel_rfl) (by kernel_rfl) (by kernel_rfl) (fun _ _ _ h => h) (Or.inl ⟨by rfl, ?_⟩) (by assumption) ?_
        (rotate_left); (focus (intro wv hSw; (obtain ⟨qP, qB⟩ := hSw); obtain ⟨m0, m1, m2, _, _, _, mz⟩ := blk3 qP; obtain ⟨d0, d1, d2⟩ := HC.out wv qB; go_simp; (try with_reducible rfl)))
        try simp only [Act.put, List.getElem_toArray, List.getElem_cons_succ, List.getElem_cons_zero, List.setIfInBounds_toArray, List.set_cons_zero, List.set_cons_succ]
        refine wpAnyH_take (i := 5) (oi := _) (v := ?_) rfl (by kernel_rfl) (by kernel_rfl) (by kernel_rfl) (fun _ _ _ h => h) (Or.inl ⟨by rfl, ?_⟩) (by assumption) ?_
        (rotate_left); (focus (intro wv hSw; (obtain ⟨qP, qB⟩ := hSw); obtain ⟨m0, m1, m2, _, _, _, mz⟩ := blk3 qP; obtain ⟨d0, d1, d2⟩ := HC.out wv qB; go_simp; (try with_reducible rfl)))
        try simp only [Act.put, List.getElem_toArray, List.getElem_cons_succ, List.getElem_cons_zero, List.setIfInBounds_toArray, List.set_cons_zero, List.set_cons_succ]
        refine wpAnyH_ready (rs := [6]) (by kernel_rfl) (by simp) ?_
        refine AllReadyH.cons (o := _) rfl (fun K hK => ?_) AllReadyH.nil
        go_simp
        (go_at_call 17; refine (sFG_is _ HV.out).mono ?_; rintro e y0c ⟨rfl, hwx_0c⟩)
        refine hK.out _ _ ⟨blk_next hPx_0 hwx_0c, bel_next hBx_0 hwx_0c⟩ (fun hHeld => ?_)
        clear hK K
        try simp only [Act.put, List.getElem_toArray, List.getElem_cons_succ, List.getElem_cons_zero, List.setIfInBounds_toArray, List.set_cons_zero, List.set_cons_succ]
        obtain ⟨hPx_0c, hBx_0c⟩ := id hHeld
        refine wpAnyH_take (i := 7) (oi := _) (v := ?_) rfl (by kernel_rfl) (by kernel_rfl) (by kernel_rfl) (fun _ _ _ h => h) (Or.inl ⟨by rfl, ?_⟩) (by assumption) ?_
        (rotate_left); (focus (intro wv hSw; (obtain ⟨qP, qB⟩ := hSw); obtain ⟨m0, m1, m2, _, _, _, mz⟩ := blk3 qP; obtain ⟨d0, d1, d2⟩ := HC.out wv qB; go_simp; (try with_reducible rfl)))
        try simp only [Act.put, List.getElem_toArray, List.getElem_cons_succ, List.getElem_cons_zero, List.setIfInBounds_toArray, List.set_cons_zero, List.set_cons_succ]
        refine wpAnyH_take (i := 8) (oi := _) (v := ?_) rfl (by kernel_rfl) (by kernel_rfl) (by kernel_rfl) (fun _ _ _ h => h) (Or.inl ⟨by rfl, ?_⟩) (by assumption) ?_
        (rotate_left); (focus (intro wv hSw; (obtain ⟨qP, qB⟩ := hSw); obtain ⟨m0, m1, m2, _, _, _, mz⟩ := blk3 qP; obtain ⟨d0, d1, d2⟩ := HC.out wv qB; go_simp; (try with_reducible rfl)))
        try simp only [Act.put, List.getElem_toArray, List.getElem_cons_succ, List.getElem_cons_zero, List.setIfInBounds_toArray, List.set_cons_zero, List.set_cons_succ]
        refine wpAnyH_done (by kernel_rfl) ?_ _
        go_wp2_with fail
        go_roundw
        case rel => exact ⟨k + 1, by go_num, by omega, by rw [HS2.out, IntWalk.i64_in _ (by omega)], HF1, HA2, hPx_0c, hBx_0c⟩
        case measure => simp [intOf]; omega
    · have hki : ¬ (k : Int) < (m : Int) := by omega
      have HAll : Hid (rs.all ryT = true) := al7_yes HM.out (by omega) HA.out
      obtain rfl : k = m := by omega
      obtain ⟨p0, p1, p2, _, _, _, zp⟩ := blk3 hP
      cases hf : fcB e n u
      · obtain rfl : r = -1 := by rw [← hr]; unfold fsI; rw [hf]; simp
        have HF := Lib.hid hf
        clear hf hr
        go_wp2_with fail
        refine (sFC_is _ HF.out).mono ?_; rintro E w3 ⟨rfl, hw3⟩
        have hB3 := bel_next hB hw3
        go_wp2
        go_ret
        exact ⟨rfl, hB3⟩
      · have hr2 : sm k = r := by rw [← hr, HSM.out]; unfold fsI; rw [hf, HAll.out, List.take_of_length_le (by rw [HM.out]; omega)]; simp
        have HF := Lib.hid hf
        have HR := Lib.hid hr2
        clear hf hr hr2
        go_wp2_with fail
        refine (sFC_is _ HF.out).mono ?_; rintro E w3 ⟨rfl, hw3⟩
        have hB3 := bel_next hB hw3
        go_wp2
        go_ret
        exact ⟨ret_int HR.out, hB3⟩
end Go.Proofs.Ytfgaggdiepielaa
