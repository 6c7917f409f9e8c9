/- Ep: texts joined. -/
import Derived.Laws.Rows
import Derived.Test.YtbklgpghonigjaaGreatMEm
import Derived.Test.YtbklgpghonigjaaGreatMQH
namespace Go.Proofs.YtbklgpghonigjaaGreat
open Go Go.ChangeShapes Go.WideShapes Go.ChangeAt Go.RowKit
set_option linter.unusedSimpArgs false
set_option linter.unusedVariables false
set_option maxRecDepth 100000 in
set_option maxHeartbeats 8000000 in
theorem sameSite_is (la dy mi e1 n1 fe fn fu ho ha ne lo hi st : Int) (up : Bool) (A B : Option Addr) (ca cb : Nat) (xs : List VBlock) {n : Nat} {w : World} (hn : xs.length = n) (hA : SRow encBlock w A xs) (hB' : SRow encBlock w B xs) (hl : n ≤ 2000000) :
    Calls Tryz.prog 22 #[.agg #[.int .i64 la, .int .i64 dy, .int .i64 mi, .slice A n ca, .int .i64 e1, .int .i64 n1, .int .i64 fe, .int .i64 fn, .int .i64 fu, .int .i64 ho, .int .i64 ha, .int .i64 ne, .int .i64 lo, .int .i64 hi, .bool up, .int .i64 st], .agg #[.int .i64 la, .int .i64 dy, .int .i64 mi, .slice B n cb, .int .i64 e1, .int .i64 n1, .int .i64 fe, .int .i64 fn, .int .i64 fu, .int .i64 ho, .int .i64 ha, .int .i64 ne, .int .i64 lo, .int .i64 hi, .bool up, .int .i64 st]] w fun e w' => e = .returned (.bool true) ∧ Below w.heap.size w w' := by
  have HN := Lib.hid hn
  clear hn
  have hP0 := blk_old (blk_new w (.cells #[.int .i64 la, .int .i64 dy, .int .i64 mi, .slice A n ca, .int .i64 e1, .int .i64 n1, .int .i64 fe, .int .i64 fn, .int .i64 fu, .int .i64 ho, .int .i64 ha, .int .i64 ne, .int .i64 lo, .int .i64 hi, .bool up, .int .i64 st] 33 (0, 0))) (.cells #[.int .i64 la, .int .i64 dy, .int .i64 mi, .slice B n cb, .int .i64 e1, .int .i64 n1, .int .i64 fe, .int .i64 fn, .int .i64 fu, .int .i64 ho, .int .i64 ha, .int .i64 ne, .int .i64 lo, .int .i64 hi, .bool up, .int .i64 st] 33 (0, 0))
  have hQ0 := blk_new (w.alloc (.cells #[.int .i64 la, .int .i64 dy, .int .i64 mi, .slice A n ca, .int .i64 e1, .int .i64 n1, .int .i64 fe, .int .i64 fn, .int .i64 fu, .int .i64 ho, .int .i64 ha, .int .i64 ne, .int .i64 lo, .int .i64 hi, .bool up, .int .i64 st] 33 (0, 0))) (.cells #[.int .i64 la, .int .i64 dy, .int .i64 mi, .slice B n cb, .int .i64 e1, .int .i64 n1, .int .i64 fe, .int .i64 fn, .int .i64 fu, .int .i64 ho, .int .i64 ha, .int .i64 ne, .int .i64 lo, .int .i64 hi, .bool up, .int .i64 st] 33 (0, 0))
  have hsz : (w.alloc (.cells #[.int .i64 la, .int .i64 dy, .int .i64 mi, .slice A n ca, .int .i64 e1, .int .i64 n1, .int .i64 fe, .int .i64 fn, .int .i64 fu, .int .i64 ho, .int .i64 ha, .int .i64 ne, .int .i64 lo, .int .i64 hi, .bool up, .int .i64 st] 33 (0, 0))).heap.size = w.heap.size + 1 := by simp
  rw [hsz] at hQ0
  have hB0 := bel2 w (.cells #[.int .i64 la, .int .i64 dy, .int .i64 mi, .slice A n ca, .int .i64 e1, .int .i64 n1, .int .i64 fe, .int .i64 fn, .int .i64 fu, .int .i64 ho, .int .i64 ha, .int .i64 ne, .int .i64 lo, .int .i64 hi, .bool up, .int .i64 st] 33 (0, 0)) (.cells #[.int .i64 la, .int .i64 dy, .int .i64 mi, .slice B n cb, .int .i64 e1, .int .i64 n1, .int .i64 fe, .int .i64 fn, .int .i64 fu, .int .i64 ho, .int .i64 ha, .int .i64 ne, .int .i64 lo, .int .i64 hi, .bool up, .int .i64 st] 33 (0, 0))
  go_enter Tryz.func22, Tryz.ntmps22
  go_wp2_with fail
  go_loopw [5] (fun i wr => ∃ k : Nat, k ≤ n ∧ i = .int .i64 k ∧ wr.heap[w.heap.size]? = some (.cells #[.int .i64 la, .int .i64 dy, .int .i64 mi, .slice A n ca, .int .i64 e1, .int .i64 n1, .int .i64 fe, .int .i64 fn, .int .i64 fu, .int .i64 ho, .int .i64 ha, .int .i64 ne, .int .i64 lo, .int .i64 hi, .bool up, .int .i64 st] 33 (0, 0)) ∧ wr.heap[w.heap.size + 1]? = some (.cells #[.int .i64 la, .int .i64 dy, .int .i64 mi, .slice B n cb, .int .i64 e1, .int .i64 n1, .int .i64 fe, .int .i64 fn, .int .i64 fu, .int .i64 ho, .int .i64 ha, .int .i64 ne, .int .i64 lo, .int .i64 hi, .bool up, .int .i64 st] 33 (0, 0)) ∧ Below w.heap.size w wr) (fun i _ => (n - intOf i).toNat)
  case atStart => exact ⟨0, by omega, rfl, hP0, hQ0, hB0⟩
  case round =>
    clear hP0 hQ0 hB0
    obtain ⟨k, k1, rfl, hP, hQ, hB⟩ := hrel
    by_cases hlt : k < n
    · have hk : k < xs.length := by rw [HN.out]; exact hlt
      have hk1 : (k : Int) < (n : Int) := by omega
      have hkn : k < n := hlt
      obtain ⟨b, off, rfl, _, c0, c1, c2, c3, c4⟩ := rowBlock (hA.next hB) hk
      obtain ⟨b', off', rfl, _, d0, d1, d2, d3, d4⟩ := rowBlock (hB'.next hB) hk
      obtain ⟨cP0, cP1, cP2, cP3, cP4, cP5, cP6, cP7, cP8, cP9, cP10, cP11, cP12, cP13, cP14, cP15, fP0, fP1, fP2, fP3, fP4, fP5, fP6, fP7, fP8, fP9, fP10, fP11, fP12, fP13, fP14, fP15, zP⟩ := blk16 hP
      go_wp2_with fail
      clear cP0 fP0 cP1 fP1 cP2 fP2 cP3 fP3 cP4 fP4 cP5 fP5 cP6 fP6 cP7 fP7 cP8 fP8 cP9 fP9 cP10 fP10 cP11 fP11 cP12 fP12 cP13 fP13 cP14 fP14 cP15 fP15
      refine wp_region_held_drew (S := (fun w' => w'.heap[w.heap.size]? = some (.cells #[.int .i64 la, .int .i64 dy, .int .i64 mi, .slice (some ⟨b, off, none⟩) n ca, .int .i64 e1, .int .i64 n1, .int .i64 fe, .int .i64 fn, .int .i64 fu, .int .i64 ho, .int .i64 ha, .int .i64 ne, .int .i64 lo, .int .i64 hi, .bool up, .int .i64 st] 33 (0, 0)) ∧ w'.heap[w.heap.size + 1]? = some (.cells #[.int .i64 la, .int .i64 dy, .int .i64 mi, .slice (some ⟨b', off', none⟩) n cb, .int .i64 e1, .int .i64 n1, .int .i64 fe, .int .i64 fn, .int .i64 fu, .int .i64 ho, .int .i64 ha, .int .i64 ne, .int .i64 lo, .int .i64 hi, .bool up, .int .i64 st] 33 (0, 0)) ∧ (w'.cell? ⟨b, off + k * 5, none⟩ = some (.int .i64 xs[k].1) ∧ w'.cell? ⟨b, off + k * 5 + 1, none⟩ = some (.int .i64 xs[k].2.1) ∧ w'.cell? ⟨b, off + k * 5 + 2, none⟩ = some (.int .i64 xs[k].2.2.1) ∧ w'.cell? ⟨b, off + k * 5 + 3, none⟩ = some (.int .i64 xs[k].2.2.2.1) ∧ w'.cell? ⟨b, off + k * 5 + 4, none⟩ = some (.int .i64 xs[k].2.2.2.2)) ∧ (w'.cell? ⟨b', off' + k * 5, none⟩ = some (.int .i64 xs[k].1) ∧ w'.cell? ⟨b', off' + k * 5 + 1, none⟩ = some (.int .i64 xs[k].2.1) ∧ w'.cell? ⟨b', off' + k * 5 + 2, none⟩ = some (.int .i64 xs[k].2.2.1) ∧ w'.cell? ⟨b', off' + k * 5 + 3, none⟩ = some (.int .i64 xs[k].2.2.2.1) ∧ w'.cell? ⟨b', off' + k * 5 + 4, none⟩ = some (.int .i64 xs[k].2.2.2.2)) ∧ Below w.heap.size w w')) (by kernel_rfl) ⟨hP, hQ, ⟨c0, c1, c2, c3, c4⟩, ⟨d0, d1, d2, d3, d4⟩, hB.drew⟩ (fun hHeld => ?_)
      have hB_0 := hHeld.2.2.2.2
      refine wpAnyH_take (i := 0) (oi := _) (v := ?_) rfl (by kernel_rfl) (by kernel_rfl) (by kernel_rfl) (fun _ _ _ h => h) (Or.inl ⟨by rfl, ?_⟩) (by assumption) ?_
      (rotate_left); (focus (intro wv hSw; obtain ⟨qP, qQ, ⟨q0, q1, q2, q3, q4⟩, ⟨r0, r1, r2, r3, r4⟩, qB⟩ := hSw; go_simp; (try with_reducible rfl)))
      try simp only [Act.put, List.getElem_toArray, List.getElem_cons_succ, List.getElem_cons_zero, List.setIfInBounds_toArray, List.set_cons_zero, List.set_cons_succ]
      refine wpAnyH_take (i := 1) (oi := _) (v := ?_) rfl (by kernel_rfl) (by kernel_rfl) (by kernel_rfl) (fun _ _ _ h => h) (Or.inl ⟨by rfl, ?_⟩) (by assumption) ?_
      (rotate_left); (focus (intro wv hSw; obtain ⟨qP, qQ, ⟨q0, q1, q2, q3, q4⟩, ⟨r0, r1, r2, r3, r4⟩, qB⟩ := hSw; obtain ⟨_, _, _, _, _, _, _, _, _, _, _, _, _, _, _, _, _, _, _, _, _, _, _, _, _, _, _, _, _, _, _, _, _⟩ := blk16 qP; go_simp; (try with_reducible rfl)))
      try simp only [Act.put, List.getElem_toArray, List.getElem_cons_succ, List.getElem_cons_zero, List.setIfInBounds_toArray, List.set_cons_zero, List.set_cons_succ]
      refine wpAnyH_take (i := 2) (oi := _) (v := ?_) rfl (by kernel_rfl) (by kernel_rfl) (by kernel_rfl) (fun _ _ _ h => h) (Or.inl ⟨by rfl, ?_⟩) (by assumption) ?_
      (rotate_left); (focus (intro wv hSw; obtain ⟨qP, qQ, ⟨q0, q1, q2, q3, q4⟩, ⟨r0, r1, r2, r3, r4⟩, qB⟩ := hSw; go_simp; (try with_reducible rfl)))
      try simp only [Act.put, List.getElem_toArray, List.getElem_cons_succ, List.getElem_cons_zero, List.setIfInBounds_toArray, List.set_cons_zero, List.set_cons_succ]
      refine wpAnyH_take (i := 3) (oi := _) (v := ?_) rfl (by kernel_rfl) (by kernel_rfl) (by kernel_rfl) (fun _ _ _ h => h) (Or.inl ⟨by rfl, ?_⟩) (by assumption) ?_
      (rotate_left); (focus (intro wv hSw; obtain ⟨qP, qQ, ⟨q0, q1, q2, q3, q4⟩, ⟨r0, r1, r2, r3, r4⟩, qB⟩ := hSw; go_simp; (try with_reducible rfl)))
      try simp only [Act.put, List.getElem_toArray, List.getElem_cons_succ, List.getElem_cons_zero, List.setIfInBounds_toArray, List.set_cons_zero, List.set_cons_succ]
      refine wpAnyH_take (i := 4) (oi := _) (v := ?_) rfl (by kernel_rfl) (by kernel_rfl) (by kernel_rfl) (fun _ _ _ h => h) (Or.inl ⟨by rfl, ?_⟩) (by assumption) ?_
      (rotate_left); (focus (intro wv hSw; obtain ⟨qP, qQ, ⟨q0, q1, q2, q3, q4⟩, ⟨r0, r1, r2, r3, r4⟩, qB⟩ := hSw; go_simp; (try with_reducible rfl)))
      try simp only [Act.put, List.getElem_toArray, List.getElem_cons_succ, List.getElem_cons_zero, List.setIfInBounds_toArray, List.set_cons_zero, List.set_cons_succ]
      refine wpAnyH_take (i := 5) (oi := _) (v := ?_) rfl (by kernel_rfl) (by kernel_rfl) (by kernel_rfl) (fun _ _ _ h => h) (Or.inl ⟨by rfl, ?_⟩) (by assumption) ?_
      (rotate_left); (focus (intro wv hSw; obtain ⟨qP, qQ, ⟨q0, q1, q2, q3, q4⟩, ⟨r0, r1, r2, r3, r4⟩, qB⟩ := hSw; go_simp; (try with_reducible rfl)))
      try simp only [Act.put, List.getElem_toArray, List.getElem_cons_succ, List.getElem_cons_zero, List.setIfInBounds_toArray, List.set_cons_zero, List.set_cons_succ]
      refine wpAnyH_take (i := 6) (oi := _) (v := ?_) rfl (by kernel_rfl) (by kernel_rfl) (by kernel_rfl) (fun _ _ _ h => h) (Or.inl ⟨by rfl, ?_⟩) (by assumption) ?_
      (rotate_left); (focus (intro wv hSw; obtain ⟨qP, qQ, ⟨q0, q1, q2, q3, q4⟩, ⟨r0, r1, r2, r3, r4⟩, qB⟩ := hSw; obtain ⟨_, _, _, _, _, _, _, _, _, _, _, _, _, _, _, _, _, _, _, _, _, _, _, _, _, _, _, _, _, _, _, _, _⟩ := blk16 qQ; go_simp; (try with_reducible rfl)))
      try simp only [Act.put, List.getElem_toArray, List.getElem_cons_succ, List.getElem_cons_zero, List.setIfInBounds_toArray, List.set_cons_zero, List.set_cons_succ]
      refine wpAnyH_take (i := 7) (oi := _) (v := ?_) rfl (by kernel_rfl) (by kernel_rfl) (by kernel_rfl) (fun _ _ _ h => h) (Or.inl ⟨by rfl, ?_⟩) (by assumption) ?_
      (rotate_left); (focus (intro wv hSw; obtain ⟨qP, qQ, ⟨q0, q1, q2, q3, q4⟩, ⟨r0, r1, r2, r3, r4⟩, qB⟩ := hSw; go_simp; (try with_reducible rfl)))
      try simp only [Act.put, List.getElem_toArray, List.getElem_cons_succ, List.getElem_cons_zero, List.setIfInBounds_toArray, List.set_cons_zero, List.set_cons_succ]
      refine wpAnyH_take (i := 8) (oi := _) (v := ?_) rfl (by kernel_rfl) (by kernel_rfl) (by kernel_rfl) (fun _ _ _ h => h) (Or.inl ⟨by rfl, ?_⟩) (by assumption) ?_
      (rotate_left); (focus (intro wv hSw; obtain ⟨qP, qQ, ⟨q0, q1, q2, q3, q4⟩, ⟨r0, r1, r2, r3, r4⟩, qB⟩ := hSw; go_simp; (try with_reducible rfl)))
      try simp only [Act.put, List.getElem_toArray, List.getElem_cons_succ, List.getElem_cons_zero, List.setIfInBounds_toArray, List.set_cons_zero, List.set_cons_succ]
      refine wpAnyH_take (i := 9) (oi := _) (v := ?_) rfl (by kernel_rfl) (by kernel_rfl) (by kernel_rfl) (fun _ _ _ h => h) (Or.inl ⟨by rfl, ?_⟩) (by assumption) ?_
      (rotate_left); (focus (intro wv hSw; obtain ⟨qP, qQ, ⟨q0, q1, q2, q3, q4⟩, ⟨r0, r1, r2, r3, r4⟩, qB⟩ := hSw; go_simp; (try with_reducible rfl)))
      try simp only [Act.put, List.getElem_toArray, List.getElem_cons_succ, List.getElem_cons_zero, List.setIfInBounds_toArray, List.set_cons_zero, List.set_cons_succ]
      refine wpAnyH_take (i := 10) (oi := _) (v := ?_) rfl (by kernel_rfl) (by kernel_rfl) (by kernel_rfl) (fun _ _ _ h => h) (Or.inl ⟨by rfl, ?_⟩) (by assumption) ?_
      (rotate_left); (focus (intro wv hSw; obtain ⟨qP, qQ, ⟨q0, q1, q2, q3, q4⟩, ⟨r0, r1, r2, r3, r4⟩, qB⟩ := hSw; go_simp; (try with_reducible rfl)))
      try simp only [Act.put, List.getElem_toArray, List.getElem_cons_succ, List.getElem_cons_zero, List.setIfInBounds_toArray, List.set_cons_zero, List.set_cons_succ]
      refine wpAnyH_done (by kernel_rfl) ?_ _
      go_wp2_with fail
      go_roundw
      case rel => exact ⟨k + 1, by omega, by go_num, hHeld.1, hHeld.2.1, hB_0⟩
      case measure => simp [intOf]; omega
    · obtain rfl : k = n := by omega
      have hk1 : ¬ (k : Int) < (k : Int) := by omega
      obtain ⟨cP0, cP1, cP2, cP3, cP4, cP5, cP6, cP7, cP8, cP9, cP10, cP11, cP12, cP13, cP14, cP15, fP0, fP1, fP2, fP3, fP4, fP5, fP6, fP7, fP8, fP9, fP10, fP11, fP12, fP13, fP14, fP15, zP⟩ := blk16 hP
      go_wp2_with fail
      go_ret
      exact ⟨rfl, hB⟩
set_option maxRecDepth 100000 in
set_option maxHeartbeats 8000000 in
theorem noSite_is (A : Option Addr) (ca : Nat) (w : World) :
    Calls Tryz.prog 25 #[.agg #[.int .i64 0, .int .i64 0, .int .i64 0, .slice A 0 ca, .int .i64 0, .int .i64 0, .int .i64 0, .int .i64 0, .int .i64 0, .int .i64 0, .int .i64 0, .int .i64 0, .int .i64 0, .int .i64 0, .bool false, .int .i64 0]] w fun e w' => e = .returned (.bool true) ∧ Below w.heap.size w w' := by
  have hP0 := blk_new w (.cells #[.int .i64 0, .int .i64 0, .int .i64 0, .slice A 0 ca, .int .i64 0, .int .i64 0, .int .i64 0, .int .i64 0, .int .i64 0, .int .i64 0, .int .i64 0, .int .i64 0, .int .i64 0, .int .i64 0, .bool false, .int .i64 0] 33 (0, 0))
  go_enter Tryz.func25, Tryz.ntmps25
  go_wp2_with (refine wpList_load_row rfl 33 _ rfl _ rfl _ _ (0, 0) _ (by assumption) Tryz.underlying33 rfl (by kernel_rfl) ?_)
  refine (sameSite_is (n := 0) 0 0 0 0 0 0 0 0 0 0 0 0 0 0 false A none ca 0 [] rfl (.inl rfl) (.inl rfl) (by omega)).mono ?_; rintro e w1 ⟨rfl, hw1⟩
  have hB1 := bel_next (bel1 w _) hw1
  go_wp2_with fail
  go_ret
  exact ⟨rfl, hB1⟩
set_option maxRecDepth 100000 in
set_option maxHeartbeats 8000000 in
theorem quarterOf_is (la dy mi e1 n1 fe fn fu ho ha ne lo hi st : Int) (up : Bool) (A : Option Addr) (n ca : Nat) {q : Int} (w : World) (d0 : 1 ≤ dy) (d1 : dy ≤ 365) (m0 : 0 ≤ mi) (m1 : mi ≤ 1425) (hq : qtI dy mi = q) :
    Calls Tryz.prog 28 #[.agg #[.int .i64 la, .int .i64 dy, .int .i64 mi, .slice A n ca, .int .i64 e1, .int .i64 n1, .int .i64 fe, .int .i64 fn, .int .i64 fu, .int .i64 ho, .int .i64 ha, .int .i64 ne, .int .i64 lo, .int .i64 hi, .bool up, .int .i64 st]] w fun e w' => e = .returned (.int .i64 q) ∧ Below w.heap.size w w' := by
  unfold qtI at hq
  obtain ⟨t, ht⟩ : ∃ t, mi.tdiv 15 = t := ⟨_, rfl⟩
  have ht9 : mi / 15 = t := by rw [← ht, Int.tdiv_eq_ediv_of_nonneg m0]
  have ht0 : 0 ≤ t ∧ t ≤ 95 := by omega
  rw [ht] at hq
  have htw : IntKind.i64.wrap t = t := IntWalk.i64_in _ (by omega)
  have hq9 : 96 * (dy - 1) + t = q := hq
  go_enter Tryz.func28, Tryz.ntmps28
  go_wp2_with fail
  go_ret
  exact ⟨rfl, bel1 w _⟩
end Go.Proofs.YtbklgpghonigjaaGreat
