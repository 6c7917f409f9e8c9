/- The model's KeepLit. -/
import Derived.Test.YtidppabconifkaaYq
import Derived.Test.YtidppabconifkaaYp
import Derived.Test.YtidppabconifkaaYh
import Derived.Lib.SliceRun
namespace Go.Proofs.Ytidppabconifkaa
open Go Go.ChangeShapes Go.WideShapes Go.ChangeAt Go.RowKit
set_option linter.unusedSimpArgs false
set_option linter.unusedVariables false

theorem li_mem9 {d : Int} {xs : List Int} {e f : Int} {lit : List Int} {n : Nat} (hok : okB d xs e f = true) (hn : xs.length = n) (hli : liL d xs e f = lit) {i : Nat} (hi : i < lit.length) : 0 ≤ lit[i] ∧ lit[i] < (n : Int) := by
  have h9 : lit[i] ∈ ltL d xs e f xs.length := by rw [← li_yes hok, hli]; exact List.getElem_mem hi
  have := ltL_mem.1 h9
  rw [hn] at this; exact ⟨this.1, this.2.1⟩
set_option maxRecDepth 100000 in
set_option maxHeartbeats 8000000 in
theorem sKl_is (d : Int) (A : Option Addr) (cap : Nat) (xs : List Int) (c e f : Int) {r : Int} {n : Nat} (w : World) (hn : xs.length = n) (h : SRow encNum w A xs) (hl : n ≤ 2000000) (hr : kpI d xs c e f = r) :
    Calls Try.prog 44 #[.agg #[.int .i64 d, .slice A n cap], .int .i64 c, .int .i64 e, .int .i64 f] w fun E w' => E = .returned (.int .i64 r) ∧ Below w.heap.size w w' := by
  cases hok : okB d xs e f
  · have hr9 : r = -1 := by rw [← hr]; exact kp_no (by rw [hok]; rfl)
    subst hr9
    obtain ⟨lit, hli⟩ : ∃ l, liL d xs e f = l := ⟨_, rfl⟩
    obtain ⟨q, hq⟩ : ∃ q, lit.length = q := ⟨_, rfl⟩
    have HL := Lib.hid hli
    have HLQ := Lib.hid hq
    have HOK := Lib.hid hok
    have HN := Lib.hid hn
    clear hok hn hr hli hq
    go_enter Try.func44, Try.ntmps44
    go_wp2_with fail
    refine (sLc_len d A cap xs e f _ HN.out (h.next (bel1 w (.cells #[.int .i64 d, .slice A n cap] 25 (0, 0)))) hl HL.out HLQ.out).mono ?_; rintro E w1 ⟨V, cv, rfl, hV1, hw1⟩
    obtain ⟨hP1, hB1⟩ := ownb hw1
    have hV1 := hV1.mono (base' := w.heap.size) (by simp)
    obtain ⟨p0_, p1_, pf0_, pf1_, pz_⟩ := blk2 hP1
    go_wp2_with fail
    go_loopw [9, 11] (fun bv tv wr => bv = .int .i64 (-1) ∧ tv = .int .i64 0 ∧ w1 = wr) (fun _ _ _ => 0)
    case atStart => exact ⟨rfl, rfl, rfl⟩
    case round =>
      obtain ⟨rfl, rfl, rfl⟩ := hrel
      go_wp2_with fail
      refine (sOk_is d A cap xs e f _ HN.out (h.next hB1) hl HOK.out).mono ?_; rintro E w5 ⟨rfl, hw5⟩
      go_wp2
      go_ret
      exact ⟨rfl, bel_next hB1 hw5⟩
  · cases h2 : ceB xs c
    · have hr9 : r = -1 := by rw [← hr]; exact kp_no (by rw [hok, h2]; rfl)
      subst hr9
      obtain ⟨lit, hli⟩ : ∃ l, liL d xs e f = l := ⟨_, rfl⟩
      obtain ⟨q, hq⟩ : ∃ q, lit.length = q := ⟨_, rfl⟩
      have HL := Lib.hid hli
      have HLQ := Lib.hid hq
      have HOK := Lib.hid hok
      have H2 := Lib.hid h2
      have HN := Lib.hid hn
      clear hok h2 hn hr hli hq
      go_enter Try.func44, Try.ntmps44
      go_wp2_with fail
      refine (sLc_len d A cap xs e f _ HN.out (h.next (bel1 w (.cells #[.int .i64 d, .slice A n cap] 25 (0, 0)))) hl HL.out HLQ.out).mono ?_; rintro E w1 ⟨V, cv, rfl, hV1, hw1⟩
      obtain ⟨hP1, hB1⟩ := ownb hw1
      have hV1 := hV1.mono (base' := w.heap.size) (by simp)
      obtain ⟨p0_, p1_, pf0_, pf1_, pz_⟩ := blk2 hP1
      go_wp2_with fail
      go_loopw [9, 11] (fun bv tv wr => ∃ k : Nat, tv = .int .i64 k ∧ k ≤ 21 ∧ bv = .int .i64 (-1) ∧ wr.heap[w.heap.size]? = some (.cells #[.int .i64 d, .slice A n cap] 25 (0, 0)) ∧ SOwn encNum wr w.heap.size 3 V cv lit ∧ Below w.heap.size w wr) (fun _ tv _ => (21 - intOf tv).toNat)
      case atStart => exact ⟨0, rfl, by omega, rfl, hP1, hV1, hB1⟩
      case round =>
        clear hP1 hV1 hB1 p0_ p1_ pf0_ pf1_ pz_
        obtain ⟨k, rfl, k1, rfl, hP, hV, hB⟩ := hrel
        obtain ⟨p0_, p1_, _, _, _⟩ := blk2 hP
        by_cases hlt : k ≤ 20
        · have hki : (k : Int) ≤ 20 := by omega
          go_wp2_with fail
          refine (sOk_is d A cap xs e f _ HN.out (h.next hB) hl HOK.out).mono ?_; rintro E w5 ⟨rfl, hw5⟩
          have hP5 := blk_next hP hw5
          have hV5 := hV.next hw5
          have hB5 := bel_next hB hw5
          clear p0_ p1_
          obtain ⟨p0_, p1_, _, _, _⟩ := blk2 hP5
          go_wp2_with fail
          have HSB : Hid (csB d xs c (k : Int) = false) := Lib.hid (by unfold csB; rw [H2.out]; simp)
          have HSD : Hid (csD d xs c (k : Int) = 0) := Lib.hid (by unfold csD; rw [HSB.out]; rfl)
          have HSL : Hid (csL d xs c (k : Int) = []) := Lib.hid (by unfold csL; rw [HSB.out]; rfl)
          have HSQ : Hid (([] : List Int).length = 0) := Lib.hid (rfl)
          refine (sCset_len d A cap xs c (k : Int) _ HN.out (h.next hB5) hl HSB.out HSD.out HSL.out HSQ.out).mono ?_; rintro E w6 ⟨U, cu, rfl, hU6, hw6⟩
          have hU6 := hU6.mono (base' := w.heap.size) hB5.size
          have hP6 := blk_next hP5 hw6
          have hV6 := hV5.next hw6
          have hB6 := bel_next hB5 hw6
          have hX7 := blk_new w6 (.cells #[.int .i64 0, .slice U 0 cu] 25 (0, 0))
          have hP7 := blk_old hP6 (.cells #[.int .i64 0, .slice U 0 cu] 25 (0, 0))
          have hV7 := hV6.next (bel1 w6 (.cells #[.int .i64 0, .slice U 0 cu] 25 (0, 0)))
          have hU7 := hU6.next (bel1 w6 (.cells #[.int .i64 0, .slice U 0 cu] 25 (0, 0)))
          have hB7 := bel_next hB6 (bel1 w6 (.cells #[.int .i64 0, .slice U 0 cu] 25 (0, 0)))
          clear hP hV hB hP5 hV5 hB5 hP6 hV6 hU6 hB6 p0_ p1_
          go_wp2_with fail
          go_loopw [14, 15] (fun gv kv wr => gv = .bool false ∧ kv = .int .i64 0 ∧ wr.heap[w.heap.size]? = some (.cells #[.int .i64 d, .slice A n cap] 25 (0, 0)) ∧ SOwn encNum wr w.heap.size 3 V cv lit ∧ Below w.heap.size w wr) (fun _ _ _ => 0)
          case atStart => exact ⟨rfl, rfl, hP7, hV7, hB7⟩
          case round =>
            clear hP7 hV7 hB7 hX7 hU7
            obtain ⟨rfl, rfl, hP, hV, hB⟩ := hrel
            rcases Nat.eq_zero_or_pos q with hq0 | hq0
            · subst hq0
              go_wp2_with fail
              go_roundw
              case rel => exact ⟨k + 1, by go_num, by omega, rfl, hP, hV, hB⟩
              case measure => simp [intOf]; omega
            · have hqi : (0 : Int) < (q : Int) := by omega
              go_wp2_with fail
              go_roundw
              case rel => exact ⟨k + 1, by go_num, by omega, rfl, hP, hV, hB⟩
              case measure => simp [intOf]; omega
        · have hki : ¬ (k : Int) ≤ 20 := by omega
          have hk21 : k = 21 := by omega
          subst hk21
          go_wp2_with fail
          go_ret
          exact ⟨rfl, hB⟩
    · obtain ⟨lit, hli⟩ : ∃ l, liL d xs e f = l := ⟨_, rfl⟩
      obtain ⟨q, hq⟩ : ∃ q, lit.length = q := ⟨_, rfl⟩
      have HL := Lib.hid hli
      have HLQ := Lib.hid hq
      have hcv := (okB_iff.1 hok).1
      have hq36 : q ≤ 36 := by have h8 := liL_len d xs e f; rw [hli, hq] at h8; have := (cv_len hcv).2; omega
      have hkr := kp_rng (e := e) (c := c) hcv (okB_iff.1 hok).2.2.1 (faN d c (opI e))
      obtain ⟨M, hM⟩ : ∃ M, kpG d xs e f c (faN d c (opI e)) = M := ⟨_, rfl⟩
      have hrM : r = M := by rw [← hr, kp_yes hok h2, hM]
      subst hrM
      rw [hM] at hkr
      have HKM := Lib.hid hM
      have HM0 := Lib.hid hkr.1
      have HM20 := Lib.hid hkr.2
      have HMEM : Hid (∀ (i : Nat) (hi : i < lit.length), 0 ≤ lit[i] ∧ lit[i] < (n : Int)) := Lib.hid (fun i hi => li_mem9 hok hn hli hi)
      have HOK := Lib.hid hok
      have H2 := Lib.hid h2
      have HN := Lib.hid hn
      clear hok h2 hn hr hli hq hcv hkr hM
      go_enter Try.func44, Try.ntmps44
      go_wp2_with fail
      refine (sLc_len d A cap xs e f _ HN.out (h.next (bel1 w (.cells #[.int .i64 d, .slice A n cap] 25 (0, 0)))) hl HL.out HLQ.out).mono ?_; rintro E w1 ⟨V, cv, rfl, hV1, hw1⟩
      obtain ⟨hP1, hB1⟩ := ownb hw1
      have hV1 := hV1.mono (base' := w.heap.size) (by simp)
      obtain ⟨p0_, p1_, pf0_, pf1_, pz_⟩ := blk2 hP1
      go_wp2_with fail
      go_loopw [9, 11] (fun bv tv wr => ∃ k : Nat, tv = .int .i64 k ∧ k ≤ 21 ∧ bv = .int .i64 (kbI r k) ∧ wr.heap[w.heap.size]? = some (.cells #[.int .i64 d, .slice A n cap] 25 (0, 0)) ∧ SOwn encNum wr w.heap.size 3 V cv lit ∧ Below w.heap.size w wr) (fun _ tv _ => (21 - intOf tv).toNat)
      case atStart => exact ⟨0, rfl, by omega, rfl, hP1, hV1, hB1⟩
      case round =>
        clear hP1 hV1 hB1 p0_ p1_ pf0_ pf1_ pz_
        obtain ⟨k, rfl, k1, rfl, hP, hV, hB⟩ := hrel
        obtain ⟨p0_, p1_, _, _, _⟩ := blk2 hP
        by_cases hlt : k ≤ 20
        · have hki : (k : Int) ≤ 20 := by omega
          go_wp2_with fail
          refine (sOk_is d A cap xs e f _ HN.out (h.next hB) hl HOK.out).mono ?_; rintro E w5 ⟨rfl, hw5⟩
          have hP5 := blk_next hP hw5
          have hV5 := hV.next hw5
          have hB5 := bel_next hB hw5
          clear p0_ p1_
          obtain ⟨p0_, p1_, _, _, _⟩ := blk2 hP5
          go_wp2_with fail
          have HSB : Hid (csB d xs c (k : Int) = true) := Lib.hid (by unfold csB; rw [H2.out, (okB_iff.1 HOK.out).1, tlB_iff.2 ⟨by omega, hki⟩]; rfl)
          have HSD : Hid (csD d xs c (k : Int) = d) := Lib.hid (if_pos HSB.out)
          obtain ⟨l2, hl2⟩ : ∃ l2, xs.set c.toNat (k : Int) = l2 := ⟨_, rfl⟩
          have HSL : Hid (csL d xs c (k : Int) = l2) := Lib.hid ((if_pos HSB.out).trans hl2)
          have HSQ : Hid (l2.length = n) := Lib.hid (by rw [← hl2, List.length_set, HN.out])
          have HS2 := Lib.hid hl2
          have HOK2 : Hid (okB d l2 e f = true) := Lib.hid (by have h9 := okB_iff.1 HOK.out; rw [← hl2]; exact okB_iff.2 ⟨cv_set h9.1 (tlB_iff.2 ⟨by omega, hki⟩), h9.2⟩)
          have HGK : Hid (gdB d xs e f c (k : Int) lit = decide ((k : Int) ≤ r)) := Lib.hid (by rw [← HL.out]; exact (gd_kp HOK.out H2.out (by omega) hki).trans (by rw [HKM.out]))
          clear hl2
          refine (sCset_len d A cap xs c (k : Int) _ HN.out (h.next hB5) hl HSB.out HSD.out HSL.out HSQ.out).mono ?_; rintro E w6 ⟨U, cu, rfl, hU6, hw6⟩
          have hU6 := hU6.mono (base' := w.heap.size) hB5.size
          have hP6 := blk_next hP5 hw6
          have hV6 := hV5.next hw6
          have hB6 := bel_next hB5 hw6
          have hX7 := blk_new w6 (.cells #[.int .i64 d, .slice U n cu] 25 (0, 0))
          have hP7 := blk_old hP6 (.cells #[.int .i64 d, .slice U n cu] 25 (0, 0))
          have hV7 := hV6.next (bel1 w6 (.cells #[.int .i64 d, .slice U n cu] 25 (0, 0)))
          have hU7 := hU6.next (bel1 w6 (.cells #[.int .i64 d, .slice U n cu] 25 (0, 0)))
          have hB7 := bel_next hB6 (bel1 w6 (.cells #[.int .i64 d, .slice U n cu] 25 (0, 0)))
          clear hP hV hB hP5 hV5 hB5 hP6 hV6 hU6 hB6 p0_ p1_
          go_wp2_with fail
          go_loopw [14, 15] (fun gv kv wr => ∃ j : Nat, kv = .int .i64 j ∧ j ≤ q ∧ gv = .bool (gdB d xs e f c (k : Int) (lit.take j)) ∧ wr.heap[w.heap.size]? = some (.cells #[.int .i64 d, .slice A n cap] 25 (0, 0)) ∧ wr.heap[w6.heap.size]? = some (.cells #[.int .i64 d, .slice U n cu] 25 (0, 0)) ∧ SOwn encNum wr w.heap.size 3 V cv lit ∧ SOwn encNum wr w.heap.size 3 U cu l2 ∧ Below w.heap.size w wr) (fun _ kv _ => (q - intOf kv).toNat)
          case atStart => exact ⟨0, rfl, by omega, rfl, hP7, hX7, hV7, hU7, hB7⟩
          case round =>
            clear hP7 hV7 hB7 hX7 hU7
            obtain ⟨j, rfl, j1, rfl, hP, hX, hV, hU, hB⟩ := hrel
            by_cases hlt2 : j < q
            · have hji : (j : Int) < (q : Int) := by omega
              have hjl : j < lit.length := by rw [HLQ.out]; exact hlt2
              obtain ⟨b2, off2, rfl, _, cV⟩ := rowNum hV.row hjl
              have hgn := gd_next (d := d) (xs := xs) (e := e) (f := f) (c := c) (t := (k : Int)) hjl
              rw [HS2.out] at hgn
              have hvm := HMEM.out j hjl
              generalize lit[j] = v at cV hgn hvm
              generalize gdB d xs e f c (k : Int) (lit.take j) = gb at hgn ⊢
              generalize hg2 : gdB d xs e f c (k : Int) (lit.take (j + 1)) = gb2 at hgn
              have HG2 := Lib.hid hg2
              clear hg2
              cases gb
              · have hgn2 : gb2 = false := by rw [hgn]; rfl
                subst hgn2
                clear hgn
                go_wp2_with fail
                refine wp_region_held_drew (S := (fun w' => w'.heap[w.heap.size]? = some (.cells #[.int .i64 d, .slice A n cap] 25 (0, 0)) ∧ w'.heap[w6.heap.size]? = some (.cells #[.int .i64 d, .slice U n cu] 25 (0, 0)) ∧ SOwn encNum w' w.heap.size 3 (some ⟨b2, off2, none⟩) cv lit ∧ SOwn encNum w' w.heap.size 3 U cu l2 ∧ w'.cell? ⟨b2, off2 + j, none⟩ = some (.int .i64 v) ∧ Below w.heap.size w w')) (by kernel_rfl) ⟨hP, hX, hV.drew, hU.drew, cV, hB.drew⟩ (fun hHeld => ?_)
                obtain ⟨hP_0, hX_0, hV_0, hU_0, hC_0, hB_0⟩ := id hHeld
                refine wpAnyH_take (i := 0) (oi := _) (v := ?_) rfl (by kernel_rfl) (by kernel_rfl) (by kernel_rfl) (fun _ _ _ h => h) (Or.inl ⟨by rfl, ?_⟩) (by assumption) ?_
                (rotate_left); (focus (intro wv hSw; (obtain ⟨qP, qX, qV, qU, qC, qB⟩ := hSw); obtain ⟨u0_, u1_, _, _, _⟩ := blk2 qX; go_simp; (try with_reducible rfl)))
                try simp only [Act.put, List.getElem_toArray, List.getElem_cons_succ, List.getElem_cons_zero, List.setIfInBounds_toArray, List.set_cons_zero, List.set_cons_succ]
                refine wpAnyH_take (i := 1) (oi := _) (v := ?_) rfl (by kernel_rfl) (by kernel_rfl) (by kernel_rfl) (fun _ _ _ h => h) (Or.inl ⟨by rfl, ?_⟩) (by assumption) ?_
                (rotate_left); (focus (intro wv hSw; (obtain ⟨qP, qX, qV, qU, qC, qB⟩ := hSw); obtain ⟨u0_, u1_, _, _, _⟩ := blk2 qX; go_simp; (try with_reducible rfl)))
                try simp only [Act.put, List.getElem_toArray, List.getElem_cons_succ, List.getElem_cons_zero, List.setIfInBounds_toArray, List.set_cons_zero, List.set_cons_succ]
                refine wpAnyH_take (i := 2) (oi := _) (v := undef) rfl (by kernel_rfl) (by kernel_rfl) (by kernel_rfl) (fun _ _ _ h => h) (Or.inr ⟨by kernel_rfl, rfl⟩) (by assumption) ?_
                try simp only [Act.put, List.getElem_toArray, List.getElem_cons_succ, List.getElem_cons_zero, List.setIfInBounds_toArray, List.set_cons_zero, List.set_cons_succ]
                refine wpAnyH_take (i := 3) (oi := _) (v := undef) rfl (by kernel_rfl) (by kernel_rfl) (by kernel_rfl) (fun _ _ _ h => h) (Or.inr ⟨by kernel_rfl, rfl⟩) (by assumption) ?_
                try simp only [Act.put, List.getElem_toArray, List.getElem_cons_succ, List.getElem_cons_zero, List.setIfInBounds_toArray, List.set_cons_zero, List.set_cons_succ]
                refine wpAnyH_take (i := 4) (oi := _) (v := undef) rfl (by kernel_rfl) (by kernel_rfl) (by kernel_rfl) (fun _ _ _ h => h) (Or.inr ⟨by kernel_rfl, rfl⟩) (by assumption) ?_
                try simp only [Act.put, List.getElem_toArray, List.getElem_cons_succ, List.getElem_cons_zero, List.setIfInBounds_toArray, List.set_cons_zero, List.set_cons_succ]
                refine wpAnyH_take (i := 5) (oi := _) (v := undef) rfl (by kernel_rfl) (by kernel_rfl) (by kernel_rfl) (fun _ _ _ h => h) (Or.inr ⟨by kernel_rfl, rfl⟩) (by assumption) ?_
                try simp only [Act.put, List.getElem_toArray, List.getElem_cons_succ, List.getElem_cons_zero, List.setIfInBounds_toArray, List.set_cons_zero, List.set_cons_succ]
                refine wpAnyH_take (i := 6) (oi := _) (v := undef) rfl (by kernel_rfl) (by kernel_rfl) (by kernel_rfl) (fun _ _ _ h => h) (Or.inr ⟨by kernel_rfl, rfl⟩) (by assumption) ?_
                try simp only [Act.put, List.getElem_toArray, List.getElem_cons_succ, List.getElem_cons_zero, List.setIfInBounds_toArray, List.set_cons_zero, List.set_cons_succ]
                refine wpAnyH_take (i := 7) (oi := _) (v := undef) rfl (by kernel_rfl) (by kernel_rfl) (by kernel_rfl) (fun _ _ _ h => h) (Or.inr ⟨by kernel_rfl, rfl⟩) (by assumption) ?_
                try simp only [Act.put, List.getElem_toArray, List.getElem_cons_succ, List.getElem_cons_zero, List.setIfInBounds_toArray, List.set_cons_zero, List.set_cons_succ]
                refine wpAnyH_take (i := 8) (oi := _) (v := undef) rfl (by kernel_rfl) (by kernel_rfl) (by kernel_rfl) (fun _ _ _ h => h) (Or.inr ⟨by kernel_rfl, rfl⟩) (by assumption) ?_
                try simp only [Act.put, List.getElem_toArray, List.getElem_cons_succ, List.getElem_cons_zero, List.setIfInBounds_toArray, List.set_cons_zero, List.set_cons_succ]
                refine wpAnyH_take (i := 9) (oi := _) (v := undef) rfl (by kernel_rfl) (by kernel_rfl) (by kernel_rfl) (fun _ _ _ h => h) (Or.inr ⟨by kernel_rfl, rfl⟩) (by assumption) ?_
                try simp only [Act.put, List.getElem_toArray, List.getElem_cons_succ, List.getElem_cons_zero, List.setIfInBounds_toArray, List.set_cons_zero, List.set_cons_succ]
                refine wpAnyH_take (i := 10) (oi := _) (v := undef) rfl (by kernel_rfl) (by kernel_rfl) (by kernel_rfl) (fun _ _ _ h => h) (Or.inr ⟨by kernel_rfl, rfl⟩) (by assumption) ?_
                try simp only [Act.put, List.getElem_toArray, List.getElem_cons_succ, List.getElem_cons_zero, List.setIfInBounds_toArray, List.set_cons_zero, List.set_cons_succ]
                refine wpAnyH_take (i := 11) (oi := _) (v := undef) rfl (by kernel_rfl) (by kernel_rfl) (by kernel_rfl) (fun _ _ _ h => h) (Or.inr ⟨by kernel_rfl, rfl⟩) (by assumption) ?_
                try simp only [Act.put, List.getElem_toArray, List.getElem_cons_succ, List.getElem_cons_zero, List.setIfInBounds_toArray, List.set_cons_zero, List.set_cons_succ]
                refine wpAnyH_take (i := 12) (oi := _) (v := undef) rfl (by kernel_rfl) (by kernel_rfl) (by kernel_rfl) (fun _ _ _ h => h) (Or.inr ⟨by kernel_rfl, rfl⟩) (by assumption) ?_
                try simp only [Act.put, List.getElem_toArray, List.getElem_cons_succ, List.getElem_cons_zero, List.setIfInBounds_toArray, List.set_cons_zero, List.set_cons_succ]
                refine wpAnyH_take (i := 13) (oi := _) (v := undef) rfl (by kernel_rfl) (by kernel_rfl) (by kernel_rfl) (fun _ _ _ h => h) (Or.inr ⟨by kernel_rfl, rfl⟩) (by assumption) ?_
                try simp only [Act.put, List.getElem_toArray, List.getElem_cons_succ, List.getElem_cons_zero, List.setIfInBounds_toArray, List.set_cons_zero, List.set_cons_succ]
                refine wpAnyH_take (i := 14) (oi := _) (v := undef) rfl (by kernel_rfl) (by kernel_rfl) (by kernel_rfl) (fun _ _ _ h => h) (Or.inr ⟨by kernel_rfl, rfl⟩) (by assumption) ?_
                try simp only [Act.put, List.getElem_toArray, List.getElem_cons_succ, List.getElem_cons_zero, List.setIfInBounds_toArray, List.set_cons_zero, List.set_cons_succ]
                refine wpAnyH_take (i := 15) (oi := _) (v := undef) rfl (by kernel_rfl) (by kernel_rfl) (by kernel_rfl) (fun _ _ _ h => h) (Or.inr ⟨by kernel_rfl, rfl⟩) (by assumption) ?_
                try simp only [Act.put, List.getElem_toArray, List.getElem_cons_succ, List.getElem_cons_zero, List.setIfInBounds_toArray, List.set_cons_zero, List.set_cons_succ]
                refine wpAnyH_take (i := 16) (oi := _) (v := undef) rfl (by kernel_rfl) (by kernel_rfl) (by kernel_rfl) (fun _ _ _ h => h) (Or.inr ⟨by kernel_rfl, rfl⟩) (by assumption) ?_
                try simp only [Act.put, List.getElem_toArray, List.getElem_cons_succ, List.getElem_cons_zero, List.setIfInBounds_toArray, List.set_cons_zero, List.set_cons_succ]
                refine wpAnyH_take (i := 17) (oi := _) (v := undef) rfl (by kernel_rfl) (by kernel_rfl) (by kernel_rfl) (fun _ _ _ h => h) (Or.inr ⟨by kernel_rfl, rfl⟩) (by assumption) ?_
                try simp only [Act.put, List.getElem_toArray, List.getElem_cons_succ, List.getElem_cons_zero, List.setIfInBounds_toArray, List.set_cons_zero, List.set_cons_succ]
                refine wpAnyH_take (i := 18) (oi := _) (v := undef) rfl (by kernel_rfl) (by kernel_rfl) (by kernel_rfl) (fun _ _ _ h => h) (Or.inr ⟨by kernel_rfl, rfl⟩) (by assumption) ?_
                try simp only [Act.put, List.getElem_toArray, List.getElem_cons_succ, List.getElem_cons_zero, List.setIfInBounds_toArray, List.set_cons_zero, List.set_cons_succ]
                refine wpAnyH_take (i := 19) (oi := _) (v := ?_) rfl (by kernel_rfl) (by kernel_rfl) (by kernel_rfl) (fun _ _ _ h => h) (Or.inl ⟨by rfl, ?_⟩) (by assumption) ?_
                (rotate_left); (focus (intro wv hSw; (obtain ⟨qP, qX, qV, qU, qC, qB⟩ := hSw); obtain ⟨u0_, u1_, _, _, _⟩ := blk2 qX; go_simp; (try with_reducible rfl)))
                try simp only [Act.put, List.getElem_toArray, List.getElem_cons_succ, List.getElem_cons_zero, List.setIfInBounds_toArray, List.set_cons_zero, List.set_cons_succ]
                refine wpAnyH_take (i := 20) (oi := _) (v := ?_) rfl (by kernel_rfl) (by kernel_rfl) (by kernel_rfl) (fun _ _ _ h => h) (Or.inl ⟨by rfl, ?_⟩) (by assumption) ?_
                (rotate_left); (focus (intro wv hSw; (obtain ⟨qP, qX, qV, qU, qC, qB⟩ := hSw); obtain ⟨u0_, u1_, _, _, _⟩ := blk2 qX; go_simp; (try with_reducible rfl)))
                try simp only [Act.put, List.getElem_toArray, List.getElem_cons_succ, List.getElem_cons_zero, List.setIfInBounds_toArray, List.set_cons_zero, List.set_cons_succ]
                refine wpAnyH_done (by kernel_rfl) ?_ _
                go_wp2_with fail
                go_roundw
                case rel => exact ⟨j + 1, by go_num, by omega, by rw [HG2.out], hP_0, hX_0, hV_0, hU_0, hB_0⟩
                case measure => simp [intOf]; omega
              · by_cases hvc : v = c
                · have hgn2 : gb2 = true := by rw [hgn, beq_iff_eq.2 hvc]; rfl
                  have hvb : (v == c) = true := beq_iff_eq.2 hvc
                  subst hgn2
                  clear hgn hvc
                  go_wp2_with fail
                  refine wp_region_held_drew (S := (fun w' => w'.heap[w.heap.size]? = some (.cells #[.int .i64 d, .slice A n cap] 25 (0, 0)) ∧ w'.heap[w6.heap.size]? = some (.cells #[.int .i64 d, .slice U n cu] 25 (0, 0)) ∧ SOwn encNum w' w.heap.size 3 (some ⟨b2, off2, none⟩) cv lit ∧ SOwn encNum w' w.heap.size 3 U cu l2 ∧ w'.cell? ⟨b2, off2 + j, none⟩ = some (.int .i64 v) ∧ Below w.heap.size w w')) (by kernel_rfl) ⟨hP, hX, hV.drew, hU.drew, cV, hB.drew⟩ (fun hHeld => ?_)
                  obtain ⟨hP_0, hX_0, hV_0, hU_0, hC_0, hB_0⟩ := id hHeld
                  refine wpAnyH_take (i := 0) (oi := _) (v := ?_) rfl (by kernel_rfl) (by kernel_rfl) (by kernel_rfl) (fun _ _ _ h => h) (Or.inl ⟨by rfl, ?_⟩) (by assumption) ?_
                  (rotate_left); (focus (intro wv hSw; (obtain ⟨qP, qX, qV, qU, qC, qB⟩ := hSw); obtain ⟨u0_, u1_, _, _, _⟩ := blk2 qX; go_simp; (try with_reducible rfl)))
                  try simp only [Act.put, List.getElem_toArray, List.getElem_cons_succ, List.getElem_cons_zero, List.setIfInBounds_toArray, List.set_cons_zero, List.set_cons_succ]
                  refine wpAnyH_take (i := 1) (oi := _) (v := ?_) rfl (by kernel_rfl) (by kernel_rfl) (by kernel_rfl) (fun _ _ _ h => h) (Or.inl ⟨by rfl, ?_⟩) (by assumption) ?_
                  (rotate_left); (focus (intro wv hSw; (obtain ⟨qP, qX, qV, qU, qC, qB⟩ := hSw); obtain ⟨u0_, u1_, _, _, _⟩ := blk2 qX; go_simp; (try with_reducible rfl)))
                  try simp only [Act.put, List.getElem_toArray, List.getElem_cons_succ, List.getElem_cons_zero, List.setIfInBounds_toArray, List.set_cons_zero, List.set_cons_succ]
                  refine wpAnyH_take (i := 2) (oi := _) (v := ?_) rfl (by kernel_rfl) (by kernel_rfl) (by kernel_rfl) (fun _ _ _ h => h) (Or.inl ⟨by rfl, ?_⟩) (by assumption) ?_
                  (rotate_left); (focus (intro wv hSw; (obtain ⟨qP, qX, qV, qU, qC, qB⟩ := hSw); obtain ⟨u0_, u1_, _, _, _⟩ := blk2 qX; go_simp; (try with_reducible rfl)))
                  try simp only [Act.put, List.getElem_toArray, List.getElem_cons_succ, List.getElem_cons_zero, List.setIfInBounds_toArray, List.set_cons_zero, List.set_cons_succ]
                  refine wpAnyH_take (i := 3) (oi := _) (v := ?_) rfl (by kernel_rfl) (by kernel_rfl) (by kernel_rfl) (fun _ _ _ h => h) (Or.inl ⟨by rfl, ?_⟩) (by assumption) ?_
                  (rotate_left); (focus (intro wv hSw; (obtain ⟨qP, qX, qV, qU, qC, qB⟩ := hSw); obtain ⟨u0_, u1_, _, _, _⟩ := blk2 qX; go_simp; (try with_reducible rfl)))
                  try simp only [Act.put, List.getElem_toArray, List.getElem_cons_succ, List.getElem_cons_zero, List.setIfInBounds_toArray, List.set_cons_zero, List.set_cons_succ]
                  refine wpAnyH_take (i := 4) (oi := _) (v := ?_) rfl (by kernel_rfl) (by kernel_rfl) (by kernel_rfl) (fun _ _ _ h => h) (Or.inl ⟨by rfl, ?_⟩) (by assumption) ?_
                  (rotate_left); (focus (intro wv hSw; (obtain ⟨qP, qX, qV, qU, qC, qB⟩ := hSw); obtain ⟨u0_, u1_, _, _, _⟩ := blk2 qX; go_simp; (try with_reducible rfl)))
                  try simp only [Act.put, List.getElem_toArray, List.getElem_cons_succ, List.getElem_cons_zero, List.setIfInBounds_toArray, List.set_cons_zero, List.set_cons_succ]
                  refine wpAnyH_take (i := 5) (oi := _) (v := ?_) rfl (by kernel_rfl) (by kernel_rfl) (by kernel_rfl) (fun _ _ _ h => h) (Or.inl ⟨by rfl, ?_⟩) (by assumption) ?_
                  (rotate_left); (focus (intro wv hSw; (obtain ⟨qP, qX, qV, qU, qC, qB⟩ := hSw); obtain ⟨u0_, u1_, _, _, _⟩ := blk2 qX; go_simp; (try with_reducible rfl)))
                  try simp only [Act.put, List.getElem_toArray, List.getElem_cons_succ, List.getElem_cons_zero, List.setIfInBounds_toArray, List.set_cons_zero, List.set_cons_succ]
                  refine wpAnyH_take (i := 6) (oi := _) (v := ?_) rfl (by kernel_rfl) (by kernel_rfl) (by kernel_rfl) (fun _ _ _ h => h) (Or.inl ⟨by rfl, ?_⟩) (by assumption) ?_
                  (rotate_left); (focus (intro wv hSw; (obtain ⟨qP, qX, qV, qU, qC, qB⟩ := hSw); obtain ⟨u0_, u1_, _, _, _⟩ := blk2 qX; go_simp; (try with_reducible rfl)))
                  try simp only [Act.put, List.getElem_toArray, List.getElem_cons_succ, List.getElem_cons_zero, List.setIfInBounds_toArray, List.set_cons_zero, List.set_cons_succ]
                  refine wpAnyH_take (i := 7) (oi := _) (v := ?_) rfl (by kernel_rfl) (by kernel_rfl) (by kernel_rfl) (fun _ _ _ h => h) (Or.inl ⟨by rfl, ?_⟩) (by assumption) ?_
                  (rotate_left); (focus (intro wv hSw; (obtain ⟨qP, qX, qV, qU, qC, qB⟩ := hSw); obtain ⟨u0_, u1_, _, _, _⟩ := blk2 qX; go_simp; (try with_reducible rfl)))
                  try simp only [Act.put, List.getElem_toArray, List.getElem_cons_succ, List.getElem_cons_zero, List.setIfInBounds_toArray, List.set_cons_zero, List.set_cons_succ]
                  refine wpAnyH_take (i := 8) (oi := _) (v := ?_) rfl (by kernel_rfl) (by kernel_rfl) (by kernel_rfl) (fun _ _ _ h => h) (Or.inl ⟨by rfl, ?_⟩) (by assumption) ?_
                  (rotate_left); (focus (intro wv hSw; (obtain ⟨qP, qX, qV, qU, qC, qB⟩ := hSw); obtain ⟨u0_, u1_, _, _, _⟩ := blk2 qX; go_simp; (try with_reducible rfl)))
                  try simp only [Act.put, List.getElem_toArray, List.getElem_cons_succ, List.getElem_cons_zero, List.setIfInBounds_toArray, List.set_cons_zero, List.set_cons_succ]
                  refine wpAnyH_take (i := 9) (oi := _) (v := undef) rfl (by kernel_rfl) (by kernel_rfl) (by kernel_rfl) (fun _ _ _ h => h) (Or.inr ⟨by kernel_rfl, rfl⟩) (by assumption) ?_
                  try simp only [Act.put, List.getElem_toArray, List.getElem_cons_succ, List.getElem_cons_zero, List.setIfInBounds_toArray, List.set_cons_zero, List.set_cons_succ]
                  refine wpAnyH_take (i := 10) (oi := _) (v := undef) rfl (by kernel_rfl) (by kernel_rfl) (by kernel_rfl) (fun _ _ _ h => h) (Or.inr ⟨by kernel_rfl, rfl⟩) (by assumption) ?_
                  try simp only [Act.put, List.getElem_toArray, List.getElem_cons_succ, List.getElem_cons_zero, List.setIfInBounds_toArray, List.set_cons_zero, List.set_cons_succ]
                  refine wpAnyH_take (i := 11) (oi := _) (v := undef) rfl (by kernel_rfl) (by kernel_rfl) (by kernel_rfl) (fun _ _ _ h => h) (Or.inr ⟨by kernel_rfl, rfl⟩) (by assumption) ?_
                  try simp only [Act.put, List.getElem_toArray, List.getElem_cons_succ, List.getElem_cons_zero, List.setIfInBounds_toArray, List.set_cons_zero, List.set_cons_succ]
                  refine wpAnyH_take (i := 12) (oi := _) (v := undef) rfl (by kernel_rfl) (by kernel_rfl) (by kernel_rfl) (fun _ _ _ h => h) (Or.inr ⟨by kernel_rfl, rfl⟩) (by assumption) ?_
                  try simp only [Act.put, List.getElem_toArray, List.getElem_cons_succ, List.getElem_cons_zero, List.setIfInBounds_toArray, List.set_cons_zero, List.set_cons_succ]
                  refine wpAnyH_take (i := 13) (oi := _) (v := undef) rfl (by kernel_rfl) (by kernel_rfl) (by kernel_rfl) (fun _ _ _ h => h) (Or.inr ⟨by kernel_rfl, rfl⟩) (by assumption) ?_
                  try simp only [Act.put, List.getElem_toArray, List.getElem_cons_succ, List.getElem_cons_zero, List.setIfInBounds_toArray, List.set_cons_zero, List.set_cons_succ]
                  refine wpAnyH_take (i := 14) (oi := _) (v := undef) rfl (by kernel_rfl) (by kernel_rfl) (by kernel_rfl) (fun _ _ _ h => h) (Or.inr ⟨by kernel_rfl, rfl⟩) (by assumption) ?_
                  try simp only [Act.put, List.getElem_toArray, List.getElem_cons_succ, List.getElem_cons_zero, List.setIfInBounds_toArray, List.set_cons_zero, List.set_cons_succ]
                  refine wpAnyH_take (i := 15) (oi := _) (v := undef) rfl (by kernel_rfl) (by kernel_rfl) (by kernel_rfl) (fun _ _ _ h => h) (Or.inr ⟨by kernel_rfl, rfl⟩) (by assumption) ?_
                  try simp only [Act.put, List.getElem_toArray, List.getElem_cons_succ, List.getElem_cons_zero, List.setIfInBounds_toArray, List.set_cons_zero, List.set_cons_succ]
                  refine wpAnyH_take (i := 16) (oi := _) (v := undef) rfl (by kernel_rfl) (by kernel_rfl) (by kernel_rfl) (fun _ _ _ h => h) (Or.inr ⟨by kernel_rfl, rfl⟩) (by assumption) ?_
                  try simp only [Act.put, List.getElem_toArray, List.getElem_cons_succ, List.getElem_cons_zero, List.setIfInBounds_toArray, List.set_cons_zero, List.set_cons_succ]
                  refine wpAnyH_take (i := 17) (oi := _) (v := undef) rfl (by kernel_rfl) (by kernel_rfl) (by kernel_rfl) (fun _ _ _ h => h) (Or.inr ⟨by kernel_rfl, rfl⟩) (by assumption) ?_
                  try simp only [Act.put, List.getElem_toArray, List.getElem_cons_succ, List.getElem_cons_zero, List.setIfInBounds_toArray, List.set_cons_zero, List.set_cons_succ]
                  refine wpAnyH_take (i := 18) (oi := _) (v := ?_) rfl (by kernel_rfl) (by kernel_rfl) (by kernel_rfl) (fun _ _ _ h => h) (Or.inl ⟨by rfl, ?_⟩) (by assumption) ?_
                  (rotate_left); (focus (intro wv hSw; (obtain ⟨qP, qX, qV, qU, qC, qB⟩ := hSw); obtain ⟨u0_, u1_, _, _, _⟩ := blk2 qX; go_simp; (try with_reducible rfl)))
                  try simp only [Act.put, List.getElem_toArray, List.getElem_cons_succ, List.getElem_cons_zero, List.setIfInBounds_toArray, List.set_cons_zero, List.set_cons_succ]
                  refine wpAnyH_take (i := 19) (oi := _) (v := ?_) rfl (by kernel_rfl) (by kernel_rfl) (by kernel_rfl) (fun _ _ _ h => h) (Or.inl ⟨by rfl, ?_⟩) (by assumption) ?_
                  (rotate_left); (focus (intro wv hSw; (obtain ⟨qP, qX, qV, qU, qC, qB⟩ := hSw); obtain ⟨u0_, u1_, _, _, _⟩ := blk2 qX; go_simp; (try with_reducible rfl)))
                  try simp only [Act.put, List.getElem_toArray, List.getElem_cons_succ, List.getElem_cons_zero, List.setIfInBounds_toArray, List.set_cons_zero, List.set_cons_succ]
                  refine wpAnyH_take (i := 20) (oi := _) (v := ?_) rfl (by kernel_rfl) (by kernel_rfl) (by kernel_rfl) (fun _ _ _ h => h) (Or.inl ⟨by rfl, ?_⟩) (by assumption) ?_
                  (rotate_left); (focus (intro wv hSw; (obtain ⟨qP, qX, qV, qU, qC, qB⟩ := hSw); obtain ⟨u0_, u1_, _, _, _⟩ := blk2 qX; go_simp; (try with_reducible rfl)))
                  try simp only [Act.put, List.getElem_toArray, List.getElem_cons_succ, List.getElem_cons_zero, List.setIfInBounds_toArray, List.set_cons_zero, List.set_cons_succ]
                  refine wpAnyH_done (by kernel_rfl) ?_ _
                  go_wp2_with fail
                  go_roundw
                  case rel => exact ⟨j + 1, by go_num, by omega, by rw [HG2.out], hP_0, hX_0, hV_0, hU_0, hB_0⟩
                  case measure => simp [intOf]; omega
                · have hvb : (v == c) = false := by rw [beq_eq_false_iff_ne]; exact hvc
                  obtain ⟨dr, hdr⟩ : ∃ dr, daB d l2 v e f = dr := ⟨_, rfl⟩
                  have HDK : Hid (daB d l2 v e f = dr) := Lib.hid (hdr)
                  have hgn2 : gb2 = !dr := by rw [hgn, hvb, ← hdr]; unfold daB; rw [HOK2.out, ce_mk (xs := l2) (c := v) ⟨hvm.1, by rw [HSQ.out]; exact hvm.2⟩]; simp
                  subst hgn2
                  clear hgn hvc hdr
                  go_wp2_with fail
                  refine wp_region_held_drew (S := (fun w' => w'.heap[w.heap.size]? = some (.cells #[.int .i64 d, .slice A n cap] 25 (0, 0)) ∧ w'.heap[w6.heap.size]? = some (.cells #[.int .i64 d, .slice U n cu] 25 (0, 0)) ∧ SOwn encNum w' w.heap.size 3 (some ⟨b2, off2, none⟩) cv lit ∧ SOwn encNum w' w.heap.size 3 U cu l2 ∧ w'.cell? ⟨b2, off2 + j, none⟩ = some (.int .i64 v) ∧ Below w.heap.size w w')) (by kernel_rfl) ⟨hP, hX, hV.drew, hU.drew, cV, hB.drew⟩ (fun hHeld => ?_)
                  obtain ⟨hP_0, hX_0, hV_0, hU_0, hC_0, hB_0⟩ := id hHeld
                  refine wpAnyH_take (i := 0) (oi := _) (v := ?_) rfl (by kernel_rfl) (by kernel_rfl) (by kernel_rfl) (fun _ _ _ h => h) (Or.inl ⟨by rfl, ?_⟩) (by assumption) ?_
                  (rotate_left); (focus (intro wv hSw; (obtain ⟨qP, qX, qV, qU, qC, qB⟩ := hSw); obtain ⟨u0_, u1_, _, _, _⟩ := blk2 qX; go_simp; (try with_reducible rfl)))
                  try simp only [Act.put, List.getElem_toArray, List.getElem_cons_succ, List.getElem_cons_zero, List.setIfInBounds_toArray, List.set_cons_zero, List.set_cons_succ]
                  refine wpAnyH_take (i := 1) (oi := _) (v := ?_) rfl (by kernel_rfl) (by kernel_rfl) (by kernel_rfl) (fun _ _ _ h => h) (Or.inl ⟨by rfl, ?_⟩) (by assumption) ?_
                  (rotate_left); (focus (intro wv hSw; (obtain ⟨qP, qX, qV, qU, qC, qB⟩ := hSw); obtain ⟨u0_, u1_, _, _, _⟩ := blk2 qX; go_simp; (try with_reducible rfl)))
                  try simp only [Act.put, List.getElem_toArray, List.getElem_cons_succ, List.getElem_cons_zero, List.setIfInBounds_toArray, List.set_cons_zero, List.set_cons_succ]
                  refine wpAnyH_take (i := 2) (oi := _) (v := ?_) rfl (by kernel_rfl) (by kernel_rfl) (by kernel_rfl) (fun _ _ _ h => h) (Or.inl ⟨by rfl, ?_⟩) (by assumption) ?_
                  (rotate_left); (focus (intro wv hSw; (obtain ⟨qP, qX, qV, qU, qC, qB⟩ := hSw); obtain ⟨u0_, u1_, _, _, _⟩ := blk2 qX; go_simp; (try with_reducible rfl)))
                  try simp only [Act.put, List.getElem_toArray, List.getElem_cons_succ, List.getElem_cons_zero, List.setIfInBounds_toArray, List.set_cons_zero, List.set_cons_succ]
                  refine wpAnyH_take (i := 3) (oi := _) (v := ?_) rfl (by kernel_rfl) (by kernel_rfl) (by kernel_rfl) (fun _ _ _ h => h) (Or.inl ⟨by rfl, ?_⟩) (by assumption) ?_
                  (rotate_left); (focus (intro wv hSw; (obtain ⟨qP, qX, qV, qU, qC, qB⟩ := hSw); obtain ⟨u0_, u1_, _, _, _⟩ := blk2 qX; go_simp; (try with_reducible rfl)))
                  try simp only [Act.put, List.getElem_toArray, List.getElem_cons_succ, List.getElem_cons_zero, List.setIfInBounds_toArray, List.set_cons_zero, List.set_cons_succ]
                  refine wpAnyH_take (i := 4) (oi := _) (v := ?_) rfl (by kernel_rfl) (by kernel_rfl) (by kernel_rfl) (fun _ _ _ h => h) (Or.inl ⟨by rfl, ?_⟩) (by assumption) ?_
                  (rotate_left); (focus (intro wv hSw; (obtain ⟨qP, qX, qV, qU, qC, qB⟩ := hSw); obtain ⟨u0_, u1_, _, _, _⟩ := blk2 qX; go_simp; (try with_reducible rfl)))
                  try simp only [Act.put, List.getElem_toArray, List.getElem_cons_succ, List.getElem_cons_zero, List.setIfInBounds_toArray, List.set_cons_zero, List.set_cons_succ]
                  refine wpAnyH_take (i := 5) (oi := _) (v := ?_) rfl (by kernel_rfl) (by kernel_rfl) (by kernel_rfl) (fun _ _ _ h => h) (Or.inl ⟨by rfl, ?_⟩) (by assumption) ?_
                  (rotate_left); (focus (intro wv hSw; (obtain ⟨qP, qX, qV, qU, qC, qB⟩ := hSw); obtain ⟨u0_, u1_, _, _, _⟩ := blk2 qX; go_simp; (try with_reducible rfl)))
                  try simp only [Act.put, List.getElem_toArray, List.getElem_cons_succ, List.getElem_cons_zero, List.setIfInBounds_toArray, List.set_cons_zero, List.set_cons_succ]
                  refine wpAnyH_take (i := 6) (oi := _) (v := ?_) rfl (by kernel_rfl) (by kernel_rfl) (by kernel_rfl) (fun _ _ _ h => h) (Or.inl ⟨by rfl, ?_⟩) (by assumption) ?_
                  (rotate_left); (focus (intro wv hSw; (obtain ⟨qP, qX, qV, qU, qC, qB⟩ := hSw); obtain ⟨u0_, u1_, _, _, _⟩ := blk2 qX; go_simp; (try with_reducible rfl)))
                  try simp only [Act.put, List.getElem_toArray, List.getElem_cons_succ, List.getElem_cons_zero, List.setIfInBounds_toArray, List.set_cons_zero, List.set_cons_succ]
                  refine wpAnyH_take (i := 7) (oi := _) (v := ?_) rfl (by kernel_rfl) (by kernel_rfl) (by kernel_rfl) (fun _ _ _ h => h) (Or.inl ⟨by rfl, ?_⟩) (by assumption) ?_
                  (rotate_left); (focus (intro wv hSw; (obtain ⟨qP, qX, qV, qU, qC, qB⟩ := hSw); obtain ⟨u0_, u1_, _, _, _⟩ := blk2 qX; go_simp; (try with_reducible rfl)))
                  try simp only [Act.put, List.getElem_toArray, List.getElem_cons_succ, List.getElem_cons_zero, List.setIfInBounds_toArray, List.set_cons_zero, List.set_cons_succ]
                  refine wpAnyH_take (i := 8) (oi := _) (v := ?_) rfl (by kernel_rfl) (by kernel_rfl) (by kernel_rfl) (fun _ _ _ h => h) (Or.inl ⟨by rfl, ?_⟩) (by assumption) ?_
                  (rotate_left); (focus (intro wv hSw; (obtain ⟨qP, qX, qV, qU, qC, qB⟩ := hSw); obtain ⟨u0_, u1_, _, _, _⟩ := blk2 qX; go_simp; (try with_reducible rfl)))
                  try simp only [Act.put, List.getElem_toArray, List.getElem_cons_succ, List.getElem_cons_zero, List.setIfInBounds_toArray, List.set_cons_zero, List.set_cons_succ]
                  refine wpAnyH_take (i := 9) (oi := _) (v := ?_) rfl (by kernel_rfl) (by kernel_rfl) (by kernel_rfl) (fun _ _ _ h => h) (Or.inl ⟨by rfl, ?_⟩) (by assumption) ?_
                  (rotate_left); (focus (intro wv hSw; (obtain ⟨qP, qX, qV, qU, qC, qB⟩ := hSw); obtain ⟨u0_, u1_, _, _, _⟩ := blk2 qX; go_simp; (try with_reducible rfl)))
                  try simp only [Act.put, List.getElem_toArray, List.getElem_cons_succ, List.getElem_cons_zero, List.setIfInBounds_toArray, List.set_cons_zero, List.set_cons_succ]
                  refine wpAnyH_take (i := 10) (oi := _) (v := ?_) rfl (by kernel_rfl) (by kernel_rfl) (by kernel_rfl) (fun _ _ _ h => h) (Or.inl ⟨by rfl, ?_⟩) (by assumption) ?_
                  (rotate_left); (focus (intro wv hSw; (obtain ⟨qP, qX, qV, qU, qC, qB⟩ := hSw); obtain ⟨u0_, u1_, _, _, _⟩ := blk2 qX; go_simp; (try with_reducible rfl)))
                  try simp only [Act.put, List.getElem_toArray, List.getElem_cons_succ, List.getElem_cons_zero, List.setIfInBounds_toArray, List.set_cons_zero, List.set_cons_succ]
                  refine wpAnyH_take (i := 11) (oi := _) (v := ?_) rfl (by kernel_rfl) (by kernel_rfl) (by kernel_rfl) (fun _ _ _ h => h) (Or.inl ⟨by rfl, ?_⟩) (by assumption) ?_
                  (rotate_left); (focus (intro wv hSw; (obtain ⟨qP, qX, qV, qU, qC, qB⟩ := hSw); obtain ⟨u0_, u1_, _, _, _⟩ := blk2 qX; go_simp; (try with_reducible rfl)))
                  try simp only [Act.put, List.getElem_toArray, List.getElem_cons_succ, List.getElem_cons_zero, List.setIfInBounds_toArray, List.set_cons_zero, List.set_cons_succ]
                  refine wpAnyH_take (i := 12) (oi := _) (v := ?_) rfl (by kernel_rfl) (by kernel_rfl) (by kernel_rfl) (fun _ _ _ h => h) (Or.inl ⟨by rfl, ?_⟩) (by assumption) ?_
                  (rotate_left); (focus (intro wv hSw; (obtain ⟨qP, qX, qV, qU, qC, qB⟩ := hSw); obtain ⟨u0_, u1_, _, _, _⟩ := blk2 qX; go_simp; (try with_reducible rfl)))
                  try simp only [Act.put, List.getElem_toArray, List.getElem_cons_succ, List.getElem_cons_zero, List.setIfInBounds_toArray, List.set_cons_zero, List.set_cons_succ]
                  refine wpAnyH_take (i := 13) (oi := _) (v := ?_) rfl (by kernel_rfl) (by kernel_rfl) (by kernel_rfl) (fun _ _ _ h => h) (Or.inl ⟨by rfl, ?_⟩) (by assumption) ?_
                  (rotate_left); (focus (intro wv hSw; (obtain ⟨qP, qX, qV, qU, qC, qB⟩ := hSw); obtain ⟨u0_, u1_, _, _, _⟩ := blk2 qX; go_simp; (try with_reducible rfl)))
                  try simp only [Act.put, List.getElem_toArray, List.getElem_cons_succ, List.getElem_cons_zero, List.setIfInBounds_toArray, List.set_cons_zero, List.set_cons_succ]
                  refine wpAnyH_take (i := 14) (oi := _) (v := ?_) rfl (by kernel_rfl) (by kernel_rfl) (by kernel_rfl) (fun _ _ _ h => h) (Or.inl ⟨by rfl, ?_⟩) (by assumption) ?_
                  (rotate_left); (focus (intro wv hSw; (obtain ⟨qP, qX, qV, qU, qC, qB⟩ := hSw); obtain ⟨u0_, u1_, _, _, _⟩ := blk2 qX; go_simp; (try with_reducible rfl)))
                  try simp only [Act.put, List.getElem_toArray, List.getElem_cons_succ, List.getElem_cons_zero, List.setIfInBounds_toArray, List.set_cons_zero, List.set_cons_succ]
                  refine wpAnyH_take (i := 15) (oi := _) (v := ?_) rfl (by kernel_rfl) (by kernel_rfl) (by kernel_rfl) (fun _ _ _ h => h) (Or.inl ⟨by rfl, ?_⟩) (by assumption) ?_
                  (rotate_left); (focus (intro wv hSw; (obtain ⟨qP, qX, qV, qU, qC, qB⟩ := hSw); obtain ⟨u0_, u1_, _, _, _⟩ := blk2 qX; go_simp; (try with_reducible rfl)))
                  try simp only [Act.put, List.getElem_toArray, List.getElem_cons_succ, List.getElem_cons_zero, List.setIfInBounds_toArray, List.set_cons_zero, List.set_cons_succ]
                  refine wpAnyH_ready (rs := [16]) (by kernel_rfl) (by simp) ?_
                  refine AllReadyH.cons (o := _) rfl (fun K hK => ?_) AllReadyH.nil
                  go_simp
                  (go_at_call 21; refine (sDk_is d U cu l2 v e f _ HSQ.out hU_0.row hl HDK.out).mono ?_; rintro e x0c ⟨rfl, hw_0c⟩)
                  refine hK.out _ _ ⟨blk_next hP_0 hw_0c, blk_next hX_0 hw_0c, hV_0.next hw_0c, hU_0.next hw_0c, celS_next hC_0 hw_0c, bel_next hB_0 hw_0c⟩ (fun hHeld => ?_)
                  clear hK K
                  try simp only [Act.put, List.getElem_toArray, List.getElem_cons_succ, List.getElem_cons_zero, List.setIfInBounds_toArray, List.set_cons_zero, List.set_cons_succ]
                  obtain ⟨hP_0c, hX_0c, hV_0c, hU_0c, hC_0c, hB_0c⟩ := id hHeld
                  refine wpAnyH_take (i := 17) (oi := _) (v := ?_) rfl (by kernel_rfl) (by kernel_rfl) (by kernel_rfl) (fun _ _ _ h => h) (Or.inl ⟨by rfl, ?_⟩) (by assumption) ?_
                  (rotate_left); (focus (intro wv hSw; (obtain ⟨qP, qX, qV, qU, qC, qB⟩ := hSw); obtain ⟨u0_, u1_, _, _, _⟩ := blk2 qX; go_simp; (try with_reducible rfl)))
                  try simp only [Act.put, List.getElem_toArray, List.getElem_cons_succ, List.getElem_cons_zero, List.setIfInBounds_toArray, List.set_cons_zero, List.set_cons_succ]
                  refine wpAnyH_take (i := 18) (oi := _) (v := ?_) rfl (by kernel_rfl) (by kernel_rfl) (by kernel_rfl) (fun _ _ _ h => h) (Or.inl ⟨by rfl, ?_⟩) (by assumption) ?_
                  (rotate_left); (focus (intro wv hSw; (obtain ⟨qP, qX, qV, qU, qC, qB⟩ := hSw); obtain ⟨u0_, u1_, _, _, _⟩ := blk2 qX; go_simp; (try with_reducible rfl)))
                  try simp only [Act.put, List.getElem_toArray, List.getElem_cons_succ, List.getElem_cons_zero, List.setIfInBounds_toArray, List.set_cons_zero, List.set_cons_succ]
                  refine wpAnyH_take (i := 19) (oi := _) (v := ?_) rfl (by kernel_rfl) (by kernel_rfl) (by kernel_rfl) (fun _ _ _ h => h) (Or.inl ⟨by rfl, ?_⟩) (by assumption) ?_
                  (rotate_left); (focus (intro wv hSw; (obtain ⟨qP, qX, qV, qU, qC, qB⟩ := hSw); obtain ⟨u0_, u1_, _, _, _⟩ := blk2 qX; go_simp; (try with_reducible rfl)))
                  try simp only [Act.put, List.getElem_toArray, List.getElem_cons_succ, List.getElem_cons_zero, List.setIfInBounds_toArray, List.set_cons_zero, List.set_cons_succ]
                  refine wpAnyH_take (i := 20) (oi := _) (v := ?_) rfl (by kernel_rfl) (by kernel_rfl) (by kernel_rfl) (fun _ _ _ h => h) (Or.inl ⟨by rfl, ?_⟩) (by assumption) ?_
                  (rotate_left); (focus (intro wv hSw; (obtain ⟨qP, qX, qV, qU, qC, qB⟩ := hSw); obtain ⟨u0_, u1_, _, _, _⟩ := blk2 qX; go_simp; (try with_reducible rfl)))
                  try simp only [Act.put, List.getElem_toArray, List.getElem_cons_succ, List.getElem_cons_zero, List.setIfInBounds_toArray, List.set_cons_zero, List.set_cons_succ]
                  refine wpAnyH_done (by kernel_rfl) ?_ _
                  go_wp2_with fail
                  go_roundw
                  case rel => exact ⟨j + 1, by go_num, by omega, by rw [HG2.out], hP_0c, hX_0c, hV_0c, hU_0c, hB_0c⟩
                  case measure => simp [intOf]; omega
            · have hjq : j = q := by omega
              subst hjq
              have hji : ¬ (j : Int) < (j : Int) := by omega
              rw [List.take_of_length_le (Nat.le_of_eq HLQ.out), HGK.out]
              by_cases hkM : (k : Int) ≤ r
              · have HKB : Hid (kbI r (k + 1) = (k : Int)) := Lib.hid ((kb_next HM0.out).trans (if_pos hkM))
                go_wp2_with fail
                go_roundw
                case rel => exact ⟨k + 1, by go_num, by omega, by rw [HKB.out], hP, hV, hB⟩
                case measure => simp [intOf]; omega
              · have HKB : Hid (kbI r (k + 1) = kbI r k) := Lib.hid ((kb_next HM0.out).trans (if_neg hkM))
                go_wp2_with fail
                go_roundw
                case rel => exact ⟨k + 1, by go_num, by omega, by rw [HKB.out], hP, hV, hB⟩
                case measure => simp [intOf]; omega
        · have hki : ¬ (k : Int) ≤ 20 := by omega
          have hk21 : k = 21 := by omega
          subst hk21
          rw [kb_end HM20.out]
          go_wp2_with fail
          go_ret
          exact ⟨rfl, hB⟩
end Go.Proofs.Ytidppabconifkaa
