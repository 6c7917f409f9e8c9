/- The program's KeepLit. -/
import Derived.Test.YtidppabconifkaaYq
import Derived.Test.YtidppabconifkaaYp
import Derived.Lib.SliceRun
namespace Go.Proofs.Ytidppabconifkaa
open Go Go.ChangeShapes Go.WideShapes Go.ChangeAt Go.RowKit
set_option linter.unusedSimpArgs false
set_option linter.unusedVariables false

set_option maxRecDepth 100000 in
set_option maxHeartbeats 8000000 in
theorem iKl_is (d : Int) (A : Option Addr) (cap : Nat) (xs : List Int) (c e f : Int) {r : Int} {n : Nat} (w : World) (hn : xs.length = n) (h : SRow encNum w A xs) (hl : n ≤ 2000000) (hr : kpI d xs c e f = r) :
    Calls Try.prog 43 #[.agg #[.int .i64 d, .slice A n cap], .int .i64 c, .int .i64 e, .int .i64 f] w fun E w' => E = .returned (.int .i64 r) ∧ Below w.heap.size w w' := by
  have qe : ∀ (w : World) (a : Option Addr) (n c n' c' : Nat), (binOp .eql 23 (.slice a n c) (.slice none n' c')).run Try.prog w = .ok (.bool a.isNone) w := fun w a n c n' c' => Lib.run_eql_slice_nil w _ _ a n c n' c' Try.underlying23
  cases hok : okB d xs e f
  · have hr9 : r = -1 := by rw [← hr]; exact kp_no (by rw [hok]; rfl)
    subst hr9
    have HOK := Lib.hid hok
    have HN := Lib.hid hn
    clear hok hn hr
    go_enter Try.func43, Try.ntmps43
    go_wp2_with fail
    refine (iSh_any d A cap xs e f _ HN.out (h.next (bel1 w (.cells #[.int .i64 d, .slice A n cap] 25 (0, 0)))) hl).mono ?_; rintro E w1 ⟨Z, cz, rfl, hZ, hzz, hw1⟩
    obtain ⟨hP1, hB1⟩ := ownb hw1
    rw [HOK.out] at hzz
    obtain ⟨_, rfl, rfl⟩ : false = false ∧ Z = none ∧ cz = 0 := by rcases hzz with ⟨h9, _⟩ | h9; cases h9; exact h9
    rw [shL_no HOK.out]
    go_wp2
    go_ret
    exact ⟨rfl, hB1⟩
  · cases h2 : ceB xs c
    · have hr9 : r = -1 := by rw [← hr]; exact kp_no (by rw [hok, h2]; rfl)
      subst hr9
      have HSN : Hid ((shL d xs e f).length = n) := Lib.hid ((shL_len hok).trans hn)
      have HOK := Lib.hid hok
      have H2 := Lib.hid (ce_inV hn h2)
      have HN := Lib.hid hn
      clear hok h2 hn hr
      go_enter Try.func43, Try.ntmps43
      go_wp2_with fail
      refine (iSh_any d A cap xs e f _ HN.out (h.next (bel1 w (.cells #[.int .i64 d, .slice A n cap] 25 (0, 0)))) hl).mono ?_; rintro E w1 ⟨Z, cz, rfl, hZ, hzz, hw1⟩
      obtain ⟨hP1, hB1⟩ := ownb hw1
      rw [HOK.out] at hzz
      obtain ⟨g, rfl⟩ : ∃ g, Z = some ⟨g, 0, none⟩ := by rcases hzz with ⟨_, h9⟩ | ⟨h9, _⟩; exact h9; cases h9
      clear hzz
      rw [HSN.out]
      obtain ⟨p0_, p1_, pf0_, pf1_, pz_⟩ := blk2 hP1
      go_wp2_with fail
      refine (iCe_is _ hl H2.out).mono ?_; rintro E w2 ⟨rfl, hw2⟩
      go_wp2
      go_ret
      exact ⟨rfl, bel_next hB1 hw2⟩
    · obtain ⟨h1, he, hfr⟩ := okB_iff.1 hok
      obtain ⟨fe0, fe1⟩ := hfr
      obtain ⟨hAll, hdd⟩ := cv_cells h1 hn
      have hcI := ce_in h1 h2
      have hop := opI_in he.1 he.2
      obtain ⟨FF, hF⟩ : ∃ FF, faN d c (opI e) = FF := ⟨_, rfl⟩
      have hx0 := ln_next hcI hop.1 hop.2.1 (j := 0) (Nat.zero_le _)
      rw [ln_zero, hF] at hx0
      obtain ⟨x0, hx1⟩ : ∃ x0, nxI d c (opI e) = x0 := ⟨_, rfl⟩
      rw [hx1] at hx0
      have HX1 := Lib.hid hx0
      clear hx0
      have hx0 := hx1
      have hFF := fa_le hcI hop.1 hop.2.1
      rw [hF] at hFF
      have HRR : Hid (kpG d xs e f c FF = r) := Lib.hid (by rw [← hr, kp_yes hok h2, hF])
      have HSN : Hid ((shL d xs e f).length = n) := Lib.hid ((shL_len hok).trans hn)
      have HSA : Hid (∀ (i : Nat) (hi : i < (shL d xs e f).length), (shL d xs e f)[i] = shI d xs e f (i : Nat)) := Lib.hid (fun i hi => shL_at hok hi)
      have HOK := Lib.hid hok
      have H2 := Lib.hid (ce_inV hn h2)
      have HN := Lib.hid hn
      have H1 := Lib.hid h1
      have HDD := Lib.hid hdd
      have HC := Lib.hid hcI
      have HOP := Lib.hid hop
      have HE := Lib.hid he
      have HF := Lib.hid hF
      have HX0 := Lib.hid hx0
      clear hok h2 hn hr h1 hAll hdd hcI hop he hF hx0 hx1
      go_enter Try.func43, Try.ntmps43
      go_wp2_with fail
      refine (iSh_any d A cap xs e f _ HN.out (h.next (bel1 w (.cells #[.int .i64 d, .slice A n cap] 25 (0, 0)))) hl).mono ?_; rintro E w1 ⟨Z, cz, rfl, hZ, hzz, hw1⟩
      obtain ⟨hP1, hB1⟩ := ownb hw1
      rw [HOK.out] at hzz
      obtain ⟨g, rfl⟩ : ∃ g, Z = some ⟨g, 0, none⟩ := by rcases hzz with ⟨_, h9⟩ | ⟨h9, _⟩; exact h9; cases h9
      clear hzz
      rw [HSN.out]
      obtain ⟨p0_, p1_, pf0_, pf1_, pz_⟩ := blk2 hP1
      go_wp2_with fail
      refine (iCe_is _ hl H2.out).mono ?_; rintro E w2 ⟨rfl, hw2⟩
      have hP2 := blk_next hP1 hw2
      have hZ2 := hZ.next hw2
      have hB2 := bel_next hB1 hw2
      go_wp2_with fail
      refine (iOp_bel e _ HE.out.1 HE.out.2).mono ?_; rintro E w3 ⟨rfl, hw3⟩
      have hP3 := blk_next hP2 hw3
      have hZ3 := hZ2.next hw3
      have hB3 := bel_next hB2 hw3
      obtain ⟨q0_, q1_, qf0_, qf1_, qz_⟩ := blk2 hP3
      go_wp2_with fail
      refine (iBs_any d c (opI e) A n cap _ HC.out HOP.out.1 HOP.out.2.1).mono ?_; rintro E w4 ⟨rfl, hw4⟩
      rw [HX0.out]
      have hP4 := blk_next hP3 hw4
      have hZ4 := hZ3.next hw4
      have hB4 := bel_next hB3 hw4
      clear qe hZ hZ2 hZ3 hP1 hP2 hP3 hB1 hB2 hB3 p0_ p1_ pf0_ pf1_ pz_ q0_ q1_ qf0_ qf1_ qz_
      go_wp2_with fail
      go_loopw [10, 11, 13] (fun s q v wr => ∃ j : Nat, j ≤ FF ∧ s = .int .i64 (kpG d xs e f c j) ∧ q = .int .i64 (f * j) ∧ v = .int .i64 (if j < FF then lnI d c (opI e) (j + 1) else -1) ∧ wr.heap[w.heap.size]? = some (.cells #[.int .i64 d, .slice A n cap] 25 (0, 0)) ∧ SOwn encNum wr w.heap.size 3 (some ⟨g, 0, none⟩) cz (shL d xs e f) ∧ Below w.heap.size w wr) (fun _ _ v _ => if intOf v = -1 then 0 else 1 + faN d (intOf v) (opI e))
      case atStart => exact ⟨0, by omega, rfl, by simp, by rw [HX1.out], hP4, hZ4.mono (by simp), hB4⟩
      case round =>
        obtain ⟨j, hj, rfl, rfl, rfl, hP, hZ, hB⟩ := hrel
        clear hP4 hZ4 hB4
        by_cases hjF : j < FF
        · rw [if_pos hjF]
          have A1 := ln_in HC.out HOP.out.1 HOP.out.2.1 (j := j + 1) (by rw [HF.out]; omega)
          have A3 := ln_next HC.out HOP.out.1 HOP.out.2.1 (j := j + 1) (by rw [HF.out]; omega)
          rw [HF.out] at A1 A3
          have A2 : j + 1 < FF → InC d (lnI d c (opI e) (j + 1 + 1)) ∧ faN d (lnI d c (opI e) (j + 1 + 1)) (opI e) + (j + 1 + 1) = FF := fun h9 => by have := ln_in HC.out HOP.out.1 HOP.out.2.1 (j := j + 1 + 1) (by rw [HF.out]; omega); rw [HF.out] at this; exact ⟨this.1, this.2.1⟩
          have A4 : kpG d xs e f c (j + 1) = if dkB d xs e f (lnI d c (opI e) (j + 1)) = true then kpG d xs e f c j else min (kpG d xs e f c j) (tlI xs (lnI d c (opI e) (j + 1)) + f * ((j + 1 : Nat) : Int)) := rfl
          have A5 := kp_rng (e := e) (c := c) H1.out fe0 j
          have A6 : f * ((j + 1 : Nat) : Int) = f * (j : Int) + f := by rw [Int.natCast_add, Int.mul_add]; simp
          have A7 : 0 ≤ f * (j : Int) := Int.mul_nonneg fe0 (by omega)
          have A8 : f * (j : Int) ≤ 5 * 5 := Int.mul_le_mul fe1 (by omega) (by omega) (by omega)
          rw [A6] at A4
          have hin := in_lt HDD.out A1.1
          obtain ⟨hz1, hz2, hz3, hz4⟩ := id A1.1
          have HIN := Lib.hid A1.1
          have A9 := A1.2.1
          clear A1
          revert A2 A3 A4 A5 A6 A7 A8 A9 hin hz1 hz2 hz3 hz4 HIN
          generalize lnI d c (opI e) (j + 1) = z
          generalize hz9 : lnI d c (opI e) (j + 1 + 1) = z2
          generalize hq9 : kpG d xs e f c (j + 1) = q2
          generalize kpG d xs e f c j = q
          generalize f * (j : Int) = fj
          intro A3 A2 A4 A5 A6 A7 A8 hin hz1 hz2 hz3 hz4 HIN A9
          have HZ9 := Lib.hid hz9
          have HQ9 := Lib.hid hq9
          clear hz9 hq9
          obtain ⟨i, rfl⟩ : ∃ i : Nat, z = (i : Int) := ⟨z.toNat, by omega⟩
          have hi : i < xs.length := by rw [HN.out]; omega
          have hii : (i : Int) < (n : Int) := by omega
          have hiS : i < (shL d xs e f).length := by rw [HSN.out]; omega
          have hsv := HSA.out i hiS
          unfold dkB at A4
          rw [tlI_at hi, ← hsv] at A4
          obtain ⟨b, off, eA, hb, c0⟩ := rowNum (h.next hB) hi
          subst eA
          have d0 := ownNum hZ hiS
          obtain ⟨t0, t1⟩ : 0 ≤ xs[i] ∧ xs[i] ≤ 20 := (cvB_iff.1 H1.out).2.2 _ (List.getElem_mem hi)
          obtain ⟨q0, q1⟩ := A5
          clear hsv
          generalize xs[i] = t at A4 c0 t0 t1
          generalize (shL d xs e f)[i] = v at A4 d0
          have HA2 := Lib.hid A2
          have HA3 := Lib.hid A3
          have HA6 := Lib.hid A6
          have HA9 := Lib.hid A9
          have hni : ((i : Int) != -1) = true := by rw [bne_iff_ne]; omega
          have hni2 : ¬ (i : Int) = -1 := by omega
          by_cases htv : t < v
          · have hvt : ¬ v ≤ t := by omega
            have HA4 : Hid (q2 = q) := Lib.hid (by rw [A4]; simp [htv])
            clear A4 A2 A3 A6 A9
            go_wp2_with fail
            refine wp_region_held_drew (S := (fun w' => w'.heap[w.heap.size]? = some (.cells #[.int .i64 d, .slice (some ⟨b, off, none⟩) n cap] 25 (0, 0)) ∧ SOwn encNum w' w.heap.size 3 (some ⟨g, 0, none⟩) cz (shL d xs e f) ∧ w'.cell? ⟨b, off + i, none⟩ = some (.int .i64 t) ∧ w'.cell? ⟨g, i, none⟩ = some (.int .i64 v) ∧ Below w.heap.size w w')) (by kernel_rfl) ⟨hP, hZ.drew, c0, d0, hB.drew⟩ (fun hHeld => ?_)
            obtain ⟨hP_0, hZ_0, hC_0, hD_0, hB_0⟩ := id hHeld
            refine wpAnyH_take (i := 0) (oi := _) (v := ?_) rfl (by kernel_rfl) (by kernel_rfl) (by kernel_rfl) (fun _ _ _ h => h) (Or.inl ⟨by rfl, ?_⟩) (by assumption) ?_
            (rotate_left); (focus (intro wv hSw; (obtain ⟨qP, qZ, qC, qD, qB⟩ := hSw); obtain ⟨u0_, u1_, _, _, _⟩ := blk2 qP; go_simp; (try with_reducible rfl)))
            try simp only [Act.put, List.getElem_toArray, List.getElem_cons_succ, List.getElem_cons_zero, List.setIfInBounds_toArray, List.set_cons_zero, List.set_cons_succ]
            refine wpAnyH_take (i := 1) (oi := _) (v := ?_) rfl (by kernel_rfl) (by kernel_rfl) (by kernel_rfl) (fun _ _ _ h => h) (Or.inl ⟨by rfl, ?_⟩) (by assumption) ?_
            (rotate_left); (focus (intro wv hSw; (obtain ⟨qP, qZ, qC, qD, qB⟩ := hSw); obtain ⟨u0_, u1_, _, _, _⟩ := blk2 qP; go_simp; (try with_reducible rfl)))
            try simp only [Act.put, List.getElem_toArray, List.getElem_cons_succ, List.getElem_cons_zero, List.setIfInBounds_toArray, List.set_cons_zero, List.set_cons_succ]
            refine wpAnyH_take (i := 2) (oi := _) (v := ?_) rfl (by kernel_rfl) (by kernel_rfl) (by kernel_rfl) (fun _ _ _ h => h) (Or.inl ⟨by rfl, ?_⟩) (by assumption) ?_
            (rotate_left); (focus (intro wv hSw; (obtain ⟨qP, qZ, qC, qD, qB⟩ := hSw); obtain ⟨u0_, u1_, _, _, _⟩ := blk2 qP; go_simp; (try with_reducible rfl)))
            try simp only [Act.put, List.getElem_toArray, List.getElem_cons_succ, List.getElem_cons_zero, List.setIfInBounds_toArray, List.set_cons_zero, List.set_cons_succ]
            refine wpAnyH_take (i := 3) (oi := _) (v := ?_) rfl (by kernel_rfl) (by kernel_rfl) (by kernel_rfl) (fun _ _ _ h => h) (Or.inl ⟨by rfl, ?_⟩) (by assumption) ?_
            (rotate_left); (focus (intro wv hSw; (obtain ⟨qP, qZ, qC, qD, qB⟩ := hSw); obtain ⟨u0_, u1_, _, _, _⟩ := blk2 qP; go_simp; (try with_reducible rfl)))
            try simp only [Act.put, List.getElem_toArray, List.getElem_cons_succ, List.getElem_cons_zero, List.setIfInBounds_toArray, List.set_cons_zero, List.set_cons_succ]
            refine wpAnyH_take (i := 4) (oi := _) (v := ?_) rfl (by kernel_rfl) (by kernel_rfl) (by kernel_rfl) (fun _ _ _ h => h) (Or.inl ⟨by rfl, ?_⟩) (by assumption) ?_
            (rotate_left); (focus (intro wv hSw; (obtain ⟨qP, qZ, qC, qD, qB⟩ := hSw); obtain ⟨u0_, u1_, _, _, _⟩ := blk2 qP; go_simp; (try with_reducible rfl)))
            try simp only [Act.put, List.getElem_toArray, List.getElem_cons_succ, List.getElem_cons_zero, List.setIfInBounds_toArray, List.set_cons_zero, List.set_cons_succ]
            refine wpAnyH_take (i := 5) (oi := _) (v := ?_) rfl (by kernel_rfl) (by kernel_rfl) (by kernel_rfl) (fun _ _ _ h => h) (Or.inl ⟨by rfl, ?_⟩) (by assumption) ?_
            (rotate_left); (focus (intro wv hSw; (obtain ⟨qP, qZ, qC, qD, qB⟩ := hSw); obtain ⟨u0_, u1_, _, _, _⟩ := blk2 qP; go_simp; (try with_reducible rfl)))
            try simp only [Act.put, List.getElem_toArray, List.getElem_cons_succ, List.getElem_cons_zero, List.setIfInBounds_toArray, List.set_cons_zero, List.set_cons_succ]
            refine wpAnyH_take (i := 6) (oi := _) (v := ?_) rfl (by kernel_rfl) (by kernel_rfl) (by kernel_rfl) (fun _ _ _ h => h) (Or.inl ⟨by rfl, ?_⟩) (by assumption) ?_
            (rotate_left); (focus (intro wv hSw; (obtain ⟨qP, qZ, qC, qD, qB⟩ := hSw); obtain ⟨u0_, u1_, _, _, _⟩ := blk2 qP; go_simp; (try with_reducible rfl)))
            try simp only [Act.put, List.getElem_toArray, List.getElem_cons_succ, List.getElem_cons_zero, List.setIfInBounds_toArray, List.set_cons_zero, List.set_cons_succ]
            refine wpAnyH_take (i := 7) (oi := _) (v := ?_) rfl (by kernel_rfl) (by kernel_rfl) (by kernel_rfl) (fun _ _ _ h => h) (Or.inl ⟨by rfl, ?_⟩) (by assumption) ?_
            (rotate_left); (focus (intro wv hSw; (obtain ⟨qP, qZ, qC, qD, qB⟩ := hSw); obtain ⟨u0_, u1_, _, _, _⟩ := blk2 qP; go_simp; (try with_reducible rfl)))
            try simp only [Act.put, List.getElem_toArray, List.getElem_cons_succ, List.getElem_cons_zero, List.setIfInBounds_toArray, List.set_cons_zero, List.set_cons_succ]
            refine wpAnyH_take (i := 8) (oi := _) (v := ?_) rfl (by kernel_rfl) (by kernel_rfl) (by kernel_rfl) (fun _ _ _ h => h) (Or.inl ⟨by rfl, ?_⟩) (by assumption) ?_
            (rotate_left); (focus (intro wv hSw; (obtain ⟨qP, qZ, qC, qD, qB⟩ := hSw); obtain ⟨u0_, u1_, _, _, _⟩ := blk2 qP; go_simp; (try with_reducible rfl)))
            try simp only [Act.put, List.getElem_toArray, List.getElem_cons_succ, List.getElem_cons_zero, List.setIfInBounds_toArray, List.set_cons_zero, List.set_cons_succ]
            refine wpAnyH_take (i := 9) (oi := _) (v := ?_) rfl (by kernel_rfl) (by kernel_rfl) (by kernel_rfl) (fun _ _ _ h => h) (Or.inl ⟨by rfl, ?_⟩) (by assumption) ?_
            (rotate_left); (focus (intro wv hSw; (obtain ⟨qP, qZ, qC, qD, qB⟩ := hSw); obtain ⟨u0_, u1_, _, _, _⟩ := blk2 qP; go_simp; (try with_reducible rfl)))
            try simp only [Act.put, List.getElem_toArray, List.getElem_cons_succ, List.getElem_cons_zero, List.setIfInBounds_toArray, List.set_cons_zero, List.set_cons_succ]
            refine wpAnyH_done (by kernel_rfl) ?_ _
            obtain ⟨v0_, v1_, _, _, _⟩ := blk2 hP_0
            go_wp2_with fail
            refine (iBs_any d (i : Int) (opI e) _ n cap _ HIN.out HOP.out.1 HOP.out.2.1).mono ?_; rintro E w7 ⟨rfl, hw7⟩
            have hP7 := blk_next hP_0 hw7
            have hZ7 := hZ_0.next hw7
            have hB7 := bel_next hB_0 hw7
            go_wp2_with fail
            go_roundw
            case rel => exact ⟨j + 1, by omega, by rw [HQ9.out, HA4.out], by rw [HA6.out], by rw [HA3.out, HZ9.out], hP7, hZ7, hB7⟩
            case measure =>
              have m3 := HA9.out
              have e2 : ¬ (i : Int) = -1 := by omega
              rw [HA3.out]
              by_cases h9 : j + 1 < FF
              · have m4 := HA2.out h9
                have m5 := m4.1.2.2.1
                have e1 : ¬ z2 = -1 := by omega
                simp [intOf, e1, e2, h9]
                omega
              · simp [intOf, e2, h9] <;> omega
          · have hvt : v ≤ t := by omega
            by_cases a9 : t + (fj + f) < q
            · have HA4 : Hid (q2 = t + (fj + f)) := Lib.hid (by rw [A4]; simp [htv]; omega)
              clear A4 A2 A3 A6 A9
              go_wp2_with fail
              refine wp_region_held_drew (S := (fun w' => w'.heap[w.heap.size]? = some (.cells #[.int .i64 d, .slice (some ⟨b, off, none⟩) n cap] 25 (0, 0)) ∧ SOwn encNum w' w.heap.size 3 (some ⟨g, 0, none⟩) cz (shL d xs e f) ∧ w'.cell? ⟨b, off + i, none⟩ = some (.int .i64 t) ∧ w'.cell? ⟨g, i, none⟩ = some (.int .i64 v) ∧ Below w.heap.size w w')) (by kernel_rfl) ⟨hP, hZ.drew, c0, d0, hB.drew⟩ (fun hHeld => ?_)
              obtain ⟨hP_0, hZ_0, hC_0, hD_0, hB_0⟩ := id hHeld
              refine wpAnyH_take (i := 0) (oi := _) (v := ?_) rfl (by kernel_rfl) (by kernel_rfl) (by kernel_rfl) (fun _ _ _ h => h) (Or.inl ⟨by rfl, ?_⟩) (by assumption) ?_
              (rotate_left); (focus (intro wv hSw; (obtain ⟨qP, qZ, qC, qD, qB⟩ := hSw); obtain ⟨u0_, u1_, _, _, _⟩ := blk2 qP; go_simp; (try with_reducible rfl)))
              try simp only [Act.put, List.getElem_toArray, List.getElem_cons_succ, List.getElem_cons_zero, List.setIfInBounds_toArray, List.set_cons_zero, List.set_cons_succ]
              refine wpAnyH_take (i := 1) (oi := _) (v := ?_) rfl (by kernel_rfl) (by kernel_rfl) (by kernel_rfl) (fun _ _ _ h => h) (Or.inl ⟨by rfl, ?_⟩) (by assumption) ?_
              (rotate_left); (focus (intro wv hSw; (obtain ⟨qP, qZ, qC, qD, qB⟩ := hSw); obtain ⟨u0_, u1_, _, _, _⟩ := blk2 qP; go_simp; (try with_reducible rfl)))
              try simp only [Act.put, List.getElem_toArray, List.getElem_cons_succ, List.getElem_cons_zero, List.setIfInBounds_toArray, List.set_cons_zero, List.set_cons_succ]
              refine wpAnyH_take (i := 2) (oi := _) (v := ?_) rfl (by kernel_rfl) (by kernel_rfl) (by kernel_rfl) (fun _ _ _ h => h) (Or.inl ⟨by rfl, ?_⟩) (by assumption) ?_
              (rotate_left); (focus (intro wv hSw; (obtain ⟨qP, qZ, qC, qD, qB⟩ := hSw); obtain ⟨u0_, u1_, _, _, _⟩ := blk2 qP; go_simp; (try with_reducible rfl)))
              try simp only [Act.put, List.getElem_toArray, List.getElem_cons_succ, List.getElem_cons_zero, List.setIfInBounds_toArray, List.set_cons_zero, List.set_cons_succ]
              refine wpAnyH_take (i := 3) (oi := _) (v := ?_) rfl (by kernel_rfl) (by kernel_rfl) (by kernel_rfl) (fun _ _ _ h => h) (Or.inl ⟨by rfl, ?_⟩) (by assumption) ?_
              (rotate_left); (focus (intro wv hSw; (obtain ⟨qP, qZ, qC, qD, qB⟩ := hSw); obtain ⟨u0_, u1_, _, _, _⟩ := blk2 qP; go_simp; (try with_reducible rfl)))
              try simp only [Act.put, List.getElem_toArray, List.getElem_cons_succ, List.getElem_cons_zero, List.setIfInBounds_toArray, List.set_cons_zero, List.set_cons_succ]
              refine wpAnyH_take (i := 4) (oi := _) (v := ?_) rfl (by kernel_rfl) (by kernel_rfl) (by kernel_rfl) (fun _ _ _ h => h) (Or.inl ⟨by rfl, ?_⟩) (by assumption) ?_
              (rotate_left); (focus (intro wv hSw; (obtain ⟨qP, qZ, qC, qD, qB⟩ := hSw); obtain ⟨u0_, u1_, _, _, _⟩ := blk2 qP; go_simp; (try with_reducible rfl)))
              try simp only [Act.put, List.getElem_toArray, List.getElem_cons_succ, List.getElem_cons_zero, List.setIfInBounds_toArray, List.set_cons_zero, List.set_cons_succ]
              refine wpAnyH_take (i := 5) (oi := _) (v := ?_) rfl (by kernel_rfl) (by kernel_rfl) (by kernel_rfl) (fun _ _ _ h => h) (Or.inl ⟨by rfl, ?_⟩) (by assumption) ?_
              (rotate_left); (focus (intro wv hSw; (obtain ⟨qP, qZ, qC, qD, qB⟩ := hSw); obtain ⟨u0_, u1_, _, _, _⟩ := blk2 qP; go_simp; (try with_reducible rfl)))
              try simp only [Act.put, List.getElem_toArray, List.getElem_cons_succ, List.getElem_cons_zero, List.setIfInBounds_toArray, List.set_cons_zero, List.set_cons_succ]
              refine wpAnyH_take (i := 6) (oi := _) (v := ?_) rfl (by kernel_rfl) (by kernel_rfl) (by kernel_rfl) (fun _ _ _ h => h) (Or.inl ⟨by rfl, ?_⟩) (by assumption) ?_
              (rotate_left); (focus (intro wv hSw; (obtain ⟨qP, qZ, qC, qD, qB⟩ := hSw); obtain ⟨u0_, u1_, _, _, _⟩ := blk2 qP; go_simp; (try with_reducible rfl)))
              try simp only [Act.put, List.getElem_toArray, List.getElem_cons_succ, List.getElem_cons_zero, List.setIfInBounds_toArray, List.set_cons_zero, List.set_cons_succ]
              refine wpAnyH_take (i := 7) (oi := _) (v := ?_) rfl (by kernel_rfl) (by kernel_rfl) (by kernel_rfl) (fun _ _ _ h => h) (Or.inl ⟨by rfl, ?_⟩) (by assumption) ?_
              (rotate_left); (focus (intro wv hSw; (obtain ⟨qP, qZ, qC, qD, qB⟩ := hSw); obtain ⟨u0_, u1_, _, _, _⟩ := blk2 qP; go_simp; (try with_reducible rfl)))
              try simp only [Act.put, List.getElem_toArray, List.getElem_cons_succ, List.getElem_cons_zero, List.setIfInBounds_toArray, List.set_cons_zero, List.set_cons_succ]
              refine wpAnyH_take (i := 8) (oi := _) (v := ?_) rfl (by kernel_rfl) (by kernel_rfl) (by kernel_rfl) (fun _ _ _ h => h) (Or.inl ⟨by rfl, ?_⟩) (by assumption) ?_
              (rotate_left); (focus (intro wv hSw; (obtain ⟨qP, qZ, qC, qD, qB⟩ := hSw); obtain ⟨u0_, u1_, _, _, _⟩ := blk2 qP; go_simp; (try with_reducible rfl)))
              try simp only [Act.put, List.getElem_toArray, List.getElem_cons_succ, List.getElem_cons_zero, List.setIfInBounds_toArray, List.set_cons_zero, List.set_cons_succ]
              refine wpAnyH_take (i := 9) (oi := _) (v := ?_) rfl (by kernel_rfl) (by kernel_rfl) (by kernel_rfl) (fun _ _ _ h => h) (Or.inl ⟨by rfl, ?_⟩) (by assumption) ?_
              (rotate_left); (focus (intro wv hSw; (obtain ⟨qP, qZ, qC, qD, qB⟩ := hSw); obtain ⟨u0_, u1_, _, _, _⟩ := blk2 qP; go_simp; (try with_reducible rfl)))
              try simp only [Act.put, List.getElem_toArray, List.getElem_cons_succ, List.getElem_cons_zero, List.setIfInBounds_toArray, List.set_cons_zero, List.set_cons_succ]
              refine wpAnyH_done (by kernel_rfl) ?_ _
              obtain ⟨v0_, v1_, _, _, _⟩ := blk2 hP_0
              go_wp2_with fail
              refine (iBs_any d (i : Int) (opI e) _ n cap _ HIN.out HOP.out.1 HOP.out.2.1).mono ?_; rintro E w7 ⟨rfl, hw7⟩
              have hP7 := blk_next hP_0 hw7
              have hZ7 := hZ_0.next hw7
              have hB7 := bel_next hB_0 hw7
              go_wp2_with fail
              go_roundw
              case rel => exact ⟨j + 1, by omega, by rw [HQ9.out, HA4.out], by rw [HA6.out], by rw [HA3.out, HZ9.out], hP7, hZ7, hB7⟩
              case measure =>
                have m3 := HA9.out
                have e2 : ¬ (i : Int) = -1 := by omega
                rw [HA3.out]
                by_cases h9 : j + 1 < FF
                · have m4 := HA2.out h9
                  have m5 := m4.1.2.2.1
                  have e1 : ¬ z2 = -1 := by omega
                  simp [intOf, e1, e2, h9]
                  omega
                · simp [intOf, e2, h9] <;> omega
            · have HA4 : Hid (q2 = q) := Lib.hid (by rw [A4]; simp [htv]; omega)
              clear A4 A2 A3 A6 A9
              go_wp2_with fail
              refine wp_region_held_drew (S := (fun w' => w'.heap[w.heap.size]? = some (.cells #[.int .i64 d, .slice (some ⟨b, off, none⟩) n cap] 25 (0, 0)) ∧ SOwn encNum w' w.heap.size 3 (some ⟨g, 0, none⟩) cz (shL d xs e f) ∧ w'.cell? ⟨b, off + i, none⟩ = some (.int .i64 t) ∧ w'.cell? ⟨g, i, none⟩ = some (.int .i64 v) ∧ Below w.heap.size w w')) (by kernel_rfl) ⟨hP, hZ.drew, c0, d0, hB.drew⟩ (fun hHeld => ?_)
              obtain ⟨hP_0, hZ_0, hC_0, hD_0, hB_0⟩ := id hHeld
              refine wpAnyH_take (i := 0) (oi := _) (v := ?_) rfl (by kernel_rfl) (by kernel_rfl) (by kernel_rfl) (fun _ _ _ h => h) (Or.inl ⟨by rfl, ?_⟩) (by assumption) ?_
              (rotate_left); (focus (intro wv hSw; (obtain ⟨qP, qZ, qC, qD, qB⟩ := hSw); obtain ⟨u0_, u1_, _, _, _⟩ := blk2 qP; go_simp; (try with_reducible rfl)))
              try simp only [Act.put, List.getElem_toArray, List.getElem_cons_succ, List.getElem_cons_zero, List.setIfInBounds_toArray, List.set_cons_zero, List.set_cons_succ]
              refine wpAnyH_take (i := 1) (oi := _) (v := ?_) rfl (by kernel_rfl) (by kernel_rfl) (by kernel_rfl) (fun _ _ _ h => h) (Or.inl ⟨by rfl, ?_⟩) (by assumption) ?_
              (rotate_left); (focus (intro wv hSw; (obtain ⟨qP, qZ, qC, qD, qB⟩ := hSw); obtain ⟨u0_, u1_, _, _, _⟩ := blk2 qP; go_simp; (try with_reducible rfl)))
              try simp only [Act.put, List.getElem_toArray, List.getElem_cons_succ, List.getElem_cons_zero, List.setIfInBounds_toArray, List.set_cons_zero, List.set_cons_succ]
              refine wpAnyH_take (i := 2) (oi := _) (v := ?_) rfl (by kernel_rfl) (by kernel_rfl) (by kernel_rfl) (fun _ _ _ h => h) (Or.inl ⟨by rfl, ?_⟩) (by assumption) ?_
              (rotate_left); (focus (intro wv hSw; (obtain ⟨qP, qZ, qC, qD, qB⟩ := hSw); obtain ⟨u0_, u1_, _, _, _⟩ := blk2 qP; go_simp; (try with_reducible rfl)))
              try simp only [Act.put, List.getElem_toArray, List.getElem_cons_succ, List.getElem_cons_zero, List.setIfInBounds_toArray, List.set_cons_zero, List.set_cons_succ]
              refine wpAnyH_take (i := 3) (oi := _) (v := ?_) rfl (by kernel_rfl) (by kernel_rfl) (by kernel_rfl) (fun _ _ _ h => h) (Or.inl ⟨by rfl, ?_⟩) (by assumption) ?_
              (rotate_left); (focus (intro wv hSw; (obtain ⟨qP, qZ, qC, qD, qB⟩ := hSw); obtain ⟨u0_, u1_, _, _, _⟩ := blk2 qP; go_simp; (try with_reducible rfl)))
              try simp only [Act.put, List.getElem_toArray, List.getElem_cons_succ, List.getElem_cons_zero, List.setIfInBounds_toArray, List.set_cons_zero, List.set_cons_succ]
              refine wpAnyH_take (i := 4) (oi := _) (v := ?_) rfl (by kernel_rfl) (by kernel_rfl) (by kernel_rfl) (fun _ _ _ h => h) (Or.inl ⟨by rfl, ?_⟩) (by assumption) ?_
              (rotate_left); (focus (intro wv hSw; (obtain ⟨qP, qZ, qC, qD, qB⟩ := hSw); obtain ⟨u0_, u1_, _, _, _⟩ := blk2 qP; go_simp; (try with_reducible rfl)))
              try simp only [Act.put, List.getElem_toArray, List.getElem_cons_succ, List.getElem_cons_zero, List.setIfInBounds_toArray, List.set_cons_zero, List.set_cons_succ]
              refine wpAnyH_take (i := 5) (oi := _) (v := ?_) rfl (by kernel_rfl) (by kernel_rfl) (by kernel_rfl) (fun _ _ _ h => h) (Or.inl ⟨by rfl, ?_⟩) (by assumption) ?_
              (rotate_left); (focus (intro wv hSw; (obtain ⟨qP, qZ, qC, qD, qB⟩ := hSw); obtain ⟨u0_, u1_, _, _, _⟩ := blk2 qP; go_simp; (try with_reducible rfl)))
              try simp only [Act.put, List.getElem_toArray, List.getElem_cons_succ, List.getElem_cons_zero, List.setIfInBounds_toArray, List.set_cons_zero, List.set_cons_succ]
              refine wpAnyH_take (i := 6) (oi := _) (v := ?_) rfl (by kernel_rfl) (by kernel_rfl) (by kernel_rfl) (fun _ _ _ h => h) (Or.inl ⟨by rfl, ?_⟩) (by assumption) ?_
              (rotate_left); (focus (intro wv hSw; (obtain ⟨qP, qZ, qC, qD, qB⟩ := hSw); obtain ⟨u0_, u1_, _, _, _⟩ := blk2 qP; go_simp; (try with_reducible rfl)))
              try simp only [Act.put, List.getElem_toArray, List.getElem_cons_succ, List.getElem_cons_zero, List.setIfInBounds_toArray, List.set_cons_zero, List.set_cons_succ]
              refine wpAnyH_take (i := 7) (oi := _) (v := ?_) rfl (by kernel_rfl) (by kernel_rfl) (by kernel_rfl) (fun _ _ _ h => h) (Or.inl ⟨by rfl, ?_⟩) (by assumption) ?_
              (rotate_left); (focus (intro wv hSw; (obtain ⟨qP, qZ, qC, qD, qB⟩ := hSw); obtain ⟨u0_, u1_, _, _, _⟩ := blk2 qP; go_simp; (try with_reducible rfl)))
              try simp only [Act.put, List.getElem_toArray, List.getElem_cons_succ, List.getElem_cons_zero, List.setIfInBounds_toArray, List.set_cons_zero, List.set_cons_succ]
              refine wpAnyH_take (i := 8) (oi := _) (v := ?_) rfl (by kernel_rfl) (by kernel_rfl) (by kernel_rfl) (fun _ _ _ h => h) (Or.inl ⟨by rfl, ?_⟩) (by assumption) ?_
              (rotate_left); (focus (intro wv hSw; (obtain ⟨qP, qZ, qC, qD, qB⟩ := hSw); obtain ⟨u0_, u1_, _, _, _⟩ := blk2 qP; go_simp; (try with_reducible rfl)))
              try simp only [Act.put, List.getElem_toArray, List.getElem_cons_succ, List.getElem_cons_zero, List.setIfInBounds_toArray, List.set_cons_zero, List.set_cons_succ]
              refine wpAnyH_take (i := 9) (oi := _) (v := ?_) rfl (by kernel_rfl) (by kernel_rfl) (by kernel_rfl) (fun _ _ _ h => h) (Or.inl ⟨by rfl, ?_⟩) (by assumption) ?_
              (rotate_left); (focus (intro wv hSw; (obtain ⟨qP, qZ, qC, qD, qB⟩ := hSw); obtain ⟨u0_, u1_, _, _, _⟩ := blk2 qP; go_simp; (try with_reducible rfl)))
              try simp only [Act.put, List.getElem_toArray, List.getElem_cons_succ, List.getElem_cons_zero, List.setIfInBounds_toArray, List.set_cons_zero, List.set_cons_succ]
              refine wpAnyH_done (by kernel_rfl) ?_ _
              obtain ⟨v0_, v1_, _, _, _⟩ := blk2 hP_0
              go_wp2_with fail
              refine (iBs_any d (i : Int) (opI e) _ n cap _ HIN.out HOP.out.1 HOP.out.2.1).mono ?_; rintro E w7 ⟨rfl, hw7⟩
              have hP7 := blk_next hP_0 hw7
              have hZ7 := hZ_0.next hw7
              have hB7 := bel_next hB_0 hw7
              go_wp2_with fail
              go_roundw
              case rel => exact ⟨j + 1, by omega, by rw [HQ9.out, HA4.out], by rw [HA6.out], by rw [HA3.out, HZ9.out], hP7, hZ7, hB7⟩
              case measure =>
                have m3 := HA9.out
                have e2 : ¬ (i : Int) = -1 := by omega
                rw [HA3.out]
                by_cases h9 : j + 1 < FF
                · have m4 := HA2.out h9
                  have m5 := m4.1.2.2.1
                  have e1 : ¬ z2 = -1 := by omega
                  simp [intOf, e1, e2, h9]
                  omega
                · simp [intOf, e2, h9] <;> omega
        · rw [if_neg hjF]
          have hjj : j = FF := by omega
          subst hjj
          rw [HRR.out]
          go_wp2_with fail
          go_ret
          exact ⟨rfl, hB⟩
end Go.Proofs.Ytidppabconifkaa
