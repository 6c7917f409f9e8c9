/- FnRaysLit: whatever the input, the law returns true, and its arguments read as they did. No conditions beyond those of the statement's row. -/
import Derived.Test.YtiicohbghpknhaaDr9
import Derived.Test.YtiicohbghpknhaaLp
import Derived.Test.YtiicohbghpknhaaKf
namespace Go.Proofs.Ytiicohbghpknhaa.fnRaysLit
open Go.Proofs.Ytiicohbghpknhaa
open Go.ChangeShapes Go.WideShapes Go.ChangeAt Go.RowKit Go.Joins
set_option linter.unusedVariables false
set_option linter.unusedSimpArgs false
set_option linter.unnecessarySimpa false

theorem own : ownKnob Try.prog.godebug = none := by kernel_rfl
theorem laidOut : laidOutB Try.prog = true := by kernel_rfl

set_option maxRecDepth 100000 in
set_option maxHeartbeats 4000000 in
theorem walk (w : World) (a0 : Option Addr) (len0 cap0 : Nat) (w0 : CodeOk w a0 len0 cap0) :
    Calls Try.prog 5 #[.slice a0 len0 cap0] w fun e w' => e = .returned (.bool true) ∧ Below w.heap.size w w' := by
  by_cases hl : 1048576 < len0
  · have w0' := w0.2.1
    unfold maxLen at w0'
    clear w0
    go_enter Try.func5, Try.ntmps5
    go_wp2
    go_ret
    exact ⟨rfl, Below.refl _ _⟩
  · have w0' := w0.2.1
    unfold maxLen at w0'
    have hle := w0.1
    have HW := Lib.hid w0
    clear w0
    go_enter Try.func5, Try.ntmps5
    obtain ⟨i0, hi0, hz0, hz1, hz2⟩ := info_parts infoBlock
    have HI := Lib.hid (And.intro hi0 (And.intro hz0 (And.intro hz1 hz2)))
    clear hi0 hz0 hz1 hz2
    go_wp2_with fail
    refine (drRaysLit_any _ _ _ _ HW.out).mono ?_; rintro e w1 ⟨p0, p1, xs, A, cp, rs, gU, cu, rfl, h6, h8, hO0, hU0, hB1⟩
    obtain ⟨m, hm⟩ : ∃ m, xs.length = m := ⟨_, rfl⟩
    obtain ⟨q, hq⟩ : ∃ q, rs.length = q := ⟨_, rfl⟩
    rw [hm] at h6 ⊢
    rw [hq] at h8 ⊢
    have HM := Lib.hid hm
    have HQ := Lib.hid hq
    clear hm hq
    obtain ⟨r, hr⟩ : ∃ r, rlV p0 p1 xs rs = r := ⟨_, rfl⟩
    have hneg := rl_neg hr
    have HR := Lib.hid hr
    clear hr
    have hP1 := blk_new w1 (.cells #[.int .i64 p0, .int .i64 p1] 41)
    have hO1 := hO0.alloc (.cells #[.int .i64 p0, .int .i64 p1] 41)
    have hU1 := hU0.alloc (.cells #[.int .i64 p0, .int .i64 p1] 41)
    have hB2_ := hB1.alloc hB1.size (.cells #[.int .i64 p0, .int .i64 p1] 41)
    obtain ⟨hcu, _⟩ := hU0.cap
    rw [HQ.out] at hcu
    obtain ⟨c0, c1, f0, f1, hpz⟩ := blk2 hP1
    clear hO0 hU0
    go_wp2_with fail
    refine (iRl_is A (some ⟨gU, 0, none⟩) cp cu xs rs p0 p1 _ HM.out hO1.row (by omega) HQ.out hU1.row (by omega) HR.out).mono ?_; rintro e w2 ⟨rfl, hw2⟩
    have hP2 := blk_next hP1 hw2
    have hO2 := hO1.next hw2
    have hU2 := hU1.next hw2
    have hB2 := bel_next hB2_ hw2
    obtain ⟨d0, d1, _, _, _⟩ := blk2 hP2
    go_wp2_with fail
    refine (sRl_is A (some ⟨gU, 0, none⟩) cp cu xs rs p0 p1 _ HM.out hO2.row (by omega) HQ.out hU2.row (by omega) HR.out).mono ?_; rintro e w3 ⟨rfl, hw3⟩
    have hP3 := blk_next hP2 hw3
    have hO3 := hO2.next hw3
    have hU3 := hU2.next hw3
    have hB3 := bel_next hB2 hw3
    clear hP1 hP2 hO1 hO2 hU1 hU2 hB2 hB2_ hw2 hw3 c0 c1 f0 f1 d0 d1
    have hz1 := hB1.size
    rcases hneg with rfl | hr0
    · go_wp2_with fail
      refine (alive_any _).mono ?_; rintro e w' ⟨rfl, rfl⟩
      go_wp2
      go_ret
      exact ⟨rfl, hB3⟩
    · obtain ⟨hf, hhf⟩ : ∃ h : Nat, q / 2 = h := ⟨_, rfl⟩
      have e1 : (q : Int) / 2 = (hf : Int) := by omega
      have e2 : (q : Int).tdiv 2 = (hf : Int) := by rw [Int.tdiv_eq_ediv_of_nonneg (by omega)]; exact e1
      have hal := rl_half HR.out hr0 hf
      rw [HQ.out] at hal
      obtain ⟨a1, hA1⟩ : ∃ x, rlV p0 p1 xs (rs.take hf) = x := ⟨_, rfl⟩
      obtain ⟨a2, hA2⟩ : ∃ x, rlV p0 p1 xs (rs.drop hf) = x := ⟨_, rfl⟩
      rw [hA1, hA2] at hal
      obtain ⟨l1, l2, l3, l4⟩ := hal
      have HA1 := Lib.hid hA1
      have HA2 := Lib.hid hA2
      have HSUM := Lib.hid l3
      have hsw : IntKind.i64.wrap (a1 + a2) = a1 + a2 := IntWalk.i64_in _ (by omega)
      have HSW := Lib.hid hsw
      have HHF := Lib.hid hhf
      have hfq : hf ≤ q := by omega
      have HCUT : Hid (∀ k, r ≤ rlV p0 p1 (xs.take k ++ xs.drop (k + 1)) rs) := Lib.hid (fun k => rl_cut HR.out hr0 k)
      clear hA1 hA2 l3 hsw hhf
      go_wp2_with fail
      go_loopw [8] (fun vk wr => ∃ k : Nat, vk = .int .i64 k ∧ k ≤ m ∧ wr.heap[w1.heap.size]? = some (.cells #[.int .i64 p0, .int .i64 p1] 41 (0, 0)) ∧ SOwn encBlock wr w.heap.size 91 A cp xs ∧ SOwn encRay wr w.heap.size 71 (some ⟨gU, 0, none⟩) cu rs ∧ Below w.heap.size w wr) (fun vk _ => (m - intOf vk).toNat)
      case atStart => exact ⟨0, rfl, by omega, hP3, hO3, hU3, hB3⟩
      case round =>
        clear hP3 hO3 hU3 hB3 e1 e2
        obtain ⟨k, rfl, k1, hP, hO, hU, hB⟩ := hrel
        by_cases hlt : k < m
        · have hk : k < xs.length := by rw [HM.out]; exact hlt
          have hki : (k : Int) < (m : Int) := by omega
          obtain ⟨g, rfl, hgb, hgl⟩ := hO.at_ hk
          obtain ⟨hcp, _⟩ := hO.cap
          rw [HM.out] at hcp
          have hkc : (k : Int) ≤ (cp : Int) := by omega
          have hk1c : (k : Int) + 1 ≤ (m : Int) := by omega
          have hk0 : (0 : Int) ≤ (k : Int) := by omega
          have hk10 : (0 : Int) ≤ (k : Int) + 1 := by omega
          have hkw : IntKind.i64.wrap ((k : Int) + 1) = (k : Int) + 1 := IntWalk.i64_in _ (by omega)
          have hkn : ((k : Int) + 1).toNat = k + 1 := by omega
          have hk2 : k ≤ cp := by omega
          have hk3 : k + 1 ≤ m := by omega
          have hk4 : k ≤ m := by omega
          have HTL : Hid ((xs.take k).length = k) := Lib.hid (by rw [List.length_take]; omega)
          have HDL : Hid ((xs.drop (k + 1)).length = m - (k + 1)) := Lib.hid (by rw [List.length_drop, HM.out])
          have HAL : Hid ((xs.take k ++ xs.drop (k + 1)).length = k + (m - (k + 1))) := Lib.hid (by rw [List.length_append, HTL.out, HDL.out])
          obtain ⟨v, hv⟩ : ∃ v, rlV p0 p1 (xs.take k ++ xs.drop (k + 1)) rs = v := ⟨_, rfl⟩
          have hvr := HCUT.out k
          rw [hv] at hvr
          have HV := Lib.hid hv
          clear hv
          have hnlt : ¬ v < r := by omega
          have hdn : decide (v < r) = false := decide_eq_false hnlt
          have hgU : gU < wr.heap.size := by rcases hU.form with ⟨e, _⟩ | ⟨g1, e, _, h9⟩; cases e; cases e; exact h9
          have hPl := blk_lt hP
          by_cases hc : cp = k + 1
          · obtain rfl : m = k + 1 := by omega
            have HDN : Hid (xs.drop (k + 1) = []) := Lib.hid (List.length_eq_zero_iff.1 (by have := HDL.out; omega))
            clear HAL
            have HAL : Hid ((xs.take k ++ xs.drop (k + 1)).length = k) := Lib.hid (by rw [List.length_append, HTL.out, HDN.out]; rfl)
            subst hc
            have hcc : (k : Int) ≤ (k : Int) + 1 := by omega
            have hcc2 : (k : Int) + 1 ≤ (k : Int) + 1 := by omega
            go_wp2_with fail
            have hP_0 := hP
            have hO_0 := hO.drew
            have hU_0 := hU.drew
            have hB_0 := hB.drew
            refine wp_region_held_drew (S := (fun w' => w'.heap[w1.heap.size]? = some (.cells #[.int .i64 p0, .int .i64 p1] 41 (0, 0)))) (by kernel_rfl) hP (fun hHeld => ?_)
            clear hHeld
            have hSS : (fun w' => w'.heap[w1.heap.size]? = some (.cells #[.int .i64 p0, .int .i64 p1] 41 (0, 0))) wr.drew := hP
            refine wpAnyH_take (i := 0) (oi := _) (v := ?_) rfl (by kernel_rfl) (by kernel_rfl) (by kernel_rfl) (fun _ _ _ h => h) (Or.inl ⟨by rfl, ?_⟩) (by assumption) ?_
            (rotate_left); (focus (intro wv hSw; (have hSw2 : wv.heap[w1.heap.size]? = some (.cells #[.int .i64 p0, .int .i64 p1] 41 (0, 0)) := hSw); (obtain ⟨u0, u1, _, _, _⟩ := blk2 hSw2); go_simp; (try with_reducible rfl)))
            try simp only [Act.put, List.getElem_toArray, List.getElem_cons_succ, List.getElem_cons_zero, List.setIfInBounds_toArray, List.set_cons_zero, List.set_cons_succ]
            refine wpAnyH_take (i := 2) (oi := _) (v := ?_) rfl (by kernel_rfl) (by kernel_rfl) (by kernel_rfl) (fun _ _ _ h => h) (Or.inl ⟨by rfl, ?_⟩) (by assumption) ?_
            (rotate_left); (focus (intro wv hSw; (have hSw2 : wv.heap[w1.heap.size]? = some (.cells #[.int .i64 p0, .int .i64 p1] 41 (0, 0)) := hSw); (obtain ⟨u0, u1, _, _, _⟩ := blk2 hSw2); go_simp; (try with_reducible rfl)))
            try simp only [Act.put, List.getElem_toArray, List.getElem_cons_succ, List.getElem_cons_zero, List.setIfInBounds_toArray, List.set_cons_zero, List.set_cons_succ]
            refine wpAnyH_take (i := 3) (oi := _) (v := ?_) rfl (by kernel_rfl) (by kernel_rfl) (by kernel_rfl) (fun _ _ _ h => h) (Or.inl ⟨by rfl, ?_⟩) (by assumption) ?_
            (rotate_left); (focus (intro wv hSw; (have hSw2 : wv.heap[w1.heap.size]? = some (.cells #[.int .i64 p0, .int .i64 p1] 41 (0, 0)) := hSw); (obtain ⟨u0, u1, _, _, _⟩ := blk2 hSw2); go_simp; (try with_reducible rfl)))
            try simp only [Act.put, List.getElem_toArray, List.getElem_cons_succ, List.getElem_cons_zero, List.setIfInBounds_toArray, List.set_cons_zero, List.set_cons_succ]
            refine wpAnyH_take (i := 4) (oi := _) (v := ?_) rfl (by kernel_rfl) (by kernel_rfl) (by kernel_rfl) (fun _ _ _ h => h) (Or.inl ⟨by rfl, ?_⟩) (by assumption) ?_
            (rotate_left); (focus (intro wv hSw; (have hSw2 : wv.heap[w1.heap.size]? = some (.cells #[.int .i64 p0, .int .i64 p1] 41 (0, 0)) := hSw); (obtain ⟨u0, u1, _, _, _⟩ := blk2 hSw2); go_simp; (try with_reducible rfl)))
            try simp only [Act.put, List.getElem_toArray, List.getElem_cons_succ, List.getElem_cons_zero, List.setIfInBounds_toArray, List.set_cons_zero, List.set_cons_succ]
            refine wpAnyH_take (i := 6) (oi := _) (v := ?_) rfl (by kernel_rfl) (by kernel_rfl) (by kernel_rfl) (fun _ _ _ h => h) (Or.inl ⟨by rfl, ?_⟩) (by assumption) ?_
            (rotate_left); (focus (intro wv hSw; (have hSw2 : wv.heap[w1.heap.size]? = some (.cells #[.int .i64 p0, .int .i64 p1] 41 (0, 0)) := hSw); (obtain ⟨u0, u1, _, _, _⟩ := blk2 hSw2); go_simp; (try with_reducible rfl)))
            try simp only [Act.put, List.getElem_toArray, List.getElem_cons_succ, List.getElem_cons_zero, List.setIfInBounds_toArray, List.set_cons_zero, List.set_cons_succ]
            refine wpAnyH_take (i := 7) (oi := _) (v := ?_) rfl (by kernel_rfl) (by kernel_rfl) (by kernel_rfl) (fun _ _ _ h => h) (Or.inl ⟨by rfl, ?_⟩) (by assumption) ?_
            (rotate_left); (focus (intro wv hSw; (have hSw2 : wv.heap[w1.heap.size]? = some (.cells #[.int .i64 p0, .int .i64 p1] 41 (0, 0)) := hSw); (obtain ⟨u0, u1, _, _, _⟩ := blk2 hSw2); go_simp; (try with_reducible rfl)))
            try simp only [Act.put, List.getElem_toArray, List.getElem_cons_succ, List.getElem_cons_zero, List.setIfInBounds_toArray, List.set_cons_zero, List.set_cons_succ]
            refine wpAnyH_take (i := 8) (oi := _) (v := ?_) rfl (by kernel_rfl) (by kernel_rfl) (by kernel_rfl) (fun _ _ _ h => h) (Or.inl ⟨by rfl, ?_⟩) (by assumption) ?_
            (rotate_left); (focus (intro wv hSw; (have hSw2 : wv.heap[w1.heap.size]? = some (.cells #[.int .i64 p0, .int .i64 p1] 41 (0, 0)) := hSw); (obtain ⟨u0, u1, _, _, _⟩ := blk2 hSw2); go_simp; (try with_reducible rfl)))
            try simp only [Act.put, List.getElem_toArray, List.getElem_cons_succ, List.getElem_cons_zero, List.setIfInBounds_toArray, List.set_cons_zero, List.set_cons_succ]
            refine wpAnyH_take (i := 9) (oi := _) (v := ?_) rfl (by kernel_rfl) (by kernel_rfl) (by kernel_rfl) (fun _ _ _ h => h) (Or.inl ⟨by rfl, ?_⟩) (by assumption) ?_
            (rotate_left); (focus (intro wv hSw; (have hSw2 : wv.heap[w1.heap.size]? = some (.cells #[.int .i64 p0, .int .i64 p1] 41 (0, 0)) := hSw); (obtain ⟨u0, u1, _, _, _⟩ := blk2 hSw2); go_simp; (try with_reducible rfl)))
            try simp only [Act.put, List.getElem_toArray, List.getElem_cons_succ, List.getElem_cons_zero, List.setIfInBounds_toArray, List.set_cons_zero, List.set_cons_succ]
            refine wpAnyH_take (i := 11) (oi := _) (v := ?_) rfl (by kernel_rfl) (by kernel_rfl) (by kernel_rfl) (fun _ _ _ h => h) (Or.inl ⟨by rfl, ?_⟩) (by assumption) ?_
            (rotate_left); (focus (intro wv hSw; (have hSw2 : wv.heap[w1.heap.size]? = some (.cells #[.int .i64 p0, .int .i64 p1] 41 (0, 0)) := hSw); (obtain ⟨u0, u1, _, _, _⟩ := blk2 hSw2); go_simp; (try with_reducible rfl)))
            try simp only [Act.put, List.getElem_toArray, List.getElem_cons_succ, List.getElem_cons_zero, List.setIfInBounds_toArray, List.set_cons_zero, List.set_cons_succ]
            refine wpAnyH_take (i := 13) (oi := _) (v := ?_) rfl (by kernel_rfl) (by kernel_rfl) (by kernel_rfl) (fun _ _ _ h => h) (Or.inl ⟨by rfl, ?_⟩) (by assumption) ?_
            (rotate_left); (focus (intro wv hSw; (have hSw2 : wv.heap[w1.heap.size]? = some (.cells #[.int .i64 p0, .int .i64 p1] 41 (0, 0)) := hSw); (obtain ⟨u0, u1, _, _, _⟩ := blk2 hSw2); go_simp; (try with_reducible rfl)))
            try simp only [Act.put, List.getElem_toArray, List.getElem_cons_succ, List.getElem_cons_zero, List.setIfInBounds_toArray, List.set_cons_zero, List.set_cons_succ]
            refine wpAnyH_ready (rs := [1]) (by kernel_rfl) (by simp) ?_
            refine AllReadyH.cons (o := _) rfl (fun K hK => ?_) AllReadyH.nil
            go_simp
            have hP_1 := blk_old (w := wr.drew) hP (.cells #[] 91)
            have hO_1 := hO_0.alloc (.cells #[] 91)
            have hU_1 := hU_0.alloc (.cells #[] 91)
            have hB_1 := hB_0.alloc hB_0.size (.cells #[] 91)
            have hL : SOwn encBlock (wr.drew.alloc (.cells #[] 91)) wr.heap.size 91 (some ⟨wr.heap.size, 0, none⟩) 0 [] := SOwn.empty (blk_new wr.drew _) (Nat.le_refl _)
            clear hSS
            refine hK.out _ _ hP_1 (fun hHeld => ?_)
            clear hHeld hK K
            try simp only [Act.put, List.getElem_toArray, List.getElem_cons_succ, List.getElem_cons_zero, List.setIfInBounds_toArray, List.set_cons_zero, List.set_cons_succ]
            refine wpAnyH_ready (rs := [5]) (by kernel_rfl) (by simp) ?_
            refine AllReadyH.cons (o := _) rfl (fun K hK => ?_) AllReadyH.nil
            rw [if_pos (by kernel_rfl)]
            refine wp_append_own _ (.tmp 45) (.tmp 48) _ rfl wr.heap.size 91 i0 _ 5 40 Try.underlying42 HI.out.1 HI.out.2.1 HI.out.2.2.1 HI.out.2.2.2 rfl (by omega) (.slice (some ⟨wr.heap.size, 0, none⟩) 0 0) 0 (encBlock.flat []) rfl hL ⟨g, 0, none⟩ k (k + 1) (encBlock.flat (xs.take k)) rfl (by rw [encBlock.flat_len, HTL.out]; rfl) (SRow.news (hO_1.row.cutR k)) (encBlock.flat_one _) (by simp only [maxLen]; omega) (by omega) (by simp) ?_; intro v9 w9 hown9 hgr9 hnil9
            rw [Nat.zero_add] at hown9
            obtain ⟨A9, cap9, rfl⟩ := own_val hown9
            have hMo : SOwn encBlock w9 wr.heap.size 91 A9 cap9 (xs.take k) := SOwn.of_raw (E := encBlock) hown9 (by simp [Enc.flat]) HTL.out
            have hge9 : ∀ j, Value.ownBlock (.slice (some ⟨wr.heap.size, 0, none⟩) 0 0) = some j → wr.heap.size ≤ j := fun j hj => by simp [Value.ownBlock] at hj; omega
            have hO_2 := hO_1.grown_far hgr9 (fun g9 hg9 e9 => by simp at hg9; have := hge9 _ e9; omega)
            have hU_2 := hU_1.grown_far hgr9 (fun g9 hg9 e9 => by simp at hg9; have := hge9 _ e9; omega)
            have hB_2 := hB_1.grown hgr9 (by simp; have := hB.size; omega) (fun j hj => by have := hge9 _ hj; have := hB.size; omega)
            have hP_2 : w9.heap[w1.heap.size]? = some (.cells #[.int .i64 p0, .int .i64 p1] 41 (0, 0)) := (hgr9.block w1.heap.size (by simp; omega) (fun e => by have := hge9 _ e.symm; omega)).trans hP_1
            refine hK.out _ _ hP_2 (fun hHeld => ?_)
            clear hHeld hK K
            try simp only [Act.put, List.getElem_toArray, List.getElem_cons_succ, List.getElem_cons_zero, List.setIfInBounds_toArray, List.set_cons_zero, List.set_cons_succ]
            refine wpAnyH_ready (rs := [10]) (by kernel_rfl) (by simp) ?_
            refine AllReadyH.cons (o := _) rfl (fun K hK => ?_) AllReadyH.nil
            rw [if_pos (by kernel_rfl)]
            have hz9 := hgr9.size
            refine wp_append_own _ (.tmp 49) (.tmp 53) _ rfl wr.heap.size 91 i0 _ 5 40 Try.underlying42 HI.out.1 HI.out.2.1 HI.out.2.2.1 HI.out.2.2.2 rfl (by omega) (.slice A9 k cap9) k (encBlock.flat (xs.take k)) rfl (by have q9 := hMo; unfold SOwn at q9; rw [HTL.out] at q9; exact q9) ⟨g, 0, none⟩ 0 0 (encBlock.flat (xs.drop (k + 1))) rfl (by rw [HDN.out]; rfl) (by rw [HDN.out]; intro j u hu; simp [Enc.flat] at hu) (encBlock.flat_one _) (by simp only [maxLen]; omega) (by omega) (by simp at hz9; omega) ?_; intro v10 w10 hown10 hgr10 hnil10
            rw [Nat.add_zero] at hown10
            obtain ⟨A10, cap10, rfl⟩ := own_val hown10
            have hMp : SOwn encBlock w10 wr.heap.size 91 A10 cap10 (xs.take k ++ xs.drop (k + 1)) := SOwn.of_raw (E := encBlock) hown10 (by rw [encBlock.flat_app]) HAL.out
            have hge10 : ∀ j, Value.ownBlock (.slice A9 k cap9) = some j → wr.heap.size ≤ j := SOwn.ge_base hMo
            have hO_3 := hO_2.grown_far hgr10 (fun g9 hg9 e9 => by simp at hg9; have := hge10 _ e9; omega)
            have hU_3 := hU_2.grown_far hgr10 (fun g9 hg9 e9 => by simp at hg9; have := hge10 _ e9; omega)
            have hB_3 := hB_2.grown hgr10 hB_2.size (fun j hj => by have := hge10 _ hj; have := hB.size; omega)
            have hP_3 : w10.heap[w1.heap.size]? = some (.cells #[.int .i64 p0, .int .i64 p1] 41 (0, 0)) := (hgr10.block w1.heap.size (by simp at hz9; omega) (fun e => by have := hge10 _ e.symm; omega)).trans hP_2
            refine hK.out _ _ hP_3 (fun hHeld => ?_)
            clear hHeld hK K
            try simp only [Act.put, List.getElem_toArray, List.getElem_cons_succ, List.getElem_cons_zero, List.setIfInBounds_toArray, List.set_cons_zero, List.set_cons_succ]
            refine wpAnyH_ready (rs := [12]) (by kernel_rfl) (by simp) ?_
            refine AllReadyH.cons (o := _) rfl (fun K hK => ?_) AllReadyH.nil
            go_simp
            (go_at_call 21; refine (iRl_is A10 (some ⟨gU, 0, none⟩) cap10 cu (xs.take k ++ xs.drop (k + 1)) rs p0 p1 _ HAL.out hMp.row (by omega) HQ.out hU_3.row (by omega) HV.out).mono ?_; rintro e x0 ⟨rfl, hw_c⟩)
            have hP_4 := blk_next hP_3 hw_c
            have hO_4 := hO_3.next hw_c
            have hU_4 := hU_3.next hw_c
            have hB_4 := bel_next hB_3 hw_c
            refine hK.out _ _ hP_4 (fun hHeld => ?_)
            clear hHeld hK K
            try simp only [Act.put, List.getElem_toArray, List.getElem_cons_succ, List.getElem_cons_zero, List.setIfInBounds_toArray, List.set_cons_zero, List.set_cons_succ]
            have hSS : (fun w' => w'.heap[w1.heap.size]? = some (.cells #[.int .i64 p0, .int .i64 p1] 41 (0, 0))) x0 := hP_4
            refine wpAnyH_take (i := 14) (oi := _) (v := ?_) rfl (by kernel_rfl) (by kernel_rfl) (by kernel_rfl) (fun _ _ _ h => h) (Or.inl ⟨by rfl, ?_⟩) (by assumption) ?_
            (rotate_left); (focus (intro wv hSw; (have hSw2 : wv.heap[w1.heap.size]? = some (.cells #[.int .i64 p0, .int .i64 p1] 41 (0, 0)) := hSw); (obtain ⟨u0, u1, _, _, _⟩ := blk2 hSw2); go_simp; (try with_reducible rfl)))
            try simp only [Act.put, List.getElem_toArray, List.getElem_cons_succ, List.getElem_cons_zero, List.setIfInBounds_toArray, List.set_cons_zero, List.set_cons_succ]
            refine wpAnyH_done (by kernel_rfl) ?_ _
            clear hkw hkn
            go_wp2_with fail
            go_roundw
            case rel => exact ⟨k + 1, by go_num, by omega, hP_4, hO_4, hU_4, hB_4⟩
            case measure => simp [intOf]
          · have hc2 : ¬ cp = k + 1 := hc
            have hk5 : k + 1 ≤ cp := by omega
            clear hc
            go_wp2_with fail
            have hP_0 := hP
            have hO_0 := hO.drew
            have hU_0 := hU.drew
            have hB_0 := hB.drew
            refine wp_region_held_drew (S := (fun w' => w'.heap[w1.heap.size]? = some (.cells #[.int .i64 p0, .int .i64 p1] 41 (0, 0)))) (by kernel_rfl) hP (fun hHeld => ?_)
            clear hHeld
            have hSS : (fun w' => w'.heap[w1.heap.size]? = some (.cells #[.int .i64 p0, .int .i64 p1] 41 (0, 0))) wr.drew := hP
            refine wpAnyH_take (i := 0) (oi := _) (v := ?_) rfl (by kernel_rfl) (by kernel_rfl) (by kernel_rfl) (fun _ _ _ h => h) (Or.inl ⟨by rfl, ?_⟩) (by assumption) ?_
            (rotate_left); (focus (intro wv hSw; (have hSw2 : wv.heap[w1.heap.size]? = some (.cells #[.int .i64 p0, .int .i64 p1] 41 (0, 0)) := hSw); (obtain ⟨u0, u1, _, _, _⟩ := blk2 hSw2); go_simp; (try with_reducible rfl)))
            try simp only [Act.put, List.getElem_toArray, List.getElem_cons_succ, List.getElem_cons_zero, List.setIfInBounds_toArray, List.set_cons_zero, List.set_cons_succ]
            refine wpAnyH_take (i := 2) (oi := _) (v := ?_) rfl (by kernel_rfl) (by kernel_rfl) (by kernel_rfl) (fun _ _ _ h => h) (Or.inl ⟨by rfl, ?_⟩) (by assumption) ?_
            (rotate_left); (focus (intro wv hSw; (have hSw2 : wv.heap[w1.heap.size]? = some (.cells #[.int .i64 p0, .int .i64 p1] 41 (0, 0)) := hSw); (obtain ⟨u0, u1, _, _, _⟩ := blk2 hSw2); go_simp; (try with_reducible rfl)))
            try simp only [Act.put, List.getElem_toArray, List.getElem_cons_succ, List.getElem_cons_zero, List.setIfInBounds_toArray, List.set_cons_zero, List.set_cons_succ]
            refine wpAnyH_take (i := 3) (oi := _) (v := ?_) rfl (by kernel_rfl) (by kernel_rfl) (by kernel_rfl) (fun _ _ _ h => h) (Or.inl ⟨by rfl, ?_⟩) (by assumption) ?_
            (rotate_left); (focus (intro wv hSw; (have hSw2 : wv.heap[w1.heap.size]? = some (.cells #[.int .i64 p0, .int .i64 p1] 41 (0, 0)) := hSw); (obtain ⟨u0, u1, _, _, _⟩ := blk2 hSw2); go_simp; (try with_reducible rfl)))
            try simp only [Act.put, List.getElem_toArray, List.getElem_cons_succ, List.getElem_cons_zero, List.setIfInBounds_toArray, List.set_cons_zero, List.set_cons_succ]
            refine wpAnyH_take (i := 4) (oi := _) (v := ?_) rfl (by kernel_rfl) (by kernel_rfl) (by kernel_rfl) (fun _ _ _ h => h) (Or.inl ⟨by rfl, ?_⟩) (by assumption) ?_
            (rotate_left); (focus (intro wv hSw; (have hSw2 : wv.heap[w1.heap.size]? = some (.cells #[.int .i64 p0, .int .i64 p1] 41 (0, 0)) := hSw); (obtain ⟨u0, u1, _, _, _⟩ := blk2 hSw2); go_simp; (try with_reducible rfl)))
            try simp only [Act.put, List.getElem_toArray, List.getElem_cons_succ, List.getElem_cons_zero, List.setIfInBounds_toArray, List.set_cons_zero, List.set_cons_succ]
            refine wpAnyH_take (i := 6) (oi := _) (v := ?_) rfl (by kernel_rfl) (by kernel_rfl) (by kernel_rfl) (fun _ _ _ h => h) (Or.inl ⟨by rfl, ?_⟩) (by assumption) ?_
            (rotate_left); (focus (intro wv hSw; (have hSw2 : wv.heap[w1.heap.size]? = some (.cells #[.int .i64 p0, .int .i64 p1] 41 (0, 0)) := hSw); (obtain ⟨u0, u1, _, _, _⟩ := blk2 hSw2); go_simp; (try with_reducible rfl)))
            try simp only [Act.put, List.getElem_toArray, List.getElem_cons_succ, List.getElem_cons_zero, List.setIfInBounds_toArray, List.set_cons_zero, List.set_cons_succ]
            refine wpAnyH_take (i := 7) (oi := _) (v := ?_) rfl (by kernel_rfl) (by kernel_rfl) (by kernel_rfl) (fun _ _ _ h => h) (Or.inl ⟨by rfl, ?_⟩) (by assumption) ?_
            (rotate_left); (focus (intro wv hSw; (have hSw2 : wv.heap[w1.heap.size]? = some (.cells #[.int .i64 p0, .int .i64 p1] 41 (0, 0)) := hSw); (obtain ⟨u0, u1, _, _, _⟩ := blk2 hSw2); go_simp; (try with_reducible rfl)))
            try simp only [Act.put, List.getElem_toArray, List.getElem_cons_succ, List.getElem_cons_zero, List.setIfInBounds_toArray, List.set_cons_zero, List.set_cons_succ]
            refine wpAnyH_take (i := 8) (oi := _) (v := ?_) rfl (by kernel_rfl) (by kernel_rfl) (by kernel_rfl) (fun _ _ _ h => h) (Or.inl ⟨by rfl, ?_⟩) (by assumption) ?_
            (rotate_left); (focus (intro wv hSw; (have hSw2 : wv.heap[w1.heap.size]? = some (.cells #[.int .i64 p0, .int .i64 p1] 41 (0, 0)) := hSw); (obtain ⟨u0, u1, _, _, _⟩ := blk2 hSw2); go_simp; (try with_reducible rfl)))
            try simp only [Act.put, List.getElem_toArray, List.getElem_cons_succ, List.getElem_cons_zero, List.setIfInBounds_toArray, List.set_cons_zero, List.set_cons_succ]
            refine wpAnyH_take (i := 9) (oi := _) (v := ?_) rfl (by kernel_rfl) (by kernel_rfl) (by kernel_rfl) (fun _ _ _ h => h) (Or.inl ⟨by rfl, ?_⟩) (by assumption) ?_
            (rotate_left); (focus (intro wv hSw; (have hSw2 : wv.heap[w1.heap.size]? = some (.cells #[.int .i64 p0, .int .i64 p1] 41 (0, 0)) := hSw); (obtain ⟨u0, u1, _, _, _⟩ := blk2 hSw2); go_simp; (try with_reducible rfl)))
            try simp only [Act.put, List.getElem_toArray, List.getElem_cons_succ, List.getElem_cons_zero, List.setIfInBounds_toArray, List.set_cons_zero, List.set_cons_succ]
            refine wpAnyH_take (i := 11) (oi := _) (v := ?_) rfl (by kernel_rfl) (by kernel_rfl) (by kernel_rfl) (fun _ _ _ h => h) (Or.inl ⟨by rfl, ?_⟩) (by assumption) ?_
            (rotate_left); (focus (intro wv hSw; (have hSw2 : wv.heap[w1.heap.size]? = some (.cells #[.int .i64 p0, .int .i64 p1] 41 (0, 0)) := hSw); (obtain ⟨u0, u1, _, _, _⟩ := blk2 hSw2); go_simp; (try with_reducible rfl)))
            try simp only [Act.put, List.getElem_toArray, List.getElem_cons_succ, List.getElem_cons_zero, List.setIfInBounds_toArray, List.set_cons_zero, List.set_cons_succ]
            refine wpAnyH_take (i := 13) (oi := _) (v := ?_) rfl (by kernel_rfl) (by kernel_rfl) (by kernel_rfl) (fun _ _ _ h => h) (Or.inl ⟨by rfl, ?_⟩) (by assumption) ?_
            (rotate_left); (focus (intro wv hSw; (have hSw2 : wv.heap[w1.heap.size]? = some (.cells #[.int .i64 p0, .int .i64 p1] 41 (0, 0)) := hSw); (obtain ⟨u0, u1, _, _, _⟩ := blk2 hSw2); go_simp; (try with_reducible rfl)))
            try simp only [Act.put, List.getElem_toArray, List.getElem_cons_succ, List.getElem_cons_zero, List.setIfInBounds_toArray, List.set_cons_zero, List.set_cons_succ]
            refine wpAnyH_ready (rs := [1]) (by kernel_rfl) (by simp) ?_
            refine AllReadyH.cons (o := _) rfl (fun K hK => ?_) AllReadyH.nil
            go_simp
            have hP_1 := blk_old (w := wr.drew) hP (.cells #[] 91)
            have hO_1 := hO_0.alloc (.cells #[] 91)
            have hU_1 := hU_0.alloc (.cells #[] 91)
            have hB_1 := hB_0.alloc hB_0.size (.cells #[] 91)
            have hL : SOwn encBlock (wr.drew.alloc (.cells #[] 91)) wr.heap.size 91 (some ⟨wr.heap.size, 0, none⟩) 0 [] := SOwn.empty (blk_new wr.drew _) (Nat.le_refl _)
            clear hSS
            refine hK.out _ _ hP_1 (fun hHeld => ?_)
            clear hHeld hK K
            try simp only [Act.put, List.getElem_toArray, List.getElem_cons_succ, List.getElem_cons_zero, List.setIfInBounds_toArray, List.set_cons_zero, List.set_cons_succ]
            refine wpAnyH_ready (rs := [5]) (by kernel_rfl) (by simp) ?_
            refine AllReadyH.cons (o := _) rfl (fun K hK => ?_) AllReadyH.nil
            rw [if_pos (by kernel_rfl)]
            refine wp_append_own _ (.tmp 45) (.tmp 48) _ rfl wr.heap.size 91 i0 _ 5 40 Try.underlying42 HI.out.1 HI.out.2.1 HI.out.2.2.1 HI.out.2.2.2 rfl (by omega) (.slice (some ⟨wr.heap.size, 0, none⟩) 0 0) 0 (encBlock.flat []) rfl hL ⟨g, 0, none⟩ k cp (encBlock.flat (xs.take k)) rfl (by rw [encBlock.flat_len, HTL.out]; rfl) (SRow.news (hO_1.row.cutR k)) (encBlock.flat_one _) (by simp only [maxLen]; omega) (by omega) (by simp) ?_; intro v9 w9 hown9 hgr9 hnil9
            rw [Nat.zero_add] at hown9
            obtain ⟨A9, cap9, rfl⟩ := own_val hown9
            have hMo : SOwn encBlock w9 wr.heap.size 91 A9 cap9 (xs.take k) := SOwn.of_raw (E := encBlock) hown9 (by simp [Enc.flat]) HTL.out
            have hge9 : ∀ j, Value.ownBlock (.slice (some ⟨wr.heap.size, 0, none⟩) 0 0) = some j → wr.heap.size ≤ j := fun j hj => by simp [Value.ownBlock] at hj; omega
            have hO_2 := hO_1.grown_far hgr9 (fun g9 hg9 e9 => by simp at hg9; have := hge9 _ e9; omega)
            have hU_2 := hU_1.grown_far hgr9 (fun g9 hg9 e9 => by simp at hg9; have := hge9 _ e9; omega)
            have hB_2 := hB_1.grown hgr9 (by simp; have := hB.size; omega) (fun j hj => by have := hge9 _ hj; have := hB.size; omega)
            have hP_2 : w9.heap[w1.heap.size]? = some (.cells #[.int .i64 p0, .int .i64 p1] 41 (0, 0)) := (hgr9.block w1.heap.size (by simp; omega) (fun e => by have := hge9 _ e.symm; omega)).trans hP_1
            refine hK.out _ _ hP_2 (fun hHeld => ?_)
            clear hHeld hK K
            try simp only [Act.put, List.getElem_toArray, List.getElem_cons_succ, List.getElem_cons_zero, List.setIfInBounds_toArray, List.set_cons_zero, List.set_cons_succ]
            refine wpAnyH_ready (rs := [10]) (by kernel_rfl) (by simp) ?_
            refine AllReadyH.cons (o := _) rfl (fun K hK => ?_) AllReadyH.nil
            rw [if_pos (by kernel_rfl)]
            have hz9 := hgr9.size
            refine wp_append_own _ (.tmp 49) (.tmp 53) _ rfl wr.heap.size 91 i0 _ 5 40 Try.underlying42 HI.out.1 HI.out.2.1 HI.out.2.2.1 HI.out.2.2.2 rfl (by omega) (.slice A9 k cap9) k (encBlock.flat (xs.take k)) rfl (by have q9 := hMo; unfold SOwn at q9; rw [HTL.out] at q9; exact q9) ⟨g, (k + 1) * 5, none⟩ (m - (k + 1)) (cp - (k + 1)) (encBlock.flat (xs.drop (k + 1))) rfl (by rw [encBlock.flat_len, HDL.out]; rfl) (SRow.news (hO_2.row.drop5 (k + 1))) (encBlock.flat_one _) (by simp only [maxLen]; omega) (by omega) (by simp at hz9; omega) ?_; intro v10 w10 hown10 hgr10 hnil10
            obtain ⟨A10, cap10, rfl⟩ := own_val hown10
            have hMp : SOwn encBlock w10 wr.heap.size 91 A10 cap10 (xs.take k ++ xs.drop (k + 1)) := SOwn.of_raw (E := encBlock) hown10 (by rw [encBlock.flat_app]) HAL.out
            have hge10 : ∀ j, Value.ownBlock (.slice A9 k cap9) = some j → wr.heap.size ≤ j := SOwn.ge_base hMo
            have hO_3 := hO_2.grown_far hgr10 (fun g9 hg9 e9 => by simp at hg9; have := hge10 _ e9; omega)
            have hU_3 := hU_2.grown_far hgr10 (fun g9 hg9 e9 => by simp at hg9; have := hge10 _ e9; omega)
            have hB_3 := hB_2.grown hgr10 hB_2.size (fun j hj => by have := hge10 _ hj; have := hB.size; omega)
            have hP_3 : w10.heap[w1.heap.size]? = some (.cells #[.int .i64 p0, .int .i64 p1] 41 (0, 0)) := (hgr10.block w1.heap.size (by simp at hz9; omega) (fun e => by have := hge10 _ e.symm; omega)).trans hP_2
            refine hK.out _ _ hP_3 (fun hHeld => ?_)
            clear hHeld hK K
            try simp only [Act.put, List.getElem_toArray, List.getElem_cons_succ, List.getElem_cons_zero, List.setIfInBounds_toArray, List.set_cons_zero, List.set_cons_succ]
            refine wpAnyH_ready (rs := [12]) (by kernel_rfl) (by simp) ?_
            refine AllReadyH.cons (o := _) rfl (fun K hK => ?_) AllReadyH.nil
            go_simp
            (go_at_call 21; refine (iRl_is A10 (some ⟨gU, 0, none⟩) cap10 cu (xs.take k ++ xs.drop (k + 1)) rs p0 p1 _ HAL.out hMp.row (by omega) HQ.out hU_3.row (by omega) HV.out).mono ?_; rintro e x0 ⟨rfl, hw_c⟩)
            have hP_4 := blk_next hP_3 hw_c
            have hO_4 := hO_3.next hw_c
            have hU_4 := hU_3.next hw_c
            have hB_4 := bel_next hB_3 hw_c
            refine hK.out _ _ hP_4 (fun hHeld => ?_)
            clear hHeld hK K
            try simp only [Act.put, List.getElem_toArray, List.getElem_cons_succ, List.getElem_cons_zero, List.setIfInBounds_toArray, List.set_cons_zero, List.set_cons_succ]
            have hSS : (fun w' => w'.heap[w1.heap.size]? = some (.cells #[.int .i64 p0, .int .i64 p1] 41 (0, 0))) x0 := hP_4
            refine wpAnyH_take (i := 14) (oi := _) (v := ?_) rfl (by kernel_rfl) (by kernel_rfl) (by kernel_rfl) (fun _ _ _ h => h) (Or.inl ⟨by rfl, ?_⟩) (by assumption) ?_
            (rotate_left); (focus (intro wv hSw; (have hSw2 : wv.heap[w1.heap.size]? = some (.cells #[.int .i64 p0, .int .i64 p1] 41 (0, 0)) := hSw); (obtain ⟨u0, u1, _, _, _⟩ := blk2 hSw2); go_simp; (try with_reducible rfl)))
            try simp only [Act.put, List.getElem_toArray, List.getElem_cons_succ, List.getElem_cons_zero, List.setIfInBounds_toArray, List.set_cons_zero, List.set_cons_succ]
            refine wpAnyH_done (by kernel_rfl) ?_ _
            clear hkw hkn
            go_wp2_with fail
            go_roundw
            case rel => exact ⟨k + 1, by go_num, by omega, hP_4, hO_4, hU_4, hB_4⟩
            case measure => simp [intOf]; omega
        · obtain rfl : k = m := by omega
          have hki : ¬ (k : Int) < (k : Int) := by omega
          have HT1 : Hid ((rs.take hf).length = hf) := Lib.hid (by rw [List.length_take, HQ.out]; omega)
          have HT2 : Hid ((rs.drop hf).length = q - hf) := Lib.hid (by rw [List.length_drop, HQ.out])
          have hs1 := HSW.out
          have hs2 : a1 + a2 = r := HSUM.out
          have hs3 : ((a1 + a2) == r) = true := by rw [beq_iff_eq]; exact hs2
          have hs4 : (r == r) = true := by rw [beq_iff_eq]
          have hs5 : r ≤ (q : Int) := l4
          have hs6 : decide (r ≤ (q : Int)) = true := decide_eq_true l4
          have HS2 := Lib.hid hs2
          clear hs2
          have hq1 : hf ≤ cu := by omega
          have hq2 : (hf : Int) ≤ (cu : Int) := by omega
          have hq3 : (hf : Int) ≤ (q : Int) := by omega
          have hq4 : (0 : Int) ≤ (hf : Int) := by omega
          by_cases hcf : cu = hf
          · have hq0 : q = 0 := by have := HHF.out; omega
            have hf0 : hf = 0 := by omega
            subst hf0
            subst hcf
            subst hq0
            have hs7 : r ≤ 0 := by omega
            have hs8 : decide (r ≤ 0) = true := decide_eq_true hs7
            have HRN : Hid (rs.drop 0 = []) := Lib.hid (List.length_eq_zero_iff.1 (by rw [HT2.out]))
            go_wp2_with fail
            refine wp_region_held_drew (S := (fun w' => w'.heap[w1.heap.size]? = some (.cells #[.int .i64 p0, .int .i64 p1] 41 (0, 0)) ∧ SOwn encBlock w' w.heap.size 91 A cp xs ∧ SOwn encRay w' w.heap.size 71 (some ⟨gU, 0, none⟩) 0 rs ∧ Below w.heap.size w w')) (by kernel_rfl) ⟨hP, hO.drew, hU.drew, hB.drew⟩ (fun hHeld => ?_)
            obtain ⟨hP_0, hO_0, hU_0, hB_0⟩ := id hHeld
            refine wpAnyH_take (i := 0) (oi := _) (v := ?_) rfl (by kernel_rfl) (by kernel_rfl) (by kernel_rfl) (fun _ _ _ h => h) (Or.inl ⟨by rfl, ?_⟩) (by assumption) ?_
            (rotate_left); (focus (intro wv hSw; (obtain ⟨qP, qO, qU, qB⟩ := hSw); obtain ⟨u0, u1, _, _, _⟩ := blk2 qP; go_simp; (try with_reducible rfl)))
            try simp only [Act.put, List.getElem_toArray, List.getElem_cons_succ, List.getElem_cons_zero, List.setIfInBounds_toArray, List.set_cons_zero, List.set_cons_succ]
            refine wpAnyH_take (i := 1) (oi := _) (v := ?_) rfl (by kernel_rfl) (by kernel_rfl) (by kernel_rfl) (fun _ _ _ h => h) (Or.inl ⟨by rfl, ?_⟩) (by assumption) ?_
            (rotate_left); (focus (intro wv hSw; (obtain ⟨qP, qO, qU, qB⟩ := hSw);  go_simp; (try with_reducible rfl)))
            try simp only [Act.put, List.getElem_toArray, List.getElem_cons_succ, List.getElem_cons_zero, List.setIfInBounds_toArray, List.set_cons_zero, List.set_cons_succ]
            refine wpAnyH_take (i := 2) (oi := _) (v := ?_) rfl (by kernel_rfl) (by kernel_rfl) (by kernel_rfl) (fun _ _ _ h => h) (Or.inl ⟨by rfl, ?_⟩) (by assumption) ?_
            (rotate_left); (focus (intro wv hSw; (obtain ⟨qP, qO, qU, qB⟩ := hSw);  go_simp; (try with_reducible rfl)))
            try simp only [Act.put, List.getElem_toArray, List.getElem_cons_succ, List.getElem_cons_zero, List.setIfInBounds_toArray, List.set_cons_zero, List.set_cons_succ]
            refine wpAnyH_take (i := 3) (oi := _) (v := ?_) rfl (by kernel_rfl) (by kernel_rfl) (by kernel_rfl) (fun _ _ _ h => h) (Or.inl ⟨by rfl, ?_⟩) (by assumption) ?_
            (rotate_left); (focus (intro wv hSw; (obtain ⟨qP, qO, qU, qB⟩ := hSw);  go_simp; (try with_reducible rfl)))
            try simp only [Act.put, List.getElem_toArray, List.getElem_cons_succ, List.getElem_cons_zero, List.setIfInBounds_toArray, List.set_cons_zero, List.set_cons_succ]
            refine wpAnyH_take (i := 4) (oi := _) (v := ?_) rfl (by kernel_rfl) (by kernel_rfl) (by kernel_rfl) (fun _ _ _ h => h) (Or.inl ⟨by rfl, ?_⟩) (by assumption) ?_
            (rotate_left); (focus (intro wv hSw; (obtain ⟨qP, qO, qU, qB⟩ := hSw);  go_simp; (try with_reducible rfl)))
            try simp only [Act.put, List.getElem_toArray, List.getElem_cons_succ, List.getElem_cons_zero, List.setIfInBounds_toArray, List.set_cons_zero, List.set_cons_succ]
            refine wpAnyH_take (i := 6) (oi := _) (v := ?_) rfl (by kernel_rfl) (by kernel_rfl) (by kernel_rfl) (fun _ _ _ h => h) (Or.inl ⟨by rfl, ?_⟩) (by assumption) ?_
            (rotate_left); (focus (intro wv hSw; (obtain ⟨qP, qO, qU, qB⟩ := hSw); obtain ⟨u0, u1, _, _, _⟩ := blk2 qP; go_simp; (try with_reducible rfl)))
            try simp only [Act.put, List.getElem_toArray, List.getElem_cons_succ, List.getElem_cons_zero, List.setIfInBounds_toArray, List.set_cons_zero, List.set_cons_succ]
            refine wpAnyH_take (i := 7) (oi := _) (v := ?_) rfl (by kernel_rfl) (by kernel_rfl) (by kernel_rfl) (fun _ _ _ h => h) (Or.inl ⟨by rfl, ?_⟩) (by assumption) ?_
            (rotate_left); (focus (intro wv hSw; (obtain ⟨qP, qO, qU, qB⟩ := hSw);  go_simp; (try with_reducible rfl)))
            try simp only [Act.put, List.getElem_toArray, List.getElem_cons_succ, List.getElem_cons_zero, List.setIfInBounds_toArray, List.set_cons_zero, List.set_cons_succ]
            refine wpAnyH_take (i := 8) (oi := _) (v := ?_) rfl (by kernel_rfl) (by kernel_rfl) (by kernel_rfl) (fun _ _ _ h => h) (Or.inl ⟨by rfl, ?_⟩) (by assumption) ?_
            (rotate_left); (focus (intro wv hSw; (obtain ⟨qP, qO, qU, qB⟩ := hSw);  go_simp; (try with_reducible rfl)))
            try simp only [Act.put, List.getElem_toArray, List.getElem_cons_succ, List.getElem_cons_zero, List.setIfInBounds_toArray, List.set_cons_zero, List.set_cons_succ]
            refine wpAnyH_take (i := 9) (oi := _) (v := ?_) rfl (by kernel_rfl) (by kernel_rfl) (by kernel_rfl) (fun _ _ _ h => h) (Or.inl ⟨by rfl, ?_⟩) (by assumption) ?_
            (rotate_left); (focus (intro wv hSw; (obtain ⟨qP, qO, qU, qB⟩ := hSw);  go_simp; (try with_reducible rfl)))
            try simp only [Act.put, List.getElem_toArray, List.getElem_cons_succ, List.getElem_cons_zero, List.setIfInBounds_toArray, List.set_cons_zero, List.set_cons_succ]
            refine wpAnyH_take (i := 10) (oi := _) (v := ?_) rfl (by kernel_rfl) (by kernel_rfl) (by kernel_rfl) (fun _ _ _ h => h) (Or.inl ⟨by rfl, ?_⟩) (by assumption) ?_
            (rotate_left); (focus (intro wv hSw; (obtain ⟨qP, qO, qU, qB⟩ := hSw);  go_simp; (try with_reducible rfl)))
            try simp only [Act.put, List.getElem_toArray, List.getElem_cons_succ, List.getElem_cons_zero, List.setIfInBounds_toArray, List.set_cons_zero, List.set_cons_succ]
            refine wpAnyH_take (i := 13) (oi := _) (v := ?_) rfl (by kernel_rfl) (by kernel_rfl) (by kernel_rfl) (fun _ _ _ h => h) (Or.inl ⟨by rfl, ?_⟩) (by assumption) ?_
            (rotate_left); (focus (intro wv hSw; (obtain ⟨qP, qO, qU, qB⟩ := hSw);  go_simp; (try with_reducible rfl)))
            try simp only [Act.put, List.getElem_toArray, List.getElem_cons_succ, List.getElem_cons_zero, List.setIfInBounds_toArray, List.set_cons_zero, List.set_cons_succ]
            refine wpAnyH_ready (rs := [5]) (by kernel_rfl) (by simp) ?_
            refine AllReadyH.cons (o := _) rfl (fun K hK => ?_) AllReadyH.nil
            go_simp
            (go_at_call 21; refine (iRl_is A (some ⟨gU, 0, none⟩) cp 0 xs (rs.take 0) p0 p1 _ HM.out hO_0.row (by omega) HT1.out (hU_0.row.cutR 0) (by omega) HA1.out).mono ?_; rintro e x0c ⟨rfl, hw_0c⟩)
            refine hK.out _ _ ⟨blk_next hP_0 hw_0c, hO_0.next hw_0c, hU_0.next hw_0c, bel_next hB_0 hw_0c⟩ (fun hHeld => ?_)
            clear hK K
            try simp only [Act.put, List.getElem_toArray, List.getElem_cons_succ, List.getElem_cons_zero, List.setIfInBounds_toArray, List.set_cons_zero, List.set_cons_succ]
            obtain ⟨hP_0c, hO_0c, hU_0c, hB_0c⟩ := id hHeld
            refine wpAnyH_ready (rs := [11]) (by kernel_rfl) (by simp) ?_
            refine AllReadyH.cons (o := _) rfl (fun K hK => ?_) AllReadyH.nil
            go_simp
            (go_at_call 21; refine (iRl_is A (some ⟨gU, 0, none⟩) cp _ xs (rs.drop 0) p0 p1 _ HM.out hO_0c.row (by omega) HT2.out (.inl HRN.out) (by omega) HA2.out).mono ?_; rintro e x0cc ⟨rfl, hw_0cc⟩)
            refine hK.out _ _ ⟨blk_next hP_0c hw_0cc, hO_0c.next hw_0cc, hU_0c.next hw_0cc, bel_next hB_0c hw_0cc⟩ (fun hHeld => ?_)
            clear hK K
            try simp only [Act.put, List.getElem_toArray, List.getElem_cons_succ, List.getElem_cons_zero, List.setIfInBounds_toArray, List.set_cons_zero, List.set_cons_succ]
            obtain ⟨hP_0cc, hO_0cc, hU_0cc, hB_0cc⟩ := id hHeld
            refine wpAnyH_take (i := 12) (oi := _) (v := ?_) rfl (by kernel_rfl) (by kernel_rfl) (by kernel_rfl) (fun _ _ _ h => h) (Or.inl ⟨by rfl, ?_⟩) (by assumption) ?_
            (rotate_left); (focus (intro wv hSw; (obtain ⟨qP, qO, qU, qB⟩ := hSw);  go_simp; (try with_reducible rfl)))
            try simp only [Act.put, List.getElem_toArray, List.getElem_cons_succ, List.getElem_cons_zero, List.setIfInBounds_toArray, List.set_cons_zero, List.set_cons_succ]
            refine wpAnyH_take (i := 14) (oi := _) (v := ?_) rfl (by kernel_rfl) (by kernel_rfl) (by kernel_rfl) (fun _ _ _ h => h) (Or.inl ⟨by rfl, ?_⟩) (by assumption) ?_
            (rotate_left); (focus (intro wv hSw; (obtain ⟨qP, qO, qU, qB⟩ := hSw);  go_simp; (try with_reducible rfl)))
            try simp only [Act.put, List.getElem_toArray, List.getElem_cons_succ, List.getElem_cons_zero, List.setIfInBounds_toArray, List.set_cons_zero, List.set_cons_succ]
            refine wpAnyH_take (i := 15) (oi := _) (v := ?_) rfl (by kernel_rfl) (by kernel_rfl) (by kernel_rfl) (fun _ _ _ h => h) (Or.inl ⟨by rfl, ?_⟩) (by assumption) ?_
            (rotate_left); (focus (intro wv hSw; (obtain ⟨qP, qO, qU, qB⟩ := hSw);  go_simp; (try with_reducible rfl)))
            try simp only [Act.put, List.getElem_toArray, List.getElem_cons_succ, List.getElem_cons_zero, List.setIfInBounds_toArray, List.set_cons_zero, List.set_cons_succ]
            refine wpAnyH_take (i := 16) (oi := _) (v := ?_) rfl (by kernel_rfl) (by kernel_rfl) (by kernel_rfl) (fun _ _ _ h => h) (Or.inl ⟨by rfl, ?_⟩) (by assumption) ?_
            (rotate_left); (focus (intro wv hSw; (obtain ⟨qP, qO, qU, qB⟩ := hSw);  go_simp; (try with_reducible rfl)))
            try simp only [Act.put, List.getElem_toArray, List.getElem_cons_succ, List.getElem_cons_zero, List.setIfInBounds_toArray, List.set_cons_zero, List.set_cons_succ]
            refine wpAnyH_take (i := 17) (oi := _) (v := ?_) rfl (by kernel_rfl) (by kernel_rfl) (by kernel_rfl) (fun _ _ _ h => h) (Or.inl ⟨by rfl, ?_⟩) (by assumption) ?_
            (rotate_left); (focus (intro wv hSw; (obtain ⟨qP, qO, qU, qB⟩ := hSw);  go_simp; (try with_reducible rfl)))
            try simp only [Act.put, List.getElem_toArray, List.getElem_cons_succ, List.getElem_cons_zero, List.setIfInBounds_toArray, List.set_cons_zero, List.set_cons_succ]
            refine wpAnyH_take (i := 18) (oi := _) (v := ?_) rfl (by kernel_rfl) (by kernel_rfl) (by kernel_rfl) (fun _ _ _ h => h) (Or.inl ⟨by rfl, ?_⟩) (by assumption) ?_
            (rotate_left); (focus (intro wv hSw; (obtain ⟨qP, qO, qU, qB⟩ := hSw);  go_simp; (try with_reducible rfl)))
            try simp only [Act.put, List.getElem_toArray, List.getElem_cons_succ, List.getElem_cons_zero, List.setIfInBounds_toArray, List.set_cons_zero, List.set_cons_succ]
            refine wpAnyH_take (i := 19) (oi := _) (v := ?_) rfl (by kernel_rfl) (by kernel_rfl) (by kernel_rfl) (fun _ _ _ h => h) (Or.inl ⟨by rfl, ?_⟩) (by assumption) ?_
            (rotate_left); (focus (intro wv hSw; (obtain ⟨qP, qO, qU, qB⟩ := hSw);  go_simp; (try with_reducible rfl)))
            try simp only [Act.put, List.getElem_toArray, List.getElem_cons_succ, List.getElem_cons_zero, List.setIfInBounds_toArray, List.set_cons_zero, List.set_cons_succ]
            refine wpAnyH_take (i := 20) (oi := _) (v := ?_) rfl (by kernel_rfl) (by kernel_rfl) (by kernel_rfl) (fun _ _ _ h => h) (Or.inl ⟨by rfl, ?_⟩) (by assumption) ?_
            (rotate_left); (focus (intro wv hSw; (obtain ⟨qP, qO, qU, qB⟩ := hSw);  go_simp; (try with_reducible rfl)))
            try simp only [Act.put, List.getElem_toArray, List.getElem_cons_succ, List.getElem_cons_zero, List.setIfInBounds_toArray, List.set_cons_zero, List.set_cons_succ]
            refine wpAnyH_take (i := 21) (oi := _) (v := ?_) rfl (by kernel_rfl) (by kernel_rfl) (by kernel_rfl) (fun _ _ _ h => h) (Or.inl ⟨by rfl, ?_⟩) (by assumption) ?_
            (rotate_left); (focus (intro wv hSw; (obtain ⟨qP, qO, qU, qB⟩ := hSw);  go_simp; (try with_reducible rfl)))
            try simp only [Act.put, List.getElem_toArray, List.getElem_cons_succ, List.getElem_cons_zero, List.setIfInBounds_toArray, List.set_cons_zero, List.set_cons_succ]
            refine wpAnyH_done (by kernel_rfl) ?_ _
            go_wp2_with fail
            go_ret
            exact ⟨rfl, hB_0cc⟩
          · have hcf2 : ¬ cu = hf := hcf
            clear hcf
            go_wp2_with fail
            refine wp_region_held_drew (S := (fun w' => w'.heap[w1.heap.size]? = some (.cells #[.int .i64 p0, .int .i64 p1] 41 (0, 0)) ∧ SOwn encBlock w' w.heap.size 91 A cp xs ∧ SOwn encRay w' w.heap.size 71 (some ⟨gU, 0, none⟩) cu rs ∧ Below w.heap.size w w')) (by kernel_rfl) ⟨hP, hO.drew, hU.drew, hB.drew⟩ (fun hHeld => ?_)
            obtain ⟨hP_0, hO_0, hU_0, hB_0⟩ := id hHeld
            refine wpAnyH_take (i := 0) (oi := _) (v := ?_) rfl (by kernel_rfl) (by kernel_rfl) (by kernel_rfl) (fun _ _ _ h => h) (Or.inl ⟨by rfl, ?_⟩) (by assumption) ?_
            (rotate_left); (focus (intro wv hSw; (obtain ⟨qP, qO, qU, qB⟩ := hSw); obtain ⟨u0, u1, _, _, _⟩ := blk2 qP; go_simp; (try with_reducible rfl)))
            try simp only [Act.put, List.getElem_toArray, List.getElem_cons_succ, List.getElem_cons_zero, List.setIfInBounds_toArray, List.set_cons_zero, List.set_cons_succ]
            refine wpAnyH_take (i := 1) (oi := _) (v := ?_) rfl (by kernel_rfl) (by kernel_rfl) (by kernel_rfl) (fun _ _ _ h => h) (Or.inl ⟨by rfl, ?_⟩) (by assumption) ?_
            (rotate_left); (focus (intro wv hSw; (obtain ⟨qP, qO, qU, qB⟩ := hSw);  go_simp; (try with_reducible rfl)))
            try simp only [Act.put, List.getElem_toArray, List.getElem_cons_succ, List.getElem_cons_zero, List.setIfInBounds_toArray, List.set_cons_zero, List.set_cons_succ]
            refine wpAnyH_take (i := 2) (oi := _) (v := ?_) rfl (by kernel_rfl) (by kernel_rfl) (by kernel_rfl) (fun _ _ _ h => h) (Or.inl ⟨by rfl, ?_⟩) (by assumption) ?_
            (rotate_left); (focus (intro wv hSw; (obtain ⟨qP, qO, qU, qB⟩ := hSw);  go_simp; (try with_reducible rfl)))
            try simp only [Act.put, List.getElem_toArray, List.getElem_cons_succ, List.getElem_cons_zero, List.setIfInBounds_toArray, List.set_cons_zero, List.set_cons_succ]
            refine wpAnyH_take (i := 3) (oi := _) (v := ?_) rfl (by kernel_rfl) (by kernel_rfl) (by kernel_rfl) (fun _ _ _ h => h) (Or.inl ⟨by rfl, ?_⟩) (by assumption) ?_
            (rotate_left); (focus (intro wv hSw; (obtain ⟨qP, qO, qU, qB⟩ := hSw);  go_simp; (try with_reducible rfl)))
            try simp only [Act.put, List.getElem_toArray, List.getElem_cons_succ, List.getElem_cons_zero, List.setIfInBounds_toArray, List.set_cons_zero, List.set_cons_succ]
            refine wpAnyH_take (i := 4) (oi := _) (v := ?_) rfl (by kernel_rfl) (by kernel_rfl) (by kernel_rfl) (fun _ _ _ h => h) (Or.inl ⟨by rfl, ?_⟩) (by assumption) ?_
            (rotate_left); (focus (intro wv hSw; (obtain ⟨qP, qO, qU, qB⟩ := hSw);  go_simp; (try with_reducible rfl)))
            try simp only [Act.put, List.getElem_toArray, List.getElem_cons_succ, List.getElem_cons_zero, List.setIfInBounds_toArray, List.set_cons_zero, List.set_cons_succ]
            refine wpAnyH_take (i := 6) (oi := _) (v := ?_) rfl (by kernel_rfl) (by kernel_rfl) (by kernel_rfl) (fun _ _ _ h => h) (Or.inl ⟨by rfl, ?_⟩) (by assumption) ?_
            (rotate_left); (focus (intro wv hSw; (obtain ⟨qP, qO, qU, qB⟩ := hSw); obtain ⟨u0, u1, _, _, _⟩ := blk2 qP; go_simp; (try with_reducible rfl)))
            try simp only [Act.put, List.getElem_toArray, List.getElem_cons_succ, List.getElem_cons_zero, List.setIfInBounds_toArray, List.set_cons_zero, List.set_cons_succ]
            refine wpAnyH_take (i := 7) (oi := _) (v := ?_) rfl (by kernel_rfl) (by kernel_rfl) (by kernel_rfl) (fun _ _ _ h => h) (Or.inl ⟨by rfl, ?_⟩) (by assumption) ?_
            (rotate_left); (focus (intro wv hSw; (obtain ⟨qP, qO, qU, qB⟩ := hSw);  go_simp; (try with_reducible rfl)))
            try simp only [Act.put, List.getElem_toArray, List.getElem_cons_succ, List.getElem_cons_zero, List.setIfInBounds_toArray, List.set_cons_zero, List.set_cons_succ]
            refine wpAnyH_take (i := 8) (oi := _) (v := ?_) rfl (by kernel_rfl) (by kernel_rfl) (by kernel_rfl) (fun _ _ _ h => h) (Or.inl ⟨by rfl, ?_⟩) (by assumption) ?_
            (rotate_left); (focus (intro wv hSw; (obtain ⟨qP, qO, qU, qB⟩ := hSw);  go_simp; (try with_reducible rfl)))
            try simp only [Act.put, List.getElem_toArray, List.getElem_cons_succ, List.getElem_cons_zero, List.setIfInBounds_toArray, List.set_cons_zero, List.set_cons_succ]
            refine wpAnyH_take (i := 9) (oi := _) (v := ?_) rfl (by kernel_rfl) (by kernel_rfl) (by kernel_rfl) (fun _ _ _ h => h) (Or.inl ⟨by rfl, ?_⟩) (by assumption) ?_
            (rotate_left); (focus (intro wv hSw; (obtain ⟨qP, qO, qU, qB⟩ := hSw);  go_simp; (try with_reducible rfl)))
            try simp only [Act.put, List.getElem_toArray, List.getElem_cons_succ, List.getElem_cons_zero, List.setIfInBounds_toArray, List.set_cons_zero, List.set_cons_succ]
            refine wpAnyH_take (i := 10) (oi := _) (v := ?_) rfl (by kernel_rfl) (by kernel_rfl) (by kernel_rfl) (fun _ _ _ h => h) (Or.inl ⟨by rfl, ?_⟩) (by assumption) ?_
            (rotate_left); (focus (intro wv hSw; (obtain ⟨qP, qO, qU, qB⟩ := hSw);  go_simp; (try with_reducible rfl)))
            try simp only [Act.put, List.getElem_toArray, List.getElem_cons_succ, List.getElem_cons_zero, List.setIfInBounds_toArray, List.set_cons_zero, List.set_cons_succ]
            refine wpAnyH_take (i := 13) (oi := _) (v := ?_) rfl (by kernel_rfl) (by kernel_rfl) (by kernel_rfl) (fun _ _ _ h => h) (Or.inl ⟨by rfl, ?_⟩) (by assumption) ?_
            (rotate_left); (focus (intro wv hSw; (obtain ⟨qP, qO, qU, qB⟩ := hSw);  go_simp; (try with_reducible rfl)))
            try simp only [Act.put, List.getElem_toArray, List.getElem_cons_succ, List.getElem_cons_zero, List.setIfInBounds_toArray, List.set_cons_zero, List.set_cons_succ]
            refine wpAnyH_ready (rs := [5]) (by kernel_rfl) (by simp) ?_
            refine AllReadyH.cons (o := _) rfl (fun K hK => ?_) AllReadyH.nil
            go_simp
            (go_at_call 21; refine (iRl_is A (some ⟨gU, 0, none⟩) cp cu xs (rs.take hf) p0 p1 _ HM.out hO_0.row (by omega) HT1.out (hU_0.row.cutR hf) (by omega) HA1.out).mono ?_; rintro e x0c ⟨rfl, hw_0c⟩)
            refine hK.out _ _ ⟨blk_next hP_0 hw_0c, hO_0.next hw_0c, hU_0.next hw_0c, bel_next hB_0 hw_0c⟩ (fun hHeld => ?_)
            clear hK K
            try simp only [Act.put, List.getElem_toArray, List.getElem_cons_succ, List.getElem_cons_zero, List.setIfInBounds_toArray, List.set_cons_zero, List.set_cons_succ]
            obtain ⟨hP_0c, hO_0c, hU_0c, hB_0c⟩ := id hHeld
            refine wpAnyH_ready (rs := [11]) (by kernel_rfl) (by simp) ?_
            refine AllReadyH.cons (o := _) rfl (fun K hK => ?_) AllReadyH.nil
            go_simp
            (go_at_call 21; refine (iRl_is A _ cp _ xs (rs.drop hf) p0 p1 _ HM.out hO_0c.row (by omega) HT2.out (hU_0c.row.drop3 hf) (by omega) HA2.out).mono ?_; rintro e x0cc ⟨rfl, hw_0cc⟩)
            refine hK.out _ _ ⟨blk_next hP_0c hw_0cc, hO_0c.next hw_0cc, hU_0c.next hw_0cc, bel_next hB_0c hw_0cc⟩ (fun hHeld => ?_)
            clear hK K
            try simp only [Act.put, List.getElem_toArray, List.getElem_cons_succ, List.getElem_cons_zero, List.setIfInBounds_toArray, List.set_cons_zero, List.set_cons_succ]
            obtain ⟨hP_0cc, hO_0cc, hU_0cc, hB_0cc⟩ := id hHeld
            refine wpAnyH_take (i := 12) (oi := _) (v := ?_) rfl (by kernel_rfl) (by kernel_rfl) (by kernel_rfl) (fun _ _ _ h => h) (Or.inl ⟨by rfl, ?_⟩) (by assumption) ?_
            (rotate_left); (focus (intro wv hSw; (obtain ⟨qP, qO, qU, qB⟩ := hSw);  go_simp; (try with_reducible rfl)))
            try simp only [Act.put, List.getElem_toArray, List.getElem_cons_succ, List.getElem_cons_zero, List.setIfInBounds_toArray, List.set_cons_zero, List.set_cons_succ]
            refine wpAnyH_take (i := 14) (oi := _) (v := ?_) rfl (by kernel_rfl) (by kernel_rfl) (by kernel_rfl) (fun _ _ _ h => h) (Or.inl ⟨by rfl, ?_⟩) (by assumption) ?_
            (rotate_left); (focus (intro wv hSw; (obtain ⟨qP, qO, qU, qB⟩ := hSw);  go_simp; (try with_reducible rfl)))
            try simp only [Act.put, List.getElem_toArray, List.getElem_cons_succ, List.getElem_cons_zero, List.setIfInBounds_toArray, List.set_cons_zero, List.set_cons_succ]
            refine wpAnyH_take (i := 15) (oi := _) (v := ?_) rfl (by kernel_rfl) (by kernel_rfl) (by kernel_rfl) (fun _ _ _ h => h) (Or.inl ⟨by rfl, ?_⟩) (by assumption) ?_
            (rotate_left); (focus (intro wv hSw; (obtain ⟨qP, qO, qU, qB⟩ := hSw);  go_simp; (try with_reducible rfl)))
            try simp only [Act.put, List.getElem_toArray, List.getElem_cons_succ, List.getElem_cons_zero, List.setIfInBounds_toArray, List.set_cons_zero, List.set_cons_succ]
            refine wpAnyH_take (i := 16) (oi := _) (v := ?_) rfl (by kernel_rfl) (by kernel_rfl) (by kernel_rfl) (fun _ _ _ h => h) (Or.inl ⟨by rfl, ?_⟩) (by assumption) ?_
            (rotate_left); (focus (intro wv hSw; (obtain ⟨qP, qO, qU, qB⟩ := hSw);  go_simp; (try with_reducible rfl)))
            try simp only [Act.put, List.getElem_toArray, List.getElem_cons_succ, List.getElem_cons_zero, List.setIfInBounds_toArray, List.set_cons_zero, List.set_cons_succ]
            refine wpAnyH_take (i := 17) (oi := _) (v := ?_) rfl (by kernel_rfl) (by kernel_rfl) (by kernel_rfl) (fun _ _ _ h => h) (Or.inl ⟨by rfl, ?_⟩) (by assumption) ?_
            (rotate_left); (focus (intro wv hSw; (obtain ⟨qP, qO, qU, qB⟩ := hSw);  go_simp; (try with_reducible rfl)))
            try simp only [Act.put, List.getElem_toArray, List.getElem_cons_succ, List.getElem_cons_zero, List.setIfInBounds_toArray, List.set_cons_zero, List.set_cons_succ]
            refine wpAnyH_take (i := 18) (oi := _) (v := ?_) rfl (by kernel_rfl) (by kernel_rfl) (by kernel_rfl) (fun _ _ _ h => h) (Or.inl ⟨by rfl, ?_⟩) (by assumption) ?_
            (rotate_left); (focus (intro wv hSw; (obtain ⟨qP, qO, qU, qB⟩ := hSw);  go_simp; (try with_reducible rfl)))
            try simp only [Act.put, List.getElem_toArray, List.getElem_cons_succ, List.getElem_cons_zero, List.setIfInBounds_toArray, List.set_cons_zero, List.set_cons_succ]
            refine wpAnyH_take (i := 19) (oi := _) (v := ?_) rfl (by kernel_rfl) (by kernel_rfl) (by kernel_rfl) (fun _ _ _ h => h) (Or.inl ⟨by rfl, ?_⟩) (by assumption) ?_
            (rotate_left); (focus (intro wv hSw; (obtain ⟨qP, qO, qU, qB⟩ := hSw);  go_simp; (try with_reducible rfl)))
            try simp only [Act.put, List.getElem_toArray, List.getElem_cons_succ, List.getElem_cons_zero, List.setIfInBounds_toArray, List.set_cons_zero, List.set_cons_succ]
            refine wpAnyH_take (i := 20) (oi := _) (v := ?_) rfl (by kernel_rfl) (by kernel_rfl) (by kernel_rfl) (fun _ _ _ h => h) (Or.inl ⟨by rfl, ?_⟩) (by assumption) ?_
            (rotate_left); (focus (intro wv hSw; (obtain ⟨qP, qO, qU, qB⟩ := hSw);  go_simp; (try with_reducible rfl)))
            try simp only [Act.put, List.getElem_toArray, List.getElem_cons_succ, List.getElem_cons_zero, List.setIfInBounds_toArray, List.set_cons_zero, List.set_cons_succ]
            refine wpAnyH_take (i := 21) (oi := _) (v := ?_) rfl (by kernel_rfl) (by kernel_rfl) (by kernel_rfl) (fun _ _ _ h => h) (Or.inl ⟨by rfl, ?_⟩) (by assumption) ?_
            (rotate_left); (focus (intro wv hSw; (obtain ⟨qP, qO, qU, qB⟩ := hSw);  go_simp; (try with_reducible rfl)))
            try simp only [Act.put, List.getElem_toArray, List.getElem_cons_succ, List.getElem_cons_zero, List.setIfInBounds_toArray, List.set_cons_zero, List.set_cons_succ]
            refine wpAnyH_done (by kernel_rfl) ?_ _
            go_wp2_with fail
            go_ret
            exact ⟨rfl, hB_0cc⟩

set_option maxRecDepth 100000 in
theorem lifted (os : Os) (started : os.Started) (H : Type) (enc : TypeId × Value → H) :
    ReturnsInHanded {} Try.checked os 5 .any (Rows.fnRaysLitSpec.pre6 enc Try.prog Try.f5 Rows.fnRaysLitRow.domain false) (Rows.fnRaysLitSpec.post enc Try.prog Try.f5 false true false false) := by
  refine returnsInHanded_of_change (C := Try.checked) own started (by kernel_rfl) Try.func5
    (ChangeSpec.witness6 (enc := enc) (C := Try.checked) false ⟨#[], #[.slice none 0 0], []⟩ 8 (by kernel_rfl) (by kernel_rfl) (by kernel_rfl) (by kernel_rfl)) ?_
  intro W base args ds gs before hval0 hW hcnd _
  have hval : ∀ (j : Nat) t v, Try.f5.params[j]? = some t → args[j]? = some v → Value.okWide Try.prog W .any base t v := hval0
  have hW' := hW
  obtain ⟨p, q, hA0, hV, rfl, hfz, hnd⟩ := hW
  have hA : DataW.TrodAll enc Try.prog W 0 (fun _ => true) true Try.f5.params.toList args.toList ds p := hA0
  rw [Try.params5] at hA hval
  obtain ⟨v0, vs0, d0, ds0, p0, q0, hargs, rfl, rfl, h0, r0⟩ := trodAll_cons hA
  obtain ⟨rfl, rfl, rfl⟩ := trodAll_nil r0
  obtain rfl : args = #[v0] := by cases args; simp_all
  obtain ⟨rfl, rfl⟩ := trodVars_none hV
  have k0 := h0
  have lt0 : ∀ x ∈ p0, x.block < W.heap.size := by obtain ⟨m, hm⟩ := k0; exact DataW.trod_lt m _ _ _ hm
  obtain ⟨a0, len0, cap0, rfl⟩ := okWide_slice Try.underlying30 (hval 0 30 v0 rfl rfl)
  have w0 : CodeOk W a0 len0 cap0 := by
    obtain ⟨fuel, hf⟩ := h0
    rcases open_ints Try.underlying30 Try.underlying5 (by kernel_rfl) hf with ⟨hcs, _⟩ | ⟨x, l, c, zs, hcs, _, hl, hm, hz, _, hcell, hwz⟩
    · simp [Value.cells] at hcs
      obtain ⟨rfl, rfl, rfl⟩ := hcs
      exact code_nil W
    · simp [Value.cells] at hcs
      obtain ⟨rfl, rfl, rfl⟩ := hcs
      exact code_ok hl hm (by simp at hz; omega) hcell hwz
  clear hA0 hval0
  refine (walk W a0 len0 cap0 w0).mono fun e W' ⟨he, bel⟩ => ?_
  subst he
  exact ⟨_, rfl, _, _, _, [], _, [], hW', trodAll_mk1 (shut_bool Try.underlying4 _), (trodAll_cons_mk (Below.trod laidOut (by kernel_rfl) (of_decide_eq_true (by kernel_rfl)) k0 bel lt0) trodAll_mk0), rfl, bel.frame _, fun h => by cases h⟩

theorem over : Rows.fnRaysLitRow.holds Try.pinned (OpenSpec.ofChange Rows.fnRaysLitSpec) :=
  OpenClaim.holds_of_wide 5 Try.f5 rfl rfl rfl rfl rfl rfl rfl ⟨rfl, rfl, rfl, rfl, rfl⟩ rfl rfl rfl rfl rfl (by kernel_rfl) Try.func5 (by kernel_rfl)
    (of_decide_eq_true (by kernel_rfl)) (by unfold Func.isWrapper; first | (rw [if_pos (by decide +kernel)]; kernel_rfl) | (rw [if_neg (by decide +kernel)]; exact ⟨rfl, rfl⟩))
    (fun os started H enc _ => lifted os started H enc)

/-- The statement. -/
theorem proved : Rows.FnRaysLitSaid :=
  over
#print axioms proved
end Go.Proofs.Ytiicohbghpknhaa.fnRaysLit
