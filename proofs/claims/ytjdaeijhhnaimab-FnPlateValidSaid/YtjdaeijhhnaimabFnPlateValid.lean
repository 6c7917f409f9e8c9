/- FnPlateValid: whatever the input, the law returns true, and its arguments read as they did. No conditions beyond those of the statement's row. -/
import Derived.Test.YtjdaeijhhnaimabPn
import Derived.Test.YtjdaeijhhnaimabDq
import Derived.Test.YtjdaeijhhnaimabLp
namespace Go.Proofs.Ytjdaeijhhnaimab.fnPlateValid
open Go.Proofs.Ytjdaeijhhnaimab
open Go.ChangeShapes Go.WideShapes Go.ChangeAt Go.RowKit Go.Joins
set_option linter.unusedVariables false
set_option linter.unusedSimpArgs false
set_option linter.unnecessarySimpa false

theorem own : ownKnob Try.prog.godebug = none := by kernel_rfl
theorem laidOut : laidOutB Try.prog = true := by kernel_rfl

set_option maxRecDepth 100000 in
set_option maxHeartbeats 4000000 in
theorem walk (w : World) (a0 : Option Addr) (len0 cap0 : Nat) (w0 : CodeOk w a0 len0 cap0) :
    Calls Try.prog 3 #[.slice a0 len0 cap0] w fun e w' => e = .returned (.bool true) ∧ Below w.heap.size w w' := by
  by_cases hl : 1048576 < len0
  · have w0' := w0.2.1
    unfold maxLen at w0'
    clear w0
    go_enter Try.func3, Try.ntmps3
    go_wp2
    go_ret
    exact ⟨rfl, Below.refl _ _⟩
  · have w0' := w0.2.1
    unfold maxLen at w0'
    have hle := w0.1
    have HW := Lib.hid w0
    clear w0
    go_enter Try.func3, Try.ntmps3
    obtain ⟨i0, hi0, hz0, hz1, hz2⟩ := info_parts infoMark
    have HI := Lib.hid (And.intro hi0 (And.intro hz0 (And.intro hz1 hz2)))
    clear hi0 hz0 hz1 hz2
    go_wp2_with fail
    refine (drPlateValid_any _ _ _ _ HW.out).mono ?_; rintro e' w1 ⟨xs, g, cp, rfl, hl, hs, hO0, hB0⟩
    have HS := Lib.hid hs.q
    obtain ⟨hcap, hcm⟩ := hO0.cap
    obtain ⟨m, hm⟩ : ∃ m, xs.length = m := ⟨_, rfl⟩
    rw [hm] at hl hcap
    have HM := Lib.hid hm
    rw [HM.out]
    clear hs hm
    unfold maxLen at hcm
    have hO0 : SOwn encMark w1 w.heap.size 30 (some ⟨g, 0, none⟩) cp xs := hO0
    obtain ⟨r, hr⟩ : ∃ r, plB xs = r := ⟨_, rfl⟩
    have HR := Lib.hid hr
    go_wp2_with fail
    refine (iPV_any _ cp xs _ HM.out hO0.row HS.out (by omega) HR.out).mono ?_; rintro e' w1 ⟨rfl, hw1⟩
    have hO1 := hO0.next hw1
    have hB1 := bel_next hB0 hw1
    go_wp2_with fail
    refine (sPV_any _ cp xs _ HM.out hO1.row HS.out (by omega) HR.out).mono ?_; rintro e' w2 ⟨rfl, hw2⟩
    have hO2 := hO1.next hw2
    have hB2 := bel_next hB1 hw2
    cases r
    · clear hr
      go_wp2_with fail
      refine (iPV_any none 0 [] _ rfl (.inl rfl) (by simp) (by simp) pl_nil).mono ?_; rintro e' w3 ⟨rfl, hw3⟩
      have hO3 := hO2.next hw3
      have hB3 := bel_next hB2 hw3
      go_wp2_with fail
      refine (alive_any _).mono ?_; rintro e' w' ⟨rfl, rfl⟩
      go_wp2
      go_ret
      exact ⟨rfl, hB3⟩
    · clear hr
      by_cases h0 : m = 0
      · subst h0
        go_wp2_with fail
        refine (iPV_any none 0 [] _ rfl (.inl rfl) (by simp) (by simp) pl_nil).mono ?_; rintro e' w3 ⟨rfl, hw3⟩
        have hO3 := hO2.next hw3
        have hB3 := bel_next hB2 hw3
        go_wp2_with fail
        refine (alive_any _).mono ?_; rintro e' w' ⟨rfl, rfl⟩
        go_wp2
        go_ret
        exact ⟨rfl, hB3⟩
      · have z0 : ((m : Int) == 0) = false := by simpa using h0
        have h0l : 0 < xs.length := by rw [HM.out]; omega
        have hdl : (xs.drop 1).length = m - 1 := by rw [List.length_drop, HM.out]
        have hsd : ∀ v ∈ xs.drop 1, v.2.2.size ≤ maxLen := fun v hv => HS.out v (List.mem_of_mem_drop hv)
        have HDL := Lib.hid hdl
        have HSD := Lib.hid hsd
        clear hdl hsd
        by_cases hc : cp = 1
        · have h11 : (1 : Nat) ≤ 1 := Nat.le_refl 1
          have hm1 : m = 1 := by omega
          subst hm1
          subst hc
          have hnil : xs.drop 1 = [] := List.drop_eq_nil_of_le (by rw [HM.out]; exact Nat.le_refl 1)
          have HL := Lib.hid hnil
          clear hnil
          go_wp2_with fail
          refine wp_region_held_drew (S := (fun w' => SOwn encMark w' w.heap.size 30 (some ⟨g, 0, none⟩) 1 xs ∧ Below w.heap.size w w')) (by kernel_rfl) ⟨hO2.drew, hB2.drew⟩ (fun hHeld => ?_)
          obtain ⟨hO_0, hB_0⟩ := id hHeld
          refine wpAnyH_take (i := 0) (oi := _) (v := ?_) rfl (by kernel_rfl) (by kernel_rfl) (by kernel_rfl) (fun _ _ _ h => h) (Or.inl ⟨by rfl, ?_⟩) (by assumption) ?_
          (rotate_left); (focus (intro wv hSw; (obtain ⟨qO, qB⟩ := hSw);  go_simp; (try with_reducible rfl); (try omega)))
          try simp only [Act.put, List.getElem_toArray, List.getElem_cons_succ, List.getElem_cons_zero, List.setIfInBounds_toArray, List.set_cons_zero, List.set_cons_succ]
          refine wpAnyH_take (i := 1) (oi := _) (v := ?_) rfl (by kernel_rfl) (by kernel_rfl) (by kernel_rfl) (fun _ _ _ h => h) (Or.inl ⟨by rfl, ?_⟩) (by assumption) ?_
          (rotate_left); (focus (intro wv hSw; (obtain ⟨qO, qB⟩ := hSw);  go_simp; (try with_reducible rfl); (try omega)))
          try simp only [Act.put, List.getElem_toArray, List.getElem_cons_succ, List.getElem_cons_zero, List.setIfInBounds_toArray, List.set_cons_zero, List.set_cons_succ]
          refine wpAnyH_ready (rs := [2]) (by kernel_rfl) (by simp) ?_
          refine AllReadyH.cons (o := _) rfl (fun K hK => ?_) AllReadyH.nil
          go_simp
          (go_at_call 8; refine (iPV_any _ 0 (xs.drop 1) _ HDL.out (.inl HL.out) HSD.out (by omega) (pl_tail HR.out)).mono ?_; rintro e x0c ⟨rfl, hw_0c⟩)
          refine hK.out _ _ ⟨hO_0.next hw_0c, bel_next hB_0 hw_0c⟩ (fun hHeld => ?_)
          clear hK K
          try simp only [Act.put, List.getElem_toArray, List.getElem_cons_succ, List.getElem_cons_zero, List.setIfInBounds_toArray, List.set_cons_zero, List.set_cons_succ]
          obtain ⟨hO_0c, hB_0c⟩ := id hHeld
          refine wpAnyH_take (i := 3) (oi := _) (v := ?_) rfl (by kernel_rfl) (by kernel_rfl) (by kernel_rfl) (fun _ _ _ h => h) (Or.inl ⟨by rfl, ?_⟩) (by assumption) ?_
          (rotate_left); (focus (intro wv hSw; (obtain ⟨qO, qB⟩ := hSw);  go_simp; (try with_reducible rfl); (try omega)))
          try simp only [Act.put, List.getElem_toArray, List.getElem_cons_succ, List.getElem_cons_zero, List.setIfInBounds_toArray, List.set_cons_zero, List.set_cons_succ]
          refine wpAnyH_take (i := 5) (oi := _) (v := ?_) rfl (by kernel_rfl) (by kernel_rfl) (by kernel_rfl) (fun _ _ _ h => h) (Or.inl ⟨by rfl, ?_⟩) (by assumption) ?_
          (rotate_left); (focus (intro wv hSw; (obtain ⟨qO, qB⟩ := hSw);  go_simp; (try with_reducible rfl); (try omega)))
          try simp only [Act.put, List.getElem_toArray, List.getElem_cons_succ, List.getElem_cons_zero, List.setIfInBounds_toArray, List.set_cons_zero, List.set_cons_succ]
          refine wpAnyH_take (i := 7) (oi := _) (v := ?_) rfl (by kernel_rfl) (by kernel_rfl) (by kernel_rfl) (fun _ _ _ h => h) (Or.inl ⟨by rfl, ?_⟩) (by assumption) ?_
          (rotate_left); (focus (intro wv hSw; (obtain ⟨qO, qB⟩ := hSw);  go_simp; (try with_reducible rfl); (try omega)))
          try simp only [Act.put, List.getElem_toArray, List.getElem_cons_succ, List.getElem_cons_zero, List.setIfInBounds_toArray, List.set_cons_zero, List.set_cons_succ]
          refine wpAnyH_take (i := 8) (oi := _) (v := ?_) rfl (by kernel_rfl) (by kernel_rfl) (by kernel_rfl) (fun _ _ _ h => h) (Or.inl ⟨by rfl, ?_⟩) (by assumption) ?_
          (rotate_left); (focus (intro wv hSw; (obtain ⟨qO, qB⟩ := hSw);  go_simp; (try with_reducible rfl); (try omega)))
          try simp only [Act.put, List.getElem_toArray, List.getElem_cons_succ, List.getElem_cons_zero, List.setIfInBounds_toArray, List.set_cons_zero, List.set_cons_succ]
          refine wpAnyH_take (i := 9) (oi := _) (v := ?_) rfl (by kernel_rfl) (by kernel_rfl) (by kernel_rfl) (fun _ _ _ h => h) (Or.inl ⟨by rfl, ?_⟩) (by assumption) ?_
          (rotate_left); (focus (intro wv hSw; (obtain ⟨qO, qB⟩ := hSw); obtain ⟨u0, u1, u2⟩ := ownMark qO (i := 0) h0l; go_simp; (try with_reducible rfl); (try omega)))
          try simp only [Act.put, List.getElem_toArray, List.getElem_cons_succ, List.getElem_cons_zero, List.setIfInBounds_toArray, List.set_cons_zero, List.set_cons_succ]
          have hgl : g < x0c.heap.size := by obtain ⟨z, z1, _, z2⟩ := hO_0c.at_ h0l; simp only [Option.some.injEq, Addr.mk.injEq] at z1; omega
          have hO_x := hO_0c
          have hB_x := hB_0c
          have hwx := hB_x.size
          clear hHeld hO_0 hB_0 hO_0c hB_0c
          refine wpAnyH_ready (rs := [4, 10]) (by kernel_rfl) (by simp) ?_
          refine AllReadyH.cons (o := _) rfl (fun K hK => ?_) ?_
          · go_simp
            have hE := SOwn.empty (E := encMark) (blk_new x0c (.cells #[] 30)) hB_x.size
            have hO_x := hO_x.alloc (.cells #[] 30)
            have hB_x := hB_x.alloc hB_x.size (.cells #[] 30)
            refine hK.out _ _ ⟨hO_x, hB_x⟩ (fun hHeld => ?_)
            clear hK K
            try simp only [Act.put, List.getElem_toArray, List.getElem_cons_succ, List.getElem_cons_zero, List.setIfInBounds_toArray, List.set_cons_zero, List.set_cons_succ]
            refine wpAnyH_ready (rs := [6, 10]) (by kernel_rfl) (by simp) ?_
            refine AllReadyH.cons (o := _) rfl (fun K hK => ?_) ?_
            · rw [if_pos (by rfl)]
              refine wp_append_lies (x0c.alloc (.cells #[] 30)) (.tmp 31) (.tmp 32) _ rfl w.heap.size 30 i0 _ 3 32 Try.underlying23 HI.out.1 HI.out.2.1 HI.out.2.2.1 HI.out.2.2.2 rfl (by omega) (.slice (some ⟨x0c.heap.size, 0, none⟩) 0 0) 0 [] rfl hE ⟨g, 0, none⟩ 1 1 (encMark.flat xs) rfl (by rw [encMark.flat_len, HM.out]; rfl) (World.ownsRow.cells hO_x (g := g) rfl) (encMark.flat_one _) (by omega) (by simp only [maxLen]; omega) (by omega) hB_x.size _ rfl ?_; intro g5 cap5 w5 hown5 hgr5 hat5 hlt5
              rw [Nat.zero_add] at hown5
              have hg5 : x0c.heap.size ≤ g5 := by
                rcases hat5 with h | h
                · simp only [Value.ownBlock, Option.some.injEq] at h; omega
                · rw [h]; simp; try omega
              have hO_x := hO_x.grown_far hgr5 (fun g9 e9 e8 => by simp only [Value.ownBlock, Option.some.injEq, Addr.mk.injEq] at e8 e9; omega)
              have hB_x := hB_x.grown hgr5 hB_x.size (fun j hj => by simp only [Value.ownBlock, Option.some.injEq] at hj; omega)
              refine hK.out _ _ ⟨hO_x, hB_x⟩ (fun hHeld => ?_)
              clear hK K
              try simp only [Act.put, List.getElem_toArray, List.getElem_cons_succ, List.getElem_cons_zero, List.setIfInBounds_toArray, List.set_cons_zero, List.set_cons_succ]
              try simp only [Nat.zero_add]
              refine wpAnyH_ready (rs := [10]) (by kernel_rfl) (by simp) ?_
              refine AllReadyH.cons (o := _) rfl (fun K hK => ?_) AllReadyH.nil
              go_simp
              have hN := blk_new w5 (.cells (encMark.enc xs[0]).toArray 30)
              have hown5 := World.ownsRow.alloc hown5 (.cells (encMark.enc xs[0]).toArray 30)
              have hO_x := hO_x.alloc (.cells (encMark.enc xs[0]).toArray 30)
              have hB_x := hB_x.alloc hB_x.size (.cells (encMark.enc xs[0]).toArray 30)
              refine hK.out _ _ ⟨hO_x, hB_x⟩ (fun hHeld => ?_)
              clear hK K
              try simp only [Act.put, List.getElem_toArray, List.getElem_cons_succ, List.getElem_cons_zero, List.setIfInBounds_toArray, List.set_cons_zero, List.set_cons_succ]
              refine wpAnyH_ready (rs := [11]) (by kernel_rfl) (by simp) ?_
              refine AllReadyH.cons (o := _) rfl (fun K hK => ?_) AllReadyH.nil
              rw [if_pos (by rfl)]
              refine wp_append_lies (w5.alloc (.cells (encMark.enc xs[0]).toArray 30)) (.tmp 33) (.tmp 37) _ rfl w.heap.size 30 i0 _ 3 32 Try.underlying23 HI.out.1 HI.out.2.1 HI.out.2.2.1 HI.out.2.2.2 rfl (by omega) (.slice (some ⟨g5, 0, none⟩) 1 cap5) 1 ([] ++ encMark.flat xs) rfl hown5 ⟨w5.heap.size, 0, none⟩ 1 1 (encMark.enc xs[0]) rfl rfl (newsMark hN) (encMark.one _) (by omega) (by simp only [maxLen]; omega) (by omega) hB_x.size _ rfl ?_; intro g6 cap6 w6 hown6 hgr6 hat6 hlt6
              have hO_x := hO_x.grown_far hgr6 (fun g9 e9 e8 => by simp only [Value.ownBlock, Option.some.injEq, Addr.mk.injEq] at e8 e9; omega)
              have hB_x := hB_x.grown hgr6 hB_x.size (fun j hj => by simp only [Value.ownBlock, Option.some.injEq] at hj; omega)
              have hZ := SOwn.of_raw (E := encMark) (ys := xs ++ [xs[0]]) hown6 (by rw [List.nil_append, encMark.flat_snoc]) (by simp [HM.out])
              refine hK.out _ _ ⟨hO_x, hB_x⟩ (fun hHeld => ?_)
              clear hK K
              try simp only [Act.put, List.getElem_toArray, List.getElem_cons_succ, List.getElem_cons_zero, List.setIfInBounds_toArray, List.set_cons_zero, List.set_cons_succ]
              refine wpAnyH_ready (rs := [12]) (by kernel_rfl) (by simp) ?_
              refine AllReadyH.cons (o := _) rfl (fun K hK => ?_) AllReadyH.nil
              go_simp
              (go_at_call 8; refine (iPV_any _ cap6 (xs ++ [xs[0]]) _ (by simp [HM.out]) hZ.row (small_snoc HS.out h0l) (by omega) (pl_dup HR.out h0l)).mono ?_; rintro e w7 ⟨rfl, hw7⟩)
              have hO_x := hO_x.next hw7
              have hB_x := bel_next hB_x hw7
              refine hK.out _ _ ⟨hO_x, hB_x⟩ (fun hHeld => ?_)
              clear hK K
              try simp only [Act.put, List.getElem_toArray, List.getElem_cons_succ, List.getElem_cons_zero, List.setIfInBounds_toArray, List.set_cons_zero, List.set_cons_succ]
              refine wpAnyH_take (i := 13) (oi := _) (v := ?_) rfl (by kernel_rfl) (by kernel_rfl) (by kernel_rfl) (fun _ _ _ h => h) (Or.inl ⟨by rfl, ?_⟩) (by assumption) ?_
              (rotate_left); (focus (intro wv hSw; (obtain ⟨qO, qB⟩ := hSw);  go_simp; (try with_reducible rfl)))
              try simp only [Act.put, List.getElem_toArray, List.getElem_cons_succ, List.getElem_cons_zero, List.setIfInBounds_toArray, List.set_cons_zero, List.set_cons_succ]
              refine wpAnyH_take (i := 14) (oi := _) (v := ?_) rfl (by kernel_rfl) (by kernel_rfl) (by kernel_rfl) (fun _ _ _ h => h) (Or.inl ⟨by rfl, ?_⟩) (by assumption) ?_
              (rotate_left); (focus (intro wv hSw; (obtain ⟨qO, qB⟩ := hSw);  go_simp; (try with_reducible rfl)))
              try simp only [Act.put, List.getElem_toArray, List.getElem_cons_succ, List.getElem_cons_zero, List.setIfInBounds_toArray, List.set_cons_zero, List.set_cons_succ]
              refine wpAnyH_take (i := 15) (oi := _) (v := ?_) rfl (by kernel_rfl) (by kernel_rfl) (by kernel_rfl) (fun _ _ _ h => h) (Or.inl ⟨by rfl, ?_⟩) (by assumption) ?_
              (rotate_left); (focus (intro wv hSw; (obtain ⟨qO, qB⟩ := hSw);  go_simp; (try with_reducible rfl)))
              try simp only [Act.put, List.getElem_toArray, List.getElem_cons_succ, List.getElem_cons_zero, List.setIfInBounds_toArray, List.set_cons_zero, List.set_cons_succ]
              refine wpAnyH_done (by kernel_rfl) ?_ _
              go_wp2_with fail
              go_ret
              exact ⟨rfl, hB_x⟩
            · refine AllReadyH.cons (o := _) rfl (fun K hK => ?_) AllReadyH.nil
              go_simp
              have hN := blk_new (x0c.alloc (.cells #[] 30)) (.cells (encMark.enc xs[0]).toArray 30)
              have eS : (x0c.alloc (.cells #[] 30)).heap.size = x0c.heap.size + 1 := by simp
              rw [eS] at hN
              have hE := World.ownsRow.alloc hE (.cells (encMark.enc xs[0]).toArray 30)
              have hO_x := hO_x.alloc (.cells (encMark.enc xs[0]).toArray 30)
              have hB_x := hB_x.alloc hB_x.size (.cells (encMark.enc xs[0]).toArray 30)
              refine hK.out _ _ ⟨hO_x, hB_x⟩ (fun hHeld => ?_)
              clear hK K
              try simp only [Act.put, List.getElem_toArray, List.getElem_cons_succ, List.getElem_cons_zero, List.setIfInBounds_toArray, List.set_cons_zero, List.set_cons_succ]
              refine wpAnyH_ready (rs := [6]) (by kernel_rfl) (by simp) ?_
              refine AllReadyH.cons (o := _) rfl (fun K hK => ?_) AllReadyH.nil
              rw [if_pos (by rfl)]
              refine wp_append_lies ((x0c.alloc (.cells #[] 30)).alloc (.cells (encMark.enc xs[0]).toArray 30)) (.tmp 31) (.tmp 32) _ rfl w.heap.size 30 i0 _ 3 32 Try.underlying23 HI.out.1 HI.out.2.1 HI.out.2.2.1 HI.out.2.2.2 rfl (by omega) (.slice (some ⟨x0c.heap.size, 0, none⟩) 0 0) 0 [] rfl hE ⟨g, 0, none⟩ 1 1 (encMark.flat xs) rfl (by rw [encMark.flat_len, HM.out]; rfl) (World.ownsRow.cells hO_x (g := g) rfl) (encMark.flat_one _) (by omega) (by simp only [maxLen]; omega) (by omega) hB_x.size _ rfl ?_; intro g5 cap5 w5 hown5 hgr5 hat5 hlt5
              rw [Nat.zero_add] at hown5
              have hg5 : x0c.heap.size ≤ g5 := by
                rcases hat5 with h | h
                · simp only [Value.ownBlock, Option.some.injEq] at h; omega
                · rw [h]; simp; try omega
              have hN := blkGrown hN hgr5 (by simp [Value.ownBlock]; try omega)
              have hO_x := hO_x.grown_far hgr5 (fun g9 e9 e8 => by simp only [Value.ownBlock, Option.some.injEq, Addr.mk.injEq] at e8 e9; omega)
              have hB_x := hB_x.grown hgr5 hB_x.size (fun j hj => by simp only [Value.ownBlock, Option.some.injEq] at hj; omega)
              refine hK.out _ _ ⟨hO_x, hB_x⟩ (fun hHeld => ?_)
              clear hK K
              try simp only [Act.put, List.getElem_toArray, List.getElem_cons_succ, List.getElem_cons_zero, List.setIfInBounds_toArray, List.set_cons_zero, List.set_cons_succ]
              try simp only [Nat.zero_add]
              refine wpAnyH_ready (rs := [11]) (by kernel_rfl) (by simp) ?_
              refine AllReadyH.cons (o := _) rfl (fun K hK => ?_) AllReadyH.nil
              rw [if_pos (by rfl)]
              refine wp_append_lies w5 (.tmp 33) (.tmp 37) _ rfl w.heap.size 30 i0 _ 3 32 Try.underlying23 HI.out.1 HI.out.2.1 HI.out.2.2.1 HI.out.2.2.2 rfl (by omega) (.slice (some ⟨g5, 0, none⟩) 1 cap5) 1 ([] ++ encMark.flat xs) rfl hown5 ⟨x0c.heap.size + 1, 0, none⟩ 1 1 (encMark.enc xs[0]) rfl rfl (newsMark hN) (encMark.one _) (by omega) (by simp only [maxLen]; omega) (by omega) hB_x.size _ rfl ?_; intro g6 cap6 w6 hown6 hgr6 hat6 hlt6
              have hO_x := hO_x.grown_far hgr6 (fun g9 e9 e8 => by simp only [Value.ownBlock, Option.some.injEq, Addr.mk.injEq] at e8 e9; omega)
              have hB_x := hB_x.grown hgr6 hB_x.size (fun j hj => by simp only [Value.ownBlock, Option.some.injEq] at hj; omega)
              have hZ := SOwn.of_raw (E := encMark) (ys := xs ++ [xs[0]]) hown6 (by rw [List.nil_append, encMark.flat_snoc]) (by simp [HM.out])
              refine hK.out _ _ ⟨hO_x, hB_x⟩ (fun hHeld => ?_)
              clear hK K
              try simp only [Act.put, List.getElem_toArray, List.getElem_cons_succ, List.getElem_cons_zero, List.setIfInBounds_toArray, List.set_cons_zero, List.set_cons_succ]
              refine wpAnyH_ready (rs := [12]) (by kernel_rfl) (by simp) ?_
              refine AllReadyH.cons (o := _) rfl (fun K hK => ?_) AllReadyH.nil
              go_simp
              (go_at_call 8; refine (iPV_any _ cap6 (xs ++ [xs[0]]) _ (by simp [HM.out]) hZ.row (small_snoc HS.out h0l) (by omega) (pl_dup HR.out h0l)).mono ?_; rintro e w7 ⟨rfl, hw7⟩)
              have hO_x := hO_x.next hw7
              have hB_x := bel_next hB_x hw7
              refine hK.out _ _ ⟨hO_x, hB_x⟩ (fun hHeld => ?_)
              clear hK K
              try simp only [Act.put, List.getElem_toArray, List.getElem_cons_succ, List.getElem_cons_zero, List.setIfInBounds_toArray, List.set_cons_zero, List.set_cons_succ]
              refine wpAnyH_take (i := 13) (oi := _) (v := ?_) rfl (by kernel_rfl) (by kernel_rfl) (by kernel_rfl) (fun _ _ _ h => h) (Or.inl ⟨by rfl, ?_⟩) (by assumption) ?_
              (rotate_left); (focus (intro wv hSw; (obtain ⟨qO, qB⟩ := hSw);  go_simp; (try with_reducible rfl)))
              try simp only [Act.put, List.getElem_toArray, List.getElem_cons_succ, List.getElem_cons_zero, List.setIfInBounds_toArray, List.set_cons_zero, List.set_cons_succ]
              refine wpAnyH_take (i := 14) (oi := _) (v := ?_) rfl (by kernel_rfl) (by kernel_rfl) (by kernel_rfl) (fun _ _ _ h => h) (Or.inl ⟨by rfl, ?_⟩) (by assumption) ?_
              (rotate_left); (focus (intro wv hSw; (obtain ⟨qO, qB⟩ := hSw);  go_simp; (try with_reducible rfl)))
              try simp only [Act.put, List.getElem_toArray, List.getElem_cons_succ, List.getElem_cons_zero, List.setIfInBounds_toArray, List.set_cons_zero, List.set_cons_succ]
              refine wpAnyH_take (i := 15) (oi := _) (v := ?_) rfl (by kernel_rfl) (by kernel_rfl) (by kernel_rfl) (fun _ _ _ h => h) (Or.inl ⟨by rfl, ?_⟩) (by assumption) ?_
              (rotate_left); (focus (intro wv hSw; (obtain ⟨qO, qB⟩ := hSw);  go_simp; (try with_reducible rfl)))
              try simp only [Act.put, List.getElem_toArray, List.getElem_cons_succ, List.getElem_cons_zero, List.setIfInBounds_toArray, List.set_cons_zero, List.set_cons_succ]
              refine wpAnyH_done (by kernel_rfl) ?_ _
              go_wp2_with fail
              go_ret
              exact ⟨rfl, hB_x⟩
          · refine AllReadyH.cons (o := _) rfl (fun K hK => ?_) AllReadyH.nil
            go_simp
            have hN := blk_new x0c (.cells (encMark.enc xs[0]).toArray 30)
            have hO_x := hO_x.alloc (.cells (encMark.enc xs[0]).toArray 30)
            have hB_x := hB_x.alloc hB_x.size (.cells (encMark.enc xs[0]).toArray 30)
            refine hK.out _ _ ⟨hO_x, hB_x⟩ (fun hHeld => ?_)
            clear hK K
            try simp only [Act.put, List.getElem_toArray, List.getElem_cons_succ, List.getElem_cons_zero, List.setIfInBounds_toArray, List.set_cons_zero, List.set_cons_succ]
            refine wpAnyH_ready (rs := [4]) (by kernel_rfl) (by simp) ?_
            refine AllReadyH.cons (o := _) rfl (fun K hK => ?_) AllReadyH.nil
            go_simp
            have hE := SOwn.empty (E := encMark) (blk_new (x0c.alloc (.cells (encMark.enc xs[0]).toArray 30)) (.cells #[] 30)) hB_x.size
            have eS : (x0c.alloc (.cells (encMark.enc xs[0]).toArray 30)).heap.size = x0c.heap.size + 1 := by simp
            rw [eS] at hE
            have hN := blk_old hN (.cells #[] 30)
            have hO_x := hO_x.alloc (.cells #[] 30)
            have hB_x := hB_x.alloc hB_x.size (.cells #[] 30)
            refine hK.out _ _ ⟨hO_x, hB_x⟩ (fun hHeld => ?_)
            clear hK K
            try simp only [Act.put, List.getElem_toArray, List.getElem_cons_succ, List.getElem_cons_zero, List.setIfInBounds_toArray, List.set_cons_zero, List.set_cons_succ]
            refine wpAnyH_ready (rs := [6]) (by kernel_rfl) (by simp) ?_
            refine AllReadyH.cons (o := _) rfl (fun K hK => ?_) AllReadyH.nil
            rw [if_pos (by rfl)]
            refine wp_append_lies ((x0c.alloc (.cells (encMark.enc xs[0]).toArray 30)).alloc (.cells #[] 30)) (.tmp 31) (.tmp 32) _ rfl w.heap.size 30 i0 _ 3 32 Try.underlying23 HI.out.1 HI.out.2.1 HI.out.2.2.1 HI.out.2.2.2 rfl (by omega) (.slice (some ⟨x0c.heap.size + 1, 0, none⟩) 0 0) 0 [] rfl hE ⟨g, 0, none⟩ 1 1 (encMark.flat xs) rfl (by rw [encMark.flat_len, HM.out]; rfl) (World.ownsRow.cells hO_x (g := g) rfl) (encMark.flat_one _) (by omega) (by simp only [maxLen]; omega) (by omega) hB_x.size _ rfl ?_; intro g5 cap5 w5 hown5 hgr5 hat5 hlt5
            rw [Nat.zero_add] at hown5
            have hg5 : x0c.heap.size ≤ g5 := by
              rcases hat5 with h | h
              · simp only [Value.ownBlock, Option.some.injEq] at h; omega
              · rw [h]; simp; try omega
            have hN := blkGrown hN hgr5 (by simp [Value.ownBlock]; try omega)
            have hO_x := hO_x.grown_far hgr5 (fun g9 e9 e8 => by simp only [Value.ownBlock, Option.some.injEq, Addr.mk.injEq] at e8 e9; omega)
            have hB_x := hB_x.grown hgr5 hB_x.size (fun j hj => by simp only [Value.ownBlock, Option.some.injEq] at hj; omega)
            refine hK.out _ _ ⟨hO_x, hB_x⟩ (fun hHeld => ?_)
            clear hK K
            try simp only [Act.put, List.getElem_toArray, List.getElem_cons_succ, List.getElem_cons_zero, List.setIfInBounds_toArray, List.set_cons_zero, List.set_cons_succ]
            try simp only [Nat.zero_add]
            refine wpAnyH_ready (rs := [11]) (by kernel_rfl) (by simp) ?_
            refine AllReadyH.cons (o := _) rfl (fun K hK => ?_) AllReadyH.nil
            rw [if_pos (by rfl)]
            refine wp_append_lies w5 (.tmp 33) (.tmp 37) _ rfl w.heap.size 30 i0 _ 3 32 Try.underlying23 HI.out.1 HI.out.2.1 HI.out.2.2.1 HI.out.2.2.2 rfl (by omega) (.slice (some ⟨g5, 0, none⟩) 1 cap5) 1 ([] ++ encMark.flat xs) rfl hown5 ⟨x0c.heap.size, 0, none⟩ 1 1 (encMark.enc xs[0]) rfl rfl (newsMark hN) (encMark.one _) (by omega) (by simp only [maxLen]; omega) (by omega) hB_x.size _ rfl ?_; intro g6 cap6 w6 hown6 hgr6 hat6 hlt6
            have hO_x := hO_x.grown_far hgr6 (fun g9 e9 e8 => by simp only [Value.ownBlock, Option.some.injEq, Addr.mk.injEq] at e8 e9; omega)
            have hB_x := hB_x.grown hgr6 hB_x.size (fun j hj => by simp only [Value.ownBlock, Option.some.injEq] at hj; omega)
            have hZ := SOwn.of_raw (E := encMark) (ys := xs ++ [xs[0]]) hown6 (by rw [List.nil_append, encMark.flat_snoc]) (by simp [HM.out])
            refine hK.out _ _ ⟨hO_x, hB_x⟩ (fun hHeld => ?_)
            clear hK K
            try simp only [Act.put, List.getElem_toArray, List.getElem_cons_succ, List.getElem_cons_zero, List.setIfInBounds_toArray, List.set_cons_zero, List.set_cons_succ]
            refine wpAnyH_ready (rs := [12]) (by kernel_rfl) (by simp) ?_
            refine AllReadyH.cons (o := _) rfl (fun K hK => ?_) AllReadyH.nil
            go_simp
            (go_at_call 8; refine (iPV_any _ cap6 (xs ++ [xs[0]]) _ (by simp [HM.out]) hZ.row (small_snoc HS.out h0l) (by omega) (pl_dup HR.out h0l)).mono ?_; rintro e w7 ⟨rfl, hw7⟩)
            have hO_x := hO_x.next hw7
            have hB_x := bel_next hB_x hw7
            refine hK.out _ _ ⟨hO_x, hB_x⟩ (fun hHeld => ?_)
            clear hK K
            try simp only [Act.put, List.getElem_toArray, List.getElem_cons_succ, List.getElem_cons_zero, List.setIfInBounds_toArray, List.set_cons_zero, List.set_cons_succ]
            refine wpAnyH_take (i := 13) (oi := _) (v := ?_) rfl (by kernel_rfl) (by kernel_rfl) (by kernel_rfl) (fun _ _ _ h => h) (Or.inl ⟨by rfl, ?_⟩) (by assumption) ?_
            (rotate_left); (focus (intro wv hSw; (obtain ⟨qO, qB⟩ := hSw);  go_simp; (try with_reducible rfl)))
            try simp only [Act.put, List.getElem_toArray, List.getElem_cons_succ, List.getElem_cons_zero, List.setIfInBounds_toArray, List.set_cons_zero, List.set_cons_succ]
            refine wpAnyH_take (i := 14) (oi := _) (v := ?_) rfl (by kernel_rfl) (by kernel_rfl) (by kernel_rfl) (fun _ _ _ h => h) (Or.inl ⟨by rfl, ?_⟩) (by assumption) ?_
            (rotate_left); (focus (intro wv hSw; (obtain ⟨qO, qB⟩ := hSw);  go_simp; (try with_reducible rfl)))
            try simp only [Act.put, List.getElem_toArray, List.getElem_cons_succ, List.getElem_cons_zero, List.setIfInBounds_toArray, List.set_cons_zero, List.set_cons_succ]
            refine wpAnyH_take (i := 15) (oi := _) (v := ?_) rfl (by kernel_rfl) (by kernel_rfl) (by kernel_rfl) (fun _ _ _ h => h) (Or.inl ⟨by rfl, ?_⟩) (by assumption) ?_
            (rotate_left); (focus (intro wv hSw; (obtain ⟨qO, qB⟩ := hSw);  go_simp; (try with_reducible rfl)))
            try simp only [Act.put, List.getElem_toArray, List.getElem_cons_succ, List.getElem_cons_zero, List.setIfInBounds_toArray, List.set_cons_zero, List.set_cons_succ]
            refine wpAnyH_done (by kernel_rfl) ?_ _
            go_wp2_with fail
            go_ret
            exact ⟨rfl, hB_x⟩
        · have hc1 : ¬ cp = 1 := hc
          have hmi : (1 : Int) ≤ (m : Int) := by omega
          have hmn : 1 ≤ m := by omega
          have hmi0 : (0 : Int) < (m : Int) := by omega
          have hmn0 : 0 < m := by omega
          have hm1 : IntKind.i64.wrap ((m : Int) - 1) = (m : Int) - 1 := IntWalk.i64_in _ (by omega)
          go_wp2_with fail
          refine wp_region_held_drew (S := (fun w' => SOwn encMark w' w.heap.size 30 (some ⟨g, 0, none⟩) cp xs ∧ Below w.heap.size w w')) (by kernel_rfl) ⟨hO2.drew, hB2.drew⟩ (fun hHeld => ?_)
          obtain ⟨hO_0, hB_0⟩ := id hHeld
          refine wpAnyH_take (i := 0) (oi := _) (v := ?_) rfl (by kernel_rfl) (by kernel_rfl) (by kernel_rfl) (fun _ _ _ h => h) (Or.inl ⟨by rfl, ?_⟩) (by assumption) ?_
          (rotate_left); (focus (intro wv hSw; (obtain ⟨qO, qB⟩ := hSw);  go_simp; (try with_reducible rfl); (try omega)))
          try simp only [Act.put, List.getElem_toArray, List.getElem_cons_succ, List.getElem_cons_zero, List.setIfInBounds_toArray, List.set_cons_zero, List.set_cons_succ]
          refine wpAnyH_take (i := 1) (oi := _) (v := ?_) rfl (by kernel_rfl) (by kernel_rfl) (by kernel_rfl) (fun _ _ _ h => h) (Or.inl ⟨by rfl, ?_⟩) (by assumption) ?_
          (rotate_left); (focus (intro wv hSw; (obtain ⟨qO, qB⟩ := hSw);  go_simp; (try with_reducible rfl); (try omega)))
          try simp only [Act.put, List.getElem_toArray, List.getElem_cons_succ, List.getElem_cons_zero, List.setIfInBounds_toArray, List.set_cons_zero, List.set_cons_succ]
          refine wpAnyH_ready (rs := [2]) (by kernel_rfl) (by simp) ?_
          refine AllReadyH.cons (o := _) rfl (fun K hK => ?_) AllReadyH.nil
          go_simp
          (go_at_call 8; refine (iPV_any _ (cp - 1) (xs.drop 1) _ HDL.out (tailMark hO_0) HSD.out (by omega) (pl_tail HR.out)).mono ?_; rintro e x0c ⟨rfl, hw_0c⟩)
          refine hK.out _ _ ⟨hO_0.next hw_0c, bel_next hB_0 hw_0c⟩ (fun hHeld => ?_)
          clear hK K
          try simp only [Act.put, List.getElem_toArray, List.getElem_cons_succ, List.getElem_cons_zero, List.setIfInBounds_toArray, List.set_cons_zero, List.set_cons_succ]
          obtain ⟨hO_0c, hB_0c⟩ := id hHeld
          refine wpAnyH_take (i := 3) (oi := _) (v := ?_) rfl (by kernel_rfl) (by kernel_rfl) (by kernel_rfl) (fun _ _ _ h => h) (Or.inl ⟨by rfl, ?_⟩) (by assumption) ?_
          (rotate_left); (focus (intro wv hSw; (obtain ⟨qO, qB⟩ := hSw);  go_simp; (try with_reducible rfl); (try omega)))
          try simp only [Act.put, List.getElem_toArray, List.getElem_cons_succ, List.getElem_cons_zero, List.setIfInBounds_toArray, List.set_cons_zero, List.set_cons_succ]
          refine wpAnyH_take (i := 5) (oi := _) (v := ?_) rfl (by kernel_rfl) (by kernel_rfl) (by kernel_rfl) (fun _ _ _ h => h) (Or.inl ⟨by rfl, ?_⟩) (by assumption) ?_
          (rotate_left); (focus (intro wv hSw; (obtain ⟨qO, qB⟩ := hSw);  go_simp; (try with_reducible rfl); (try omega)))
          try simp only [Act.put, List.getElem_toArray, List.getElem_cons_succ, List.getElem_cons_zero, List.setIfInBounds_toArray, List.set_cons_zero, List.set_cons_succ]
          refine wpAnyH_take (i := 7) (oi := _) (v := ?_) rfl (by kernel_rfl) (by kernel_rfl) (by kernel_rfl) (fun _ _ _ h => h) (Or.inl ⟨by rfl, ?_⟩) (by assumption) ?_
          (rotate_left); (focus (intro wv hSw; (obtain ⟨qO, qB⟩ := hSw);  go_simp; (try with_reducible rfl); (try omega)))
          try simp only [Act.put, List.getElem_toArray, List.getElem_cons_succ, List.getElem_cons_zero, List.setIfInBounds_toArray, List.set_cons_zero, List.set_cons_succ]
          refine wpAnyH_take (i := 8) (oi := _) (v := ?_) rfl (by kernel_rfl) (by kernel_rfl) (by kernel_rfl) (fun _ _ _ h => h) (Or.inl ⟨by rfl, ?_⟩) (by assumption) ?_
          (rotate_left); (focus (intro wv hSw; (obtain ⟨qO, qB⟩ := hSw);  go_simp; (try with_reducible rfl); (try omega)))
          try simp only [Act.put, List.getElem_toArray, List.getElem_cons_succ, List.getElem_cons_zero, List.setIfInBounds_toArray, List.set_cons_zero, List.set_cons_succ]
          refine wpAnyH_take (i := 9) (oi := _) (v := ?_) rfl (by kernel_rfl) (by kernel_rfl) (by kernel_rfl) (fun _ _ _ h => h) (Or.inl ⟨by rfl, ?_⟩) (by assumption) ?_
          (rotate_left); (focus (intro wv hSw; (obtain ⟨qO, qB⟩ := hSw); obtain ⟨u0, u1, u2⟩ := ownMark qO (i := 0) h0l; go_simp; (try with_reducible rfl); (try omega)))
          try simp only [Act.put, List.getElem_toArray, List.getElem_cons_succ, List.getElem_cons_zero, List.setIfInBounds_toArray, List.set_cons_zero, List.set_cons_succ]
          have hgl : g < x0c.heap.size := by obtain ⟨z, z1, _, z2⟩ := hO_0c.at_ h0l; simp only [Option.some.injEq, Addr.mk.injEq] at z1; omega
          have hO_x := hO_0c
          have hB_x := hB_0c
          have hwx := hB_x.size
          clear hHeld hO_0 hB_0 hO_0c hB_0c
          refine wpAnyH_ready (rs := [4, 10]) (by kernel_rfl) (by simp) ?_
          refine AllReadyH.cons (o := _) rfl (fun K hK => ?_) ?_
          · go_simp
            have hE := SOwn.empty (E := encMark) (blk_new x0c (.cells #[] 30)) hB_x.size
            have hO_x := hO_x.alloc (.cells #[] 30)
            have hB_x := hB_x.alloc hB_x.size (.cells #[] 30)
            refine hK.out _ _ ⟨hO_x, hB_x⟩ (fun hHeld => ?_)
            clear hK K
            try simp only [Act.put, List.getElem_toArray, List.getElem_cons_succ, List.getElem_cons_zero, List.setIfInBounds_toArray, List.set_cons_zero, List.set_cons_succ]
            refine wpAnyH_ready (rs := [6, 10]) (by kernel_rfl) (by simp) ?_
            refine AllReadyH.cons (o := _) rfl (fun K hK => ?_) ?_
            · rw [if_pos (by rfl)]
              refine wp_append_lies (x0c.alloc (.cells #[] 30)) (.tmp 31) (.tmp 32) _ rfl w.heap.size 30 i0 _ 3 32 Try.underlying23 HI.out.1 HI.out.2.1 HI.out.2.2.1 HI.out.2.2.2 rfl (by omega) (.slice (some ⟨x0c.heap.size, 0, none⟩) 0 0) 0 [] rfl hE ⟨g, 0, none⟩ m cp (encMark.flat xs) rfl (by rw [encMark.flat_len, HM.out]; rfl) (World.ownsRow.cells hO_x (g := g) rfl) (encMark.flat_one _) (by omega) (by simp only [maxLen]; omega) (by omega) hB_x.size _ rfl ?_; intro g5 cap5 w5 hown5 hgr5 hat5 hlt5
              rw [Nat.zero_add] at hown5
              have hg5 : x0c.heap.size ≤ g5 := by
                rcases hat5 with h | h
                · simp only [Value.ownBlock, Option.some.injEq] at h; omega
                · rw [h]; simp; try omega
              have hO_x := hO_x.grown_far hgr5 (fun g9 e9 e8 => by simp only [Value.ownBlock, Option.some.injEq, Addr.mk.injEq] at e8 e9; omega)
              have hB_x := hB_x.grown hgr5 hB_x.size (fun j hj => by simp only [Value.ownBlock, Option.some.injEq] at hj; omega)
              refine hK.out _ _ ⟨hO_x, hB_x⟩ (fun hHeld => ?_)
              clear hK K
              try simp only [Act.put, List.getElem_toArray, List.getElem_cons_succ, List.getElem_cons_zero, List.setIfInBounds_toArray, List.set_cons_zero, List.set_cons_succ]
              try simp only [Nat.zero_add]
              refine wpAnyH_ready (rs := [10]) (by kernel_rfl) (by simp) ?_
              refine AllReadyH.cons (o := _) rfl (fun K hK => ?_) AllReadyH.nil
              go_simp
              have hN := blk_new w5 (.cells (encMark.enc xs[0]).toArray 30)
              have hown5 := World.ownsRow.alloc hown5 (.cells (encMark.enc xs[0]).toArray 30)
              have hO_x := hO_x.alloc (.cells (encMark.enc xs[0]).toArray 30)
              have hB_x := hB_x.alloc hB_x.size (.cells (encMark.enc xs[0]).toArray 30)
              refine hK.out _ _ ⟨hO_x, hB_x⟩ (fun hHeld => ?_)
              clear hK K
              try simp only [Act.put, List.getElem_toArray, List.getElem_cons_succ, List.getElem_cons_zero, List.setIfInBounds_toArray, List.set_cons_zero, List.set_cons_succ]
              refine wpAnyH_ready (rs := [11]) (by kernel_rfl) (by simp) ?_
              refine AllReadyH.cons (o := _) rfl (fun K hK => ?_) AllReadyH.nil
              rw [if_pos (by rfl)]
              refine wp_append_lies (w5.alloc (.cells (encMark.enc xs[0]).toArray 30)) (.tmp 33) (.tmp 37) _ rfl w.heap.size 30 i0 _ 3 32 Try.underlying23 HI.out.1 HI.out.2.1 HI.out.2.2.1 HI.out.2.2.2 rfl (by omega) (.slice (some ⟨g5, 0, none⟩) m cap5) m ([] ++ encMark.flat xs) rfl hown5 ⟨w5.heap.size, 0, none⟩ 1 1 (encMark.enc xs[0]) rfl rfl (newsMark hN) (encMark.one _) (by omega) (by simp only [maxLen]; omega) (by omega) hB_x.size _ rfl ?_; intro g6 cap6 w6 hown6 hgr6 hat6 hlt6
              have hO_x := hO_x.grown_far hgr6 (fun g9 e9 e8 => by simp only [Value.ownBlock, Option.some.injEq, Addr.mk.injEq] at e8 e9; omega)
              have hB_x := hB_x.grown hgr6 hB_x.size (fun j hj => by simp only [Value.ownBlock, Option.some.injEq] at hj; omega)
              have hZ := SOwn.of_raw (E := encMark) (ys := xs ++ [xs[0]]) hown6 (by rw [List.nil_append, encMark.flat_snoc]) (by simp [HM.out])
              refine hK.out _ _ ⟨hO_x, hB_x⟩ (fun hHeld => ?_)
              clear hK K
              try simp only [Act.put, List.getElem_toArray, List.getElem_cons_succ, List.getElem_cons_zero, List.setIfInBounds_toArray, List.set_cons_zero, List.set_cons_succ]
              refine wpAnyH_ready (rs := [12]) (by kernel_rfl) (by simp) ?_
              refine AllReadyH.cons (o := _) rfl (fun K hK => ?_) AllReadyH.nil
              go_simp
              (go_at_call 8; refine (iPV_any _ cap6 (xs ++ [xs[0]]) _ (by simp [HM.out]) hZ.row (small_snoc HS.out h0l) (by omega) (pl_dup HR.out h0l)).mono ?_; rintro e w7 ⟨rfl, hw7⟩)
              have hO_x := hO_x.next hw7
              have hB_x := bel_next hB_x hw7
              refine hK.out _ _ ⟨hO_x, hB_x⟩ (fun hHeld => ?_)
              clear hK K
              try simp only [Act.put, List.getElem_toArray, List.getElem_cons_succ, List.getElem_cons_zero, List.setIfInBounds_toArray, List.set_cons_zero, List.set_cons_succ]
              refine wpAnyH_take (i := 13) (oi := _) (v := ?_) rfl (by kernel_rfl) (by kernel_rfl) (by kernel_rfl) (fun _ _ _ h => h) (Or.inl ⟨by rfl, ?_⟩) (by assumption) ?_
              (rotate_left); (focus (intro wv hSw; (obtain ⟨qO, qB⟩ := hSw);  go_simp; (try with_reducible rfl)))
              try simp only [Act.put, List.getElem_toArray, List.getElem_cons_succ, List.getElem_cons_zero, List.setIfInBounds_toArray, List.set_cons_zero, List.set_cons_succ]
              refine wpAnyH_take (i := 14) (oi := _) (v := ?_) rfl (by kernel_rfl) (by kernel_rfl) (by kernel_rfl) (fun _ _ _ h => h) (Or.inl ⟨by rfl, ?_⟩) (by assumption) ?_
              (rotate_left); (focus (intro wv hSw; (obtain ⟨qO, qB⟩ := hSw);  go_simp; (try with_reducible rfl)))
              try simp only [Act.put, List.getElem_toArray, List.getElem_cons_succ, List.getElem_cons_zero, List.setIfInBounds_toArray, List.set_cons_zero, List.set_cons_succ]
              refine wpAnyH_take (i := 15) (oi := _) (v := ?_) rfl (by kernel_rfl) (by kernel_rfl) (by kernel_rfl) (fun _ _ _ h => h) (Or.inl ⟨by rfl, ?_⟩) (by assumption) ?_
              (rotate_left); (focus (intro wv hSw; (obtain ⟨qO, qB⟩ := hSw);  go_simp; (try with_reducible rfl)))
              try simp only [Act.put, List.getElem_toArray, List.getElem_cons_succ, List.getElem_cons_zero, List.setIfInBounds_toArray, List.set_cons_zero, List.set_cons_succ]
              refine wpAnyH_done (by kernel_rfl) ?_ _
              go_wp2_with fail
              go_ret
              exact ⟨rfl, hB_x⟩
            · refine AllReadyH.cons (o := _) rfl (fun K hK => ?_) AllReadyH.nil
              go_simp
              have hN := blk_new (x0c.alloc (.cells #[] 30)) (.cells (encMark.enc xs[0]).toArray 30)
              have eS : (x0c.alloc (.cells #[] 30)).heap.size = x0c.heap.size + 1 := by simp
              rw [eS] at hN
              have hE := World.ownsRow.alloc hE (.cells (encMark.enc xs[0]).toArray 30)
              have hO_x := hO_x.alloc (.cells (encMark.enc xs[0]).toArray 30)
              have hB_x := hB_x.alloc hB_x.size (.cells (encMark.enc xs[0]).toArray 30)
              refine hK.out _ _ ⟨hO_x, hB_x⟩ (fun hHeld => ?_)
              clear hK K
              try simp only [Act.put, List.getElem_toArray, List.getElem_cons_succ, List.getElem_cons_zero, List.setIfInBounds_toArray, List.set_cons_zero, List.set_cons_succ]
              refine wpAnyH_ready (rs := [6]) (by kernel_rfl) (by simp) ?_
              refine AllReadyH.cons (o := _) rfl (fun K hK => ?_) AllReadyH.nil
              rw [if_pos (by rfl)]
              refine wp_append_lies ((x0c.alloc (.cells #[] 30)).alloc (.cells (encMark.enc xs[0]).toArray 30)) (.tmp 31) (.tmp 32) _ rfl w.heap.size 30 i0 _ 3 32 Try.underlying23 HI.out.1 HI.out.2.1 HI.out.2.2.1 HI.out.2.2.2 rfl (by omega) (.slice (some ⟨x0c.heap.size, 0, none⟩) 0 0) 0 [] rfl hE ⟨g, 0, none⟩ m cp (encMark.flat xs) rfl (by rw [encMark.flat_len, HM.out]; rfl) (World.ownsRow.cells hO_x (g := g) rfl) (encMark.flat_one _) (by omega) (by simp only [maxLen]; omega) (by omega) hB_x.size _ rfl ?_; intro g5 cap5 w5 hown5 hgr5 hat5 hlt5
              rw [Nat.zero_add] at hown5
              have hg5 : x0c.heap.size ≤ g5 := by
                rcases hat5 with h | h
                · simp only [Value.ownBlock, Option.some.injEq] at h; omega
                · rw [h]; simp; try omega
              have hN := blkGrown hN hgr5 (by simp [Value.ownBlock]; try omega)
              have hO_x := hO_x.grown_far hgr5 (fun g9 e9 e8 => by simp only [Value.ownBlock, Option.some.injEq, Addr.mk.injEq] at e8 e9; omega)
              have hB_x := hB_x.grown hgr5 hB_x.size (fun j hj => by simp only [Value.ownBlock, Option.some.injEq] at hj; omega)
              refine hK.out _ _ ⟨hO_x, hB_x⟩ (fun hHeld => ?_)
              clear hK K
              try simp only [Act.put, List.getElem_toArray, List.getElem_cons_succ, List.getElem_cons_zero, List.setIfInBounds_toArray, List.set_cons_zero, List.set_cons_succ]
              try simp only [Nat.zero_add]
              refine wpAnyH_ready (rs := [11]) (by kernel_rfl) (by simp) ?_
              refine AllReadyH.cons (o := _) rfl (fun K hK => ?_) AllReadyH.nil
              rw [if_pos (by rfl)]
              refine wp_append_lies w5 (.tmp 33) (.tmp 37) _ rfl w.heap.size 30 i0 _ 3 32 Try.underlying23 HI.out.1 HI.out.2.1 HI.out.2.2.1 HI.out.2.2.2 rfl (by omega) (.slice (some ⟨g5, 0, none⟩) m cap5) m ([] ++ encMark.flat xs) rfl hown5 ⟨x0c.heap.size + 1, 0, none⟩ 1 1 (encMark.enc xs[0]) rfl rfl (newsMark hN) (encMark.one _) (by omega) (by simp only [maxLen]; omega) (by omega) hB_x.size _ rfl ?_; intro g6 cap6 w6 hown6 hgr6 hat6 hlt6
              have hO_x := hO_x.grown_far hgr6 (fun g9 e9 e8 => by simp only [Value.ownBlock, Option.some.injEq, Addr.mk.injEq] at e8 e9; omega)
              have hB_x := hB_x.grown hgr6 hB_x.size (fun j hj => by simp only [Value.ownBlock, Option.some.injEq] at hj; omega)
              have hZ := SOwn.of_raw (E := encMark) (ys := xs ++ [xs[0]]) hown6 (by rw [List.nil_append, encMark.flat_snoc]) (by simp [HM.out])
              refine hK.out _ _ ⟨hO_x, hB_x⟩ (fun hHeld => ?_)
              clear hK K
              try simp only [Act.put, List.getElem_toArray, List.getElem_cons_succ, List.getElem_cons_zero, List.setIfInBounds_toArray, List.set_cons_zero, List.set_cons_succ]
              refine wpAnyH_ready (rs := [12]) (by kernel_rfl) (by simp) ?_
              refine AllReadyH.cons (o := _) rfl (fun K hK => ?_) AllReadyH.nil
              go_simp
              (go_at_call 8; refine (iPV_any _ cap6 (xs ++ [xs[0]]) _ (by simp [HM.out]) hZ.row (small_snoc HS.out h0l) (by omega) (pl_dup HR.out h0l)).mono ?_; rintro e w7 ⟨rfl, hw7⟩)
              have hO_x := hO_x.next hw7
              have hB_x := bel_next hB_x hw7
              refine hK.out _ _ ⟨hO_x, hB_x⟩ (fun hHeld => ?_)
              clear hK K
              try simp only [Act.put, List.getElem_toArray, List.getElem_cons_succ, List.getElem_cons_zero, List.setIfInBounds_toArray, List.set_cons_zero, List.set_cons_succ]
              refine wpAnyH_take (i := 13) (oi := _) (v := ?_) rfl (by kernel_rfl) (by kernel_rfl) (by kernel_rfl) (fun _ _ _ h => h) (Or.inl ⟨by rfl, ?_⟩) (by assumption) ?_
              (rotate_left); (focus (intro wv hSw; (obtain ⟨qO, qB⟩ := hSw);  go_simp; (try with_reducible rfl)))
              try simp only [Act.put, List.getElem_toArray, List.getElem_cons_succ, List.getElem_cons_zero, List.setIfInBounds_toArray, List.set_cons_zero, List.set_cons_succ]
              refine wpAnyH_take (i := 14) (oi := _) (v := ?_) rfl (by kernel_rfl) (by kernel_rfl) (by kernel_rfl) (fun _ _ _ h => h) (Or.inl ⟨by rfl, ?_⟩) (by assumption) ?_
              (rotate_left); (focus (intro wv hSw; (obtain ⟨qO, qB⟩ := hSw);  go_simp; (try with_reducible rfl)))
              try simp only [Act.put, List.getElem_toArray, List.getElem_cons_succ, List.getElem_cons_zero, List.setIfInBounds_toArray, List.set_cons_zero, List.set_cons_succ]
              refine wpAnyH_take (i := 15) (oi := _) (v := ?_) rfl (by kernel_rfl) (by kernel_rfl) (by kernel_rfl) (fun _ _ _ h => h) (Or.inl ⟨by rfl, ?_⟩) (by assumption) ?_
              (rotate_left); (focus (intro wv hSw; (obtain ⟨qO, qB⟩ := hSw);  go_simp; (try with_reducible rfl)))
              try simp only [Act.put, List.getElem_toArray, List.getElem_cons_succ, List.getElem_cons_zero, List.setIfInBounds_toArray, List.set_cons_zero, List.set_cons_succ]
              refine wpAnyH_done (by kernel_rfl) ?_ _
              go_wp2_with fail
              go_ret
              exact ⟨rfl, hB_x⟩
          · refine AllReadyH.cons (o := _) rfl (fun K hK => ?_) AllReadyH.nil
            go_simp
            have hN := blk_new x0c (.cells (encMark.enc xs[0]).toArray 30)
            have hO_x := hO_x.alloc (.cells (encMark.enc xs[0]).toArray 30)
            have hB_x := hB_x.alloc hB_x.size (.cells (encMark.enc xs[0]).toArray 30)
            refine hK.out _ _ ⟨hO_x, hB_x⟩ (fun hHeld => ?_)
            clear hK K
            try simp only [Act.put, List.getElem_toArray, List.getElem_cons_succ, List.getElem_cons_zero, List.setIfInBounds_toArray, List.set_cons_zero, List.set_cons_succ]
            refine wpAnyH_ready (rs := [4]) (by kernel_rfl) (by simp) ?_
            refine AllReadyH.cons (o := _) rfl (fun K hK => ?_) AllReadyH.nil
            go_simp
            have hE := SOwn.empty (E := encMark) (blk_new (x0c.alloc (.cells (encMark.enc xs[0]).toArray 30)) (.cells #[] 30)) hB_x.size
            have eS : (x0c.alloc (.cells (encMark.enc xs[0]).toArray 30)).heap.size = x0c.heap.size + 1 := by simp
            rw [eS] at hE
            have hN := blk_old hN (.cells #[] 30)
            have hO_x := hO_x.alloc (.cells #[] 30)
            have hB_x := hB_x.alloc hB_x.size (.cells #[] 30)
            refine hK.out _ _ ⟨hO_x, hB_x⟩ (fun hHeld => ?_)
            clear hK K
            try simp only [Act.put, List.getElem_toArray, List.getElem_cons_succ, List.getElem_cons_zero, List.setIfInBounds_toArray, List.set_cons_zero, List.set_cons_succ]
            refine wpAnyH_ready (rs := [6]) (by kernel_rfl) (by simp) ?_
            refine AllReadyH.cons (o := _) rfl (fun K hK => ?_) AllReadyH.nil
            rw [if_pos (by rfl)]
            refine wp_append_lies ((x0c.alloc (.cells (encMark.enc xs[0]).toArray 30)).alloc (.cells #[] 30)) (.tmp 31) (.tmp 32) _ rfl w.heap.size 30 i0 _ 3 32 Try.underlying23 HI.out.1 HI.out.2.1 HI.out.2.2.1 HI.out.2.2.2 rfl (by omega) (.slice (some ⟨x0c.heap.size + 1, 0, none⟩) 0 0) 0 [] rfl hE ⟨g, 0, none⟩ m cp (encMark.flat xs) rfl (by rw [encMark.flat_len, HM.out]; rfl) (World.ownsRow.cells hO_x (g := g) rfl) (encMark.flat_one _) (by omega) (by simp only [maxLen]; omega) (by omega) hB_x.size _ rfl ?_; intro g5 cap5 w5 hown5 hgr5 hat5 hlt5
            rw [Nat.zero_add] at hown5
            have hg5 : x0c.heap.size ≤ g5 := by
              rcases hat5 with h | h
              · simp only [Value.ownBlock, Option.some.injEq] at h; omega
              · rw [h]; simp; try omega
            have hN := blkGrown hN hgr5 (by simp [Value.ownBlock]; try omega)
            have hO_x := hO_x.grown_far hgr5 (fun g9 e9 e8 => by simp only [Value.ownBlock, Option.some.injEq, Addr.mk.injEq] at e8 e9; omega)
            have hB_x := hB_x.grown hgr5 hB_x.size (fun j hj => by simp only [Value.ownBlock, Option.some.injEq] at hj; omega)
            refine hK.out _ _ ⟨hO_x, hB_x⟩ (fun hHeld => ?_)
            clear hK K
            try simp only [Act.put, List.getElem_toArray, List.getElem_cons_succ, List.getElem_cons_zero, List.setIfInBounds_toArray, List.set_cons_zero, List.set_cons_succ]
            try simp only [Nat.zero_add]
            refine wpAnyH_ready (rs := [11]) (by kernel_rfl) (by simp) ?_
            refine AllReadyH.cons (o := _) rfl (fun K hK => ?_) AllReadyH.nil
            rw [if_pos (by rfl)]
            refine wp_append_lies w5 (.tmp 33) (.tmp 37) _ rfl w.heap.size 30 i0 _ 3 32 Try.underlying23 HI.out.1 HI.out.2.1 HI.out.2.2.1 HI.out.2.2.2 rfl (by omega) (.slice (some ⟨g5, 0, none⟩) m cap5) m ([] ++ encMark.flat xs) rfl hown5 ⟨x0c.heap.size, 0, none⟩ 1 1 (encMark.enc xs[0]) rfl rfl (newsMark hN) (encMark.one _) (by omega) (by simp only [maxLen]; omega) (by omega) hB_x.size _ rfl ?_; intro g6 cap6 w6 hown6 hgr6 hat6 hlt6
            have hO_x := hO_x.grown_far hgr6 (fun g9 e9 e8 => by simp only [Value.ownBlock, Option.some.injEq, Addr.mk.injEq] at e8 e9; omega)
            have hB_x := hB_x.grown hgr6 hB_x.size (fun j hj => by simp only [Value.ownBlock, Option.some.injEq] at hj; omega)
            have hZ := SOwn.of_raw (E := encMark) (ys := xs ++ [xs[0]]) hown6 (by rw [List.nil_append, encMark.flat_snoc]) (by simp [HM.out])
            refine hK.out _ _ ⟨hO_x, hB_x⟩ (fun hHeld => ?_)
            clear hK K
            try simp only [Act.put, List.getElem_toArray, List.getElem_cons_succ, List.getElem_cons_zero, List.setIfInBounds_toArray, List.set_cons_zero, List.set_cons_succ]
            refine wpAnyH_ready (rs := [12]) (by kernel_rfl) (by simp) ?_
            refine AllReadyH.cons (o := _) rfl (fun K hK => ?_) AllReadyH.nil
            go_simp
            (go_at_call 8; refine (iPV_any _ cap6 (xs ++ [xs[0]]) _ (by simp [HM.out]) hZ.row (small_snoc HS.out h0l) (by omega) (pl_dup HR.out h0l)).mono ?_; rintro e w7 ⟨rfl, hw7⟩)
            have hO_x := hO_x.next hw7
            have hB_x := bel_next hB_x hw7
            refine hK.out _ _ ⟨hO_x, hB_x⟩ (fun hHeld => ?_)
            clear hK K
            try simp only [Act.put, List.getElem_toArray, List.getElem_cons_succ, List.getElem_cons_zero, List.setIfInBounds_toArray, List.set_cons_zero, List.set_cons_succ]
            refine wpAnyH_take (i := 13) (oi := _) (v := ?_) rfl (by kernel_rfl) (by kernel_rfl) (by kernel_rfl) (fun _ _ _ h => h) (Or.inl ⟨by rfl, ?_⟩) (by assumption) ?_
            (rotate_left); (focus (intro wv hSw; (obtain ⟨qO, qB⟩ := hSw);  go_simp; (try with_reducible rfl)))
            try simp only [Act.put, List.getElem_toArray, List.getElem_cons_succ, List.getElem_cons_zero, List.setIfInBounds_toArray, List.set_cons_zero, List.set_cons_succ]
            refine wpAnyH_take (i := 14) (oi := _) (v := ?_) rfl (by kernel_rfl) (by kernel_rfl) (by kernel_rfl) (fun _ _ _ h => h) (Or.inl ⟨by rfl, ?_⟩) (by assumption) ?_
            (rotate_left); (focus (intro wv hSw; (obtain ⟨qO, qB⟩ := hSw);  go_simp; (try with_reducible rfl)))
            try simp only [Act.put, List.getElem_toArray, List.getElem_cons_succ, List.getElem_cons_zero, List.setIfInBounds_toArray, List.set_cons_zero, List.set_cons_succ]
            refine wpAnyH_take (i := 15) (oi := _) (v := ?_) rfl (by kernel_rfl) (by kernel_rfl) (by kernel_rfl) (fun _ _ _ h => h) (Or.inl ⟨by rfl, ?_⟩) (by assumption) ?_
            (rotate_left); (focus (intro wv hSw; (obtain ⟨qO, qB⟩ := hSw);  go_simp; (try with_reducible rfl)))
            try simp only [Act.put, List.getElem_toArray, List.getElem_cons_succ, List.getElem_cons_zero, List.setIfInBounds_toArray, List.set_cons_zero, List.set_cons_succ]
            refine wpAnyH_done (by kernel_rfl) ?_ _
            go_wp2_with fail
            go_ret
            exact ⟨rfl, hB_x⟩

set_option maxRecDepth 100000 in
theorem lifted (os : Os) (started : os.Started) (H : Type) (enc : TypeId × Value → H) :
    ReturnsInHanded {} Try.checked os 3 .any (Rows.fnPlateValidSpec.pre6 enc Try.prog Try.f3 Rows.fnPlateValidRow.domain false) (Rows.fnPlateValidSpec.post enc Try.prog Try.f3 false true false false) := by
  refine returnsInHanded_of_change (C := Try.checked) own started (by kernel_rfl) Try.func3
    (ChangeSpec.witness6 (enc := enc) (C := Try.checked) false ⟨#[], #[.slice none 0 0], []⟩ 8 (by kernel_rfl) (by kernel_rfl) (by kernel_rfl) (by kernel_rfl)) ?_
  intro W base args ds gs before hval0 hW hcnd _
  have hval : ∀ (j : Nat) t v, Try.f3.params[j]? = some t → args[j]? = some v → Value.okWide Try.prog W .any base t v := hval0
  have hW' := hW
  obtain ⟨p, q, hA0, hV, rfl, hfz, hnd⟩ := hW
  have hA : DataW.TrodAll enc Try.prog W 0 (fun _ => true) true Try.f3.params.toList args.toList ds p := hA0
  rw [Try.params3] at hA hval
  obtain ⟨v0, vs0, d0, ds0, p0, q0, hargs, rfl, rfl, h0, r0⟩ := trodAll_cons hA
  obtain ⟨rfl, rfl, rfl⟩ := trodAll_nil r0
  obtain rfl : args = #[v0] := by cases args; simp_all
  obtain ⟨rfl, rfl⟩ := trodVars_none hV
  have k0 := h0
  have lt0 : ∀ x ∈ p0, x.block < W.heap.size := by obtain ⟨m, hm⟩ := k0; exact DataW.trod_lt m _ _ _ hm
  obtain ⟨a0, len0, cap0, rfl⟩ := okWide_slice Try.underlying22 (hval 0 22 v0 rfl rfl)
  have w0 : CodeOk W a0 len0 cap0 := by
    obtain ⟨fuel, hf⟩ := h0
    rcases open_ints Try.underlying22 Try.underlying5 (by kernel_rfl) hf with ⟨hcs, _⟩ | ⟨x, l, c, zs, hcs, _, hl, hm, hz, _, hcell, hwz⟩
    · simp [Value.cells] at hcs
      obtain ⟨rfl, rfl, rfl⟩ := hcs
      exact code_nil W
    · simp [Value.cells] at hcs
      obtain ⟨rfl, rfl, rfl⟩ := hcs
      exact code_ok hl hm (by simp at hz; omega) hcell hwz
  clear hA0 hval0
  refine (walk W a0 len0 cap0 w0).mono fun e W' ⟨he, bel⟩ => ?_
  subst he
  exact ⟨_, rfl, _, _, _, [], _, [], hW', trodAll_mk1 (shut_bool Try.underlying4 _), (trodAll_cons_mk (Below.trod laidOut (by kernel_rfl) (of_decide_eq_true (by kernel_rfl)) k0 bel lt0) trodAll_mk0), rfl, bel.frame _, fun h => by cases h⟩

theorem over : Rows.fnPlateValidRow.holds Try.pinned (OpenSpec.ofChange Rows.fnPlateValidSpec) :=
  OpenClaim.holds_of_wide 3 Try.f3 rfl rfl rfl rfl rfl rfl rfl ⟨rfl, rfl, rfl, rfl, rfl⟩ rfl rfl rfl rfl rfl (by kernel_rfl) Try.func3 (by kernel_rfl)
    (of_decide_eq_true (by kernel_rfl)) (by unfold Func.isWrapper; first | (rw [if_pos (by decide +kernel)]; kernel_rfl) | (rw [if_neg (by decide +kernel)]; exact ⟨rfl, rfl⟩))
    (fun os started H enc _ => lifted os started H enc)

/-- The statement. -/
theorem proved : Rows.FnPlateValidSaid :=
  over
#print axioms proved
end Go.Proofs.Ytjdaeijhhnaimab.fnPlateValid
