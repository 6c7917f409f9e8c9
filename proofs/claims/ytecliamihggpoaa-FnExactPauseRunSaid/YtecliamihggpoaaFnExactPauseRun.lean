/- FnExactPauseRun: whatever the input, the law returns true, and its arguments read as they did. No conditions beyond those of the statement's row. -/
import Derived.Test.YtecliamihggpoaaBu
import Derived.Test.YtecliamihggpoaaGBlind
import Derived.Test.YtecliamihggpoaaGBand
import Derived.Test.YtecliamihggpoaaOb
namespace Go.Proofs.Ytecliamihggpoaa.fnExactPauseRun
open Go.Proofs.Ytecliamihggpoaa
open Go.ChangeShapes Go.WideShapes Go.ChangeAt Go.RowKit Go.Joins
set_option linter.unusedVariables false
set_option linter.unusedSimpArgs false
set_option linter.unnecessarySimpa false

theorem own : ownKnob Try.prog.godebug = none := by kernel_rfl
theorem laidOut : laidOutB Try.prog = true := by kernel_rfl

set_option maxRecDepth 100000 in
set_option maxHeartbeats 4000000 in
theorem walk (w : World) (a0_0 : Bool) (a0_1 : Int) (q0 : True ∧ Wf a0_1) (a1_0 : Int) (a1_1 : Int) (q1 : Wf a1_0 ∧ Wf a1_1) (a2 : Int) (w2 : (Lit.int .i64 a2).wf = true) (A3 : Option Addr) (cap3 : Nat) (xs3 : List Int) (w3 : SRow encNum w A3 xs3) (l3 : xs3.length ≤ maxLen) (q3 : ∀ v ∈ xs3, Wf v) :
    Calls Try.prog 11 #[.agg #[.bool a0_0, .int .i64 a0_1], .agg #[.int .i64 a1_0, .int .i64 a1_1], .int .i64 a2, .slice A3 xs3.length cap3] w fun e w' => e = .returned (.bool true) ∧ Below w.heap.size w w' := by
  obtain ⟨l, hl⟩ : ∃ l, paL a0_0 a0_1 a1_0 a1_1 a2 xs3 = l := ⟨_, rfl⟩
  obtain ⟨r, hr⟩ : ∃ r, paU a0_0 a0_1 a1_0 a1_1 a2 xs3 = r := ⟨_, rfl⟩
  obtain ⟨u, hu⟩ : ∃ u, paV a0_0 a0_1 a1_0 a1_1 a2 xs3 = u := ⟨_, rfl⟩
  have hlen : l.length ≤ 1048576 := by rw [← hl]; have := paL_60 a0_0 a0_1 a1_0 a1_1 a2 xs3; omega
  have HL := Lib.hid hl
  have HR := Lib.hid hr
  have HU := Lib.hid hu
  clear hl hr hu q0 q1
  have hW3 := w3
  clear q3
  have l3' := l3
  unfold maxLen at l3'
  by_cases hl : xs3.length ≤ 1048576
  · have hi3 : ¬ (xs3.length : Int) > 1048576 := by omega
    have hn3 : xs3.length ≤ 1048576 := hl
    clear hl
    go_enter Try.func11, Try.ntmps11
    have hB0 := bel2 w (.cells #[.bool a0_0, .int .i64 a0_1] 45) (.cells #[.int .i64 a1_0, .int .i64 a1_1] 23)
    have hA3_0 := hW3.next hB0
    have hP0 := blk_old (blk_new w (.cells #[.bool a0_0, .int .i64 a0_1] 45)) (.cells #[.int .i64 a1_0, .int .i64 a1_1] 23)
    have hQ0 := new2 w (.cells #[.bool a0_0, .int .i64 a0_1] 45) (.cells #[.int .i64 a1_0, .int .i64 a1_1] 23)
    have hW3_ := hA3_0
    obtain ⟨m, hm⟩ : ∃ m, l.length = m := ⟨_, rfl⟩
    rw [hm] at hlen
    have HM := Lib.hid hm
    clear hm
    go_upto_region 3 with fail
    generalize hwb : (w.alloc (.cells #[.bool a0_0, .int .i64 a0_1] 45)).alloc (.cells #[.int .i64 a1_0, .int .i64 a1_1] 23) = wb at hB0 hP0 hQ0 hW3_ hA3_0 ⊢
    clear hwb hW3_
    go_cut [9, 10] (fun sa sp wx => ∃ (C : Nat) (As : Option Addr) (cs : Nat), sa = .slice As m cs ∧ sp = .pointer (some ⟨C, 0, none⟩) ∧ wx.heap[C]? = some (.cells #[.bool r, .int .i64 u] 47) ∧ SOwn encBool wx wb.heap.size 4 As cs l ∧ Below wb.heap.size wb wx)
    case first =>
      refine wp_region_held_drew (S := (fun w' => w'.heap[w.heap.size]? = some (.cells #[.bool a0_0, .int .i64 a0_1] 45) ∧ w'.heap[w.heap.size + 1]? = some (.cells #[.int .i64 a1_0, .int .i64 a1_1] 23) ∧ Below wb.heap.size wb w')) (by kernel_rfl) ⟨hP0, hQ0, (Below.refl _ _).drew⟩ (fun hHeld => ?_)
      obtain ⟨hP_0, hQ_0, hB_0⟩ := id hHeld
      refine wpAnyH_take (i := 0) (oi := _) (v := ?_) rfl (by kernel_rfl) (by kernel_rfl) (by kernel_rfl) (fun _ _ _ h => h) (Or.inl ⟨by rfl, ?_⟩) (by assumption) ?_
      (rotate_left); (focus (intro wv hSw; (obtain ⟨qP, qQ, qB⟩ := hSw); obtain ⟨_, _, _, _, _⟩ := blk2 qP; obtain ⟨_, _, _, _, _⟩ := blk2 qQ; go_simp; (try with_reducible rfl)))
      try simp only [Act.put, List.getElem_toArray, List.getElem_cons_succ, List.getElem_cons_zero, List.setIfInBounds_toArray, List.set_cons_zero, List.set_cons_succ]
      refine wpAnyH_take (i := 2) (oi := _) (v := ?_) rfl (by kernel_rfl) (by kernel_rfl) (by kernel_rfl) (fun _ _ _ h => h) (Or.inl ⟨by rfl, ?_⟩) (by assumption) ?_
      (rotate_left); (focus (intro wv hSw; (obtain ⟨qP, qQ, qB⟩ := hSw); obtain ⟨_, _, _, _, _⟩ := blk2 qP; obtain ⟨_, _, _, _, _⟩ := blk2 qQ; go_simp; (try with_reducible rfl)))
      try simp only [Act.put, List.getElem_toArray, List.getElem_cons_succ, List.getElem_cons_zero, List.setIfInBounds_toArray, List.set_cons_zero, List.set_cons_succ]
      refine wpAnyH_take (i := 4) (oi := _) (v := ?_) rfl (by kernel_rfl) (by kernel_rfl) (by kernel_rfl) (fun _ _ _ h => h) (Or.inl ⟨by rfl, ?_⟩) (by assumption) ?_
      (rotate_left); (focus (intro wv hSw; (obtain ⟨qP, qQ, qB⟩ := hSw); obtain ⟨_, _, _, _, _⟩ := blk2 qP; obtain ⟨_, _, _, _, _⟩ := blk2 qQ; go_simp; (try with_reducible rfl)))
      try simp only [Act.put, List.getElem_toArray, List.getElem_cons_succ, List.getElem_cons_zero, List.setIfInBounds_toArray, List.set_cons_zero, List.set_cons_succ]
      refine wpAnyH_take (i := 5) (oi := _) (v := ?_) rfl (by kernel_rfl) (by kernel_rfl) (by kernel_rfl) (fun _ _ _ h => h) (Or.inl ⟨by rfl, ?_⟩) (by assumption) ?_
      (rotate_left); (focus (intro wv hSw; (obtain ⟨qP, qQ, qB⟩ := hSw); obtain ⟨_, _, _, _, _⟩ := blk2 qP; obtain ⟨_, _, _, _, _⟩ := blk2 qQ; go_simp; (try with_reducible rfl)))
      try simp only [Act.put, List.getElem_toArray, List.getElem_cons_succ, List.getElem_cons_zero, List.setIfInBounds_toArray, List.set_cons_zero, List.set_cons_succ]
      refine wpAnyH_ready (rs := [1, 11]) (by kernel_rfl) (by simp) ?_
      refine AllReadyH.cons (o := _) rfl (fun K hK => ?_) (AllReadyH.cons (o := _) rfl (fun K hK => ?_) (AllReadyH.nil))
      · go_simp
        (go_at_call 33; refine (toBlind_any _ _ _).mono ?_; rintro e x0c ⟨rfl, hw_0c⟩)
        refine hK.out _ _ ⟨blk_next hP_0 hw_0c, blk_next hQ_0 hw_0c, bel_next hB_0 hw_0c⟩ (fun hHeld => ?_)
        clear hK K
        try simp only [Act.put, List.getElem_toArray, List.getElem_cons_succ, List.getElem_cons_zero, List.setIfInBounds_toArray, List.set_cons_zero, List.set_cons_succ]
        obtain ⟨hP_0c, hQ_0c, hB_0c⟩ := id hHeld
        refine wpAnyH_ready (rs := [3, 11]) (by kernel_rfl) (by simp) ?_
        refine AllReadyH.cons (o := _) rfl (fun K hK => ?_) (AllReadyH.cons (o := _) rfl (fun K hK => ?_) (AllReadyH.nil))
        · go_simp
          (go_at_call 13; refine (toBand_any _ _ _).mono ?_; rintro e x0cc ⟨rfl, hw_0cc⟩)
          refine hK.out _ _ ⟨blk_next hP_0c hw_0cc, blk_next hQ_0c hw_0cc, bel_next hB_0c hw_0cc⟩ (fun hHeld => ?_)
          clear hK K
          try simp only [Act.put, List.getElem_toArray, List.getElem_cons_succ, List.getElem_cons_zero, List.setIfInBounds_toArray, List.set_cons_zero, List.set_cons_succ]
          obtain ⟨hP_0cc, hQ_0cc, hB_0cc⟩ := id hHeld
          refine wpAnyH_ready (rs := [6, 11]) (by kernel_rfl) (by simp) ?_
          refine AllReadyH.cons (o := _) rfl (fun K hK => ?_) (AllReadyH.cons (o := _) rfl (fun K hK => ?_) (AllReadyH.nil))
          · go_simp
            (go_at_call 16; refine (toNumS_any A3 cap3 xs3 _ (hA3_0.next hB_0cc) (by omega)).mono ?_; rintro e x0ccc ⟨g9, rfl, hg9, hC_0ccc, hw_0ccc⟩)
            refine hK.out _ _ ⟨blk_next hP_0cc hw_0ccc, blk_next hQ_0cc hw_0ccc, bel_next hB_0cc hw_0ccc⟩ (fun hHeld => ?_)
            clear hK K
            try simp only [Act.put, List.getElem_toArray, List.getElem_cons_succ, List.getElem_cons_zero, List.setIfInBounds_toArray, List.set_cons_zero, List.set_cons_succ]
            obtain ⟨hP_0ccc, hQ_0ccc, hB_0ccc⟩ := id hHeld
            refine wpAnyH_ready (rs := [7, 11]) (by kernel_rfl) (by simp) ?_
            refine AllReadyH.cons (o := _) rfl (fun K hK => ?_) (AllReadyH.cons (o := _) rfl (fun K hK => ?_) (AllReadyH.nil))
            · go_simp
              (go_at_call 38; refine (sPa_is _ _ xs3 _ rfl hC_0ccc.row (by omega) HL.out HR.out HU.out).mono ?_; rintro e x0cccc ⟨A9, c9, rfl, hS_0cccc, hw_0cccc⟩)
              refine hK.out _ _ ⟨blk_next hP_0ccc hw_0cccc, blk_next hQ_0ccc hw_0cccc, bel_next hB_0ccc hw_0cccc⟩ (fun hHeld => ?_)
              clear hK K
              try simp only [Act.put, List.getElem_toArray, List.getElem_cons_succ, List.getElem_cons_zero, List.setIfInBounds_toArray, List.set_cons_zero, List.set_cons_succ]
              obtain ⟨hP_0cccc, hQ_0cccc, hB_0cccc⟩ := id hHeld
              have hC_0cccc := hC_0ccc.next hw_0cccc
              have hS_0cccc := hS_0cccc.mono (base' := wb.heap.size) hB_0ccc.size
              refine wpAnyH_take (i := 8) (oi := _) (v := ?_) rfl (by kernel_rfl) (by kernel_rfl) (by kernel_rfl) (fun _ _ _ h => h) (Or.inl ⟨by rfl, ?_⟩) (by assumption) ?_
              (rotate_left); (focus (intro wv hSw; (obtain ⟨qP, qQ, qB⟩ := hSw); obtain ⟨_, _, _, _, _⟩ := blk2 qP; obtain ⟨_, _, _, _, _⟩ := blk2 qQ; go_simp; (try with_reducible rfl)))
              try simp only [Act.put, List.getElem_toArray, List.getElem_cons_succ, List.getElem_cons_zero, List.setIfInBounds_toArray, List.set_cons_zero, List.set_cons_succ]
              refine wpAnyH_take (i := 9) (oi := _) (v := ?_) rfl (by kernel_rfl) (by kernel_rfl) (by kernel_rfl) (fun _ _ _ h => h) (Or.inl ⟨by rfl, ?_⟩) (by assumption) ?_
              (rotate_left); (focus (intro wv hSw; (obtain ⟨qP, qQ, qB⟩ := hSw); obtain ⟨_, _, _, _, _⟩ := blk2 qP; obtain ⟨_, _, _, _, _⟩ := blk2 qQ; go_simp; (try with_reducible rfl)))
              try simp only [Act.put, List.getElem_toArray, List.getElem_cons_succ, List.getElem_cons_zero, List.setIfInBounds_toArray, List.set_cons_zero, List.set_cons_succ]
              refine wpAnyH_take (i := 10) (oi := _) (v := ?_) rfl (by kernel_rfl) (by kernel_rfl) (by kernel_rfl) (fun _ _ _ h => h) (Or.inl ⟨by rfl, ?_⟩) (by assumption) ?_
              (rotate_left); (focus (intro wv hSw; (obtain ⟨qP, qQ, qB⟩ := hSw); obtain ⟨_, _, _, _, _⟩ := blk2 qP; obtain ⟨_, _, _, _, _⟩ := blk2 qQ; go_simp; (try with_reducible rfl)))
              try simp only [Act.put, List.getElem_toArray, List.getElem_cons_succ, List.getElem_cons_zero, List.setIfInBounds_toArray, List.set_cons_zero, List.set_cons_succ]
              refine wpAnyH_ready (rs := [11]) (by kernel_rfl) (by simp) ?_
              refine AllReadyH.cons (o := _) rfl (fun K hK => ?_) (AllReadyH.nil)
              go_simp
              refine hK.out _ _ ⟨blk_old hP_0cccc _, blk_old hQ_0cccc _, hB_0cccc.alloc (by have := hB_0cccc.size; omega) _⟩ (fun hHeld => ?_)
              clear hK K
              try simp only [Act.put, List.getElem_toArray, List.getElem_cons_succ, List.getElem_cons_zero, List.setIfInBounds_toArray, List.set_cons_zero, List.set_cons_succ]
              obtain ⟨hP_0cccca, hQ_0cccca, hB_0cccca⟩ := id hHeld
              have hK_0cccca : (x0cccc.alloc (.cells #[.bool false, .int .i64 0] 47)).heap[x0cccc.heap.size]? = some (.cells #[.bool false, .int .i64 0] 47) := by have := blk_new (x0cccc) (.cells #[.bool false, .int .i64 0] 47); simpa using this
              have zKP_0cccca : w.heap.size < x0cccc.heap.size := by have := blk_lt hP_0cccc; simpa using this
              have zKQ_0cccca : w.heap.size + 1 < x0cccc.heap.size := by have := blk_lt hQ_0cccc; simpa using this
              have zKB_0cccca : wb.heap.size ≤ x0cccc.heap.size := by have := hB_0cccc.size; simpa using this
              have hC_0cccca := hC_0cccc.next (bel1 (x0cccc) (.cells #[.bool false, .int .i64 0] 47))
              have hS_0cccca := hS_0cccc.next (bel1 (x0cccc) (.cells #[.bool false, .int .i64 0] 47))
              refine wpAnyH_take (i := 12) (oi := _) (v := ?_) rfl (by kernel_rfl) (by kernel_rfl) (by kernel_rfl) (fun _ _ _ h => h) (Or.inl ⟨by rfl, ?_⟩) (by assumption) ?_
              (rotate_left); (focus (intro wv hSw; (obtain ⟨qP, qQ, qB⟩ := hSw); obtain ⟨_, _, _, _, _⟩ := blk2 qP; obtain ⟨_, _, _, _, _⟩ := blk2 qQ; go_simp; (try with_reducible rfl)))
              try simp only [Act.put, List.getElem_toArray, List.getElem_cons_succ, List.getElem_cons_zero, List.setIfInBounds_toArray, List.set_cons_zero, List.set_cons_succ]
              refine wpAnyH_ready (rs := [13]) (by kernel_rfl) (by simp) ?_
              refine AllReadyH.cons (o := _) rfl (fun K hK => ?_) (AllReadyH.nil)
              obtain ⟨sc0_0ccccac, sc1_0ccccac, sf0_0ccccac, sf1_0ccccac, sz_0ccccac⟩ := blk2 hK_0cccca
              go_simp
              refine hK.out _ _ ⟨blk_old hP_0cccc _, blk_old hQ_0cccc _, hB_0cccc.alloc (by have := hB_0cccc.size; omega) _⟩ (fun hHeld => ?_)
              clear hK K
              try simp only [Act.put, List.getElem_toArray, List.getElem_cons_succ, List.getElem_cons_zero, List.setIfInBounds_toArray, List.set_cons_zero, List.set_cons_succ]
              obtain ⟨hP_0ccccac, hQ_0ccccac, hB_0ccccac⟩ := id hHeld
              have hK_0ccccac : (x0cccc.alloc (.cells #[.bool r, .int .i64 u] 47)).heap[x0cccc.heap.size]? = some (.cells #[.bool r, .int .i64 u] 47) := by have := blk_new (x0cccc) (.cells #[.bool r, .int .i64 u] 47); simpa using this
              have hC_0ccccac := hC_0cccc.next (bel1 (x0cccc) (.cells #[.bool r, .int .i64 u] 47))
              have hS_0ccccac := hS_0cccc.next (bel1 (x0cccc) (.cells #[.bool r, .int .i64 u] 47))
              refine wpAnyH_done (by kernel_rfl) ?_ _
              go_wp2_with fail
              go_meet
              exact ⟨_, _, _, (by rw [HM.out]), rfl, hK_0ccccac, hS_0ccccac, hB_0ccccac⟩
            · go_simp
              refine hK.out _ _ ⟨blk_old hP_0ccc _, blk_old hQ_0ccc _, hB_0ccc.alloc (by have := hB_0ccc.size; omega) _⟩ (fun hHeld => ?_)
              clear hK K
              try simp only [Act.put, List.getElem_toArray, List.getElem_cons_succ, List.getElem_cons_zero, List.setIfInBounds_toArray, List.set_cons_zero, List.set_cons_succ]
              obtain ⟨hP_0ccca, hQ_0ccca, hB_0ccca⟩ := id hHeld
              have hK_0ccca : (x0ccc.alloc (.cells #[.bool false, .int .i64 0] 47)).heap[x0ccc.heap.size]? = some (.cells #[.bool false, .int .i64 0] 47) := by have := blk_new (x0ccc) (.cells #[.bool false, .int .i64 0] 47); simpa using this
              have zKP_0ccca : w.heap.size < x0ccc.heap.size := by have := blk_lt hP_0ccc; simpa using this
              have zKQ_0ccca : w.heap.size + 1 < x0ccc.heap.size := by have := blk_lt hQ_0ccc; simpa using this
              have zKB_0ccca : wb.heap.size ≤ x0ccc.heap.size := by have := hB_0ccc.size; simpa using this
              have hC_0ccca := hC_0ccc.next (bel1 (x0ccc) (.cells #[.bool false, .int .i64 0] 47))
              refine wpAnyH_ready (rs := [7]) (by kernel_rfl) (by simp) ?_
              refine AllReadyH.cons (o := _) rfl (fun K hK => ?_) (AllReadyH.nil)
              go_simp
              (go_at_call 38; refine (sPa_is _ _ xs3 _ rfl hC_0ccca.row (by omega) HL.out HR.out HU.out).mono ?_; rintro e x0cccac ⟨A9, c9, rfl, hS_0cccac, hw_0cccac⟩)
              refine hK.out _ _ ⟨blk_next hP_0ccca hw_0cccac, blk_next hQ_0ccca hw_0cccac, bel_next hB_0ccca hw_0cccac⟩ (fun hHeld => ?_)
              clear hK K
              try simp only [Act.put, List.getElem_toArray, List.getElem_cons_succ, List.getElem_cons_zero, List.setIfInBounds_toArray, List.set_cons_zero, List.set_cons_succ]
              obtain ⟨hP_0cccac, hQ_0cccac, hB_0cccac⟩ := id hHeld
              have hK_0cccac := blk_next hK_0ccca hw_0cccac
              have hC_0cccac := hC_0ccca.next hw_0cccac
              have hS_0cccac := hS_0cccac.mono (base' := wb.heap.size) hB_0ccca.size
              refine wpAnyH_take (i := 8) (oi := _) (v := ?_) rfl (by kernel_rfl) (by kernel_rfl) (by kernel_rfl) (fun _ _ _ h => h) (Or.inl ⟨by rfl, ?_⟩) (by assumption) ?_
              (rotate_left); (focus (intro wv hSw; (obtain ⟨qP, qQ, qB⟩ := hSw); obtain ⟨_, _, _, _, _⟩ := blk2 qP; obtain ⟨_, _, _, _, _⟩ := blk2 qQ; go_simp; (try with_reducible rfl)))
              try simp only [Act.put, List.getElem_toArray, List.getElem_cons_succ, List.getElem_cons_zero, List.setIfInBounds_toArray, List.set_cons_zero, List.set_cons_succ]
              refine wpAnyH_take (i := 9) (oi := _) (v := ?_) rfl (by kernel_rfl) (by kernel_rfl) (by kernel_rfl) (fun _ _ _ h => h) (Or.inl ⟨by rfl, ?_⟩) (by assumption) ?_
              (rotate_left); (focus (intro wv hSw; (obtain ⟨qP, qQ, qB⟩ := hSw); obtain ⟨_, _, _, _, _⟩ := blk2 qP; obtain ⟨_, _, _, _, _⟩ := blk2 qQ; go_simp; (try with_reducible rfl)))
              try simp only [Act.put, List.getElem_toArray, List.getElem_cons_succ, List.getElem_cons_zero, List.setIfInBounds_toArray, List.set_cons_zero, List.set_cons_succ]
              refine wpAnyH_take (i := 10) (oi := _) (v := ?_) rfl (by kernel_rfl) (by kernel_rfl) (by kernel_rfl) (fun _ _ _ h => h) (Or.inl ⟨by rfl, ?_⟩) (by assumption) ?_
              (rotate_left); (focus (intro wv hSw; (obtain ⟨qP, qQ, qB⟩ := hSw); obtain ⟨_, _, _, _, _⟩ := blk2 qP; obtain ⟨_, _, _, _, _⟩ := blk2 qQ; go_simp; (try with_reducible rfl)))
              try simp only [Act.put, List.getElem_toArray, List.getElem_cons_succ, List.getElem_cons_zero, List.setIfInBounds_toArray, List.set_cons_zero, List.set_cons_succ]
              refine wpAnyH_take (i := 12) (oi := _) (v := ?_) rfl (by kernel_rfl) (by kernel_rfl) (by kernel_rfl) (fun _ _ _ h => h) (Or.inl ⟨by rfl, ?_⟩) (by assumption) ?_
              (rotate_left); (focus (intro wv hSw; (obtain ⟨qP, qQ, qB⟩ := hSw); obtain ⟨_, _, _, _, _⟩ := blk2 qP; obtain ⟨_, _, _, _, _⟩ := blk2 qQ; go_simp; (try with_reducible rfl)))
              try simp only [Act.put, List.getElem_toArray, List.getElem_cons_succ, List.getElem_cons_zero, List.setIfInBounds_toArray, List.set_cons_zero, List.set_cons_succ]
              refine wpAnyH_ready (rs := [13]) (by kernel_rfl) (by simp) ?_
              refine AllReadyH.cons (o := _) rfl (fun K hK => ?_) (AllReadyH.nil)
              obtain ⟨sc0_0cccacc, sc1_0cccacc, sf0_0cccacc, sf1_0cccacc, sz_0cccacc⟩ := blk2 hK_0cccac
              go_simp
              refine hK.out _ _ ⟨blk_store2 hP_0cccac (Nat.ne_of_lt zKP_0ccca) _ _, blk_store2 hQ_0cccac (Nat.ne_of_lt zKQ_0ccca) _ _, store2_bel hB_0cccac zKB_0ccca _ _⟩ (fun hHeld => ?_)
              clear hK K
              try simp only [Act.put, List.getElem_toArray, List.getElem_cons_succ, List.getElem_cons_zero, List.setIfInBounds_toArray, List.set_cons_zero, List.set_cons_succ]
              obtain ⟨hP_0cccacc, hQ_0cccacc, hB_0cccacc⟩ := id hHeld
              have hK_0cccacc := blk2_set (a := .bool r) (b := .int .i64 u) hK_0cccac
              have hS_0cccacc := SOwn.boxO hS_0cccac hK_0cccac (by decide) (.bool r) (.int .i64 u)
              refine wpAnyH_done (by kernel_rfl) ?_ _
              go_wp2_with fail
              go_meet
              exact ⟨_, _, _, (by rw [HM.out]), rfl, hK_0cccacc, hS_0cccacc, hB_0cccacc⟩
          · go_simp
            refine hK.out _ _ ⟨blk_old hP_0cc _, blk_old hQ_0cc _, hB_0cc.alloc (by have := hB_0cc.size; omega) _⟩ (fun hHeld => ?_)
            clear hK K
            try simp only [Act.put, List.getElem_toArray, List.getElem_cons_succ, List.getElem_cons_zero, List.setIfInBounds_toArray, List.set_cons_zero, List.set_cons_succ]
            obtain ⟨hP_0cca, hQ_0cca, hB_0cca⟩ := id hHeld
            have hK_0cca : (x0cc.alloc (.cells #[.bool false, .int .i64 0] 47)).heap[x0cc.heap.size]? = some (.cells #[.bool false, .int .i64 0] 47) := by have := blk_new (x0cc) (.cells #[.bool false, .int .i64 0] 47); simpa using this
            have zKP_0cca : w.heap.size < x0cc.heap.size := by have := blk_lt hP_0cc; simpa using this
            have zKQ_0cca : w.heap.size + 1 < x0cc.heap.size := by have := blk_lt hQ_0cc; simpa using this
            have zKB_0cca : wb.heap.size ≤ x0cc.heap.size := by have := hB_0cc.size; simpa using this
            refine wpAnyH_ready (rs := [6]) (by kernel_rfl) (by simp) ?_
            refine AllReadyH.cons (o := _) rfl (fun K hK => ?_) (AllReadyH.nil)
            go_simp
            (go_at_call 16; refine (toNumS_any A3 cap3 xs3 _ (hA3_0.next hB_0cca) (by omega)).mono ?_; rintro e x0ccac ⟨g9, rfl, hg9, hC_0ccac, hw_0ccac⟩)
            refine hK.out _ _ ⟨blk_next hP_0cca hw_0ccac, blk_next hQ_0cca hw_0ccac, bel_next hB_0cca hw_0ccac⟩ (fun hHeld => ?_)
            clear hK K
            try simp only [Act.put, List.getElem_toArray, List.getElem_cons_succ, List.getElem_cons_zero, List.setIfInBounds_toArray, List.set_cons_zero, List.set_cons_succ]
            obtain ⟨hP_0ccac, hQ_0ccac, hB_0ccac⟩ := id hHeld
            have hK_0ccac := blk_next hK_0cca hw_0ccac
            refine wpAnyH_ready (rs := [7]) (by kernel_rfl) (by simp) ?_
            refine AllReadyH.cons (o := _) rfl (fun K hK => ?_) (AllReadyH.nil)
            go_simp
            (go_at_call 38; refine (sPa_is _ _ xs3 _ rfl hC_0ccac.row (by omega) HL.out HR.out HU.out).mono ?_; rintro e x0ccacc ⟨A9, c9, rfl, hS_0ccacc, hw_0ccacc⟩)
            refine hK.out _ _ ⟨blk_next hP_0ccac hw_0ccacc, blk_next hQ_0ccac hw_0ccacc, bel_next hB_0ccac hw_0ccacc⟩ (fun hHeld => ?_)
            clear hK K
            try simp only [Act.put, List.getElem_toArray, List.getElem_cons_succ, List.getElem_cons_zero, List.setIfInBounds_toArray, List.set_cons_zero, List.set_cons_succ]
            obtain ⟨hP_0ccacc, hQ_0ccacc, hB_0ccacc⟩ := id hHeld
            have hK_0ccacc := blk_next hK_0ccac hw_0ccacc
            have hC_0ccacc := hC_0ccac.next hw_0ccacc
            have hS_0ccacc := hS_0ccacc.mono (base' := wb.heap.size) hB_0ccac.size
            refine wpAnyH_take (i := 8) (oi := _) (v := ?_) rfl (by kernel_rfl) (by kernel_rfl) (by kernel_rfl) (fun _ _ _ h => h) (Or.inl ⟨by rfl, ?_⟩) (by assumption) ?_
            (rotate_left); (focus (intro wv hSw; (obtain ⟨qP, qQ, qB⟩ := hSw); obtain ⟨_, _, _, _, _⟩ := blk2 qP; obtain ⟨_, _, _, _, _⟩ := blk2 qQ; go_simp; (try with_reducible rfl)))
            try simp only [Act.put, List.getElem_toArray, List.getElem_cons_succ, List.getElem_cons_zero, List.setIfInBounds_toArray, List.set_cons_zero, List.set_cons_succ]
            refine wpAnyH_take (i := 9) (oi := _) (v := ?_) rfl (by kernel_rfl) (by kernel_rfl) (by kernel_rfl) (fun _ _ _ h => h) (Or.inl ⟨by rfl, ?_⟩) (by assumption) ?_
            (rotate_left); (focus (intro wv hSw; (obtain ⟨qP, qQ, qB⟩ := hSw); obtain ⟨_, _, _, _, _⟩ := blk2 qP; obtain ⟨_, _, _, _, _⟩ := blk2 qQ; go_simp; (try with_reducible rfl)))
            try simp only [Act.put, List.getElem_toArray, List.getElem_cons_succ, List.getElem_cons_zero, List.setIfInBounds_toArray, List.set_cons_zero, List.set_cons_succ]
            refine wpAnyH_take (i := 10) (oi := _) (v := ?_) rfl (by kernel_rfl) (by kernel_rfl) (by kernel_rfl) (fun _ _ _ h => h) (Or.inl ⟨by rfl, ?_⟩) (by assumption) ?_
            (rotate_left); (focus (intro wv hSw; (obtain ⟨qP, qQ, qB⟩ := hSw); obtain ⟨_, _, _, _, _⟩ := blk2 qP; obtain ⟨_, _, _, _, _⟩ := blk2 qQ; go_simp; (try with_reducible rfl)))
            try simp only [Act.put, List.getElem_toArray, List.getElem_cons_succ, List.getElem_cons_zero, List.setIfInBounds_toArray, List.set_cons_zero, List.set_cons_succ]
            refine wpAnyH_take (i := 12) (oi := _) (v := ?_) rfl (by kernel_rfl) (by kernel_rfl) (by kernel_rfl) (fun _ _ _ h => h) (Or.inl ⟨by rfl, ?_⟩) (by assumption) ?_
            (rotate_left); (focus (intro wv hSw; (obtain ⟨qP, qQ, qB⟩ := hSw); obtain ⟨_, _, _, _, _⟩ := blk2 qP; obtain ⟨_, _, _, _, _⟩ := blk2 qQ; go_simp; (try with_reducible rfl)))
            try simp only [Act.put, List.getElem_toArray, List.getElem_cons_succ, List.getElem_cons_zero, List.setIfInBounds_toArray, List.set_cons_zero, List.set_cons_succ]
            refine wpAnyH_ready (rs := [13]) (by kernel_rfl) (by simp) ?_
            refine AllReadyH.cons (o := _) rfl (fun K hK => ?_) (AllReadyH.nil)
            obtain ⟨sc0_0ccaccc, sc1_0ccaccc, sf0_0ccaccc, sf1_0ccaccc, sz_0ccaccc⟩ := blk2 hK_0ccacc
            go_simp
            refine hK.out _ _ ⟨blk_store2 hP_0ccacc (Nat.ne_of_lt zKP_0cca) _ _, blk_store2 hQ_0ccacc (Nat.ne_of_lt zKQ_0cca) _ _, store2_bel hB_0ccacc zKB_0cca _ _⟩ (fun hHeld => ?_)
            clear hK K
            try simp only [Act.put, List.getElem_toArray, List.getElem_cons_succ, List.getElem_cons_zero, List.setIfInBounds_toArray, List.set_cons_zero, List.set_cons_succ]
            obtain ⟨hP_0ccaccc, hQ_0ccaccc, hB_0ccaccc⟩ := id hHeld
            have hK_0ccaccc := blk2_set (a := .bool r) (b := .int .i64 u) hK_0ccacc
            have hS_0ccaccc := SOwn.boxO hS_0ccacc hK_0ccacc (by decide) (.bool r) (.int .i64 u)
            refine wpAnyH_done (by kernel_rfl) ?_ _
            go_wp2_with fail
            go_meet
            exact ⟨_, _, _, (by rw [HM.out]), rfl, hK_0ccaccc, hS_0ccaccc, hB_0ccaccc⟩
        · go_simp
          refine hK.out _ _ ⟨blk_old hP_0c _, blk_old hQ_0c _, hB_0c.alloc (by have := hB_0c.size; omega) _⟩ (fun hHeld => ?_)
          clear hK K
          try simp only [Act.put, List.getElem_toArray, List.getElem_cons_succ, List.getElem_cons_zero, List.setIfInBounds_toArray, List.set_cons_zero, List.set_cons_succ]
          obtain ⟨hP_0ca, hQ_0ca, hB_0ca⟩ := id hHeld
          have hK_0ca : (x0c.alloc (.cells #[.bool false, .int .i64 0] 47)).heap[x0c.heap.size]? = some (.cells #[.bool false, .int .i64 0] 47) := by have := blk_new (x0c) (.cells #[.bool false, .int .i64 0] 47); simpa using this
          have zKP_0ca : w.heap.size < x0c.heap.size := by have := blk_lt hP_0c; simpa using this
          have zKQ_0ca : w.heap.size + 1 < x0c.heap.size := by have := blk_lt hQ_0c; simpa using this
          have zKB_0ca : wb.heap.size ≤ x0c.heap.size := by have := hB_0c.size; simpa using this
          refine wpAnyH_ready (rs := [3]) (by kernel_rfl) (by simp) ?_
          refine AllReadyH.cons (o := _) rfl (fun K hK => ?_) (AllReadyH.nil)
          go_simp
          (go_at_call 13; refine (toBand_any _ _ _).mono ?_; rintro e x0cac ⟨rfl, hw_0cac⟩)
          refine hK.out _ _ ⟨blk_next hP_0ca hw_0cac, blk_next hQ_0ca hw_0cac, bel_next hB_0ca hw_0cac⟩ (fun hHeld => ?_)
          clear hK K
          try simp only [Act.put, List.getElem_toArray, List.getElem_cons_succ, List.getElem_cons_zero, List.setIfInBounds_toArray, List.set_cons_zero, List.set_cons_succ]
          obtain ⟨hP_0cac, hQ_0cac, hB_0cac⟩ := id hHeld
          have hK_0cac := blk_next hK_0ca hw_0cac
          refine wpAnyH_ready (rs := [6]) (by kernel_rfl) (by simp) ?_
          refine AllReadyH.cons (o := _) rfl (fun K hK => ?_) (AllReadyH.nil)
          go_simp
          (go_at_call 16; refine (toNumS_any A3 cap3 xs3 _ (hA3_0.next hB_0cac) (by omega)).mono ?_; rintro e x0cacc ⟨g9, rfl, hg9, hC_0cacc, hw_0cacc⟩)
          refine hK.out _ _ ⟨blk_next hP_0cac hw_0cacc, blk_next hQ_0cac hw_0cacc, bel_next hB_0cac hw_0cacc⟩ (fun hHeld => ?_)
          clear hK K
          try simp only [Act.put, List.getElem_toArray, List.getElem_cons_succ, List.getElem_cons_zero, List.setIfInBounds_toArray, List.set_cons_zero, List.set_cons_succ]
          obtain ⟨hP_0cacc, hQ_0cacc, hB_0cacc⟩ := id hHeld
          have hK_0cacc := blk_next hK_0cac hw_0cacc
          refine wpAnyH_ready (rs := [7]) (by kernel_rfl) (by simp) ?_
          refine AllReadyH.cons (o := _) rfl (fun K hK => ?_) (AllReadyH.nil)
          go_simp
          (go_at_call 38; refine (sPa_is _ _ xs3 _ rfl hC_0cacc.row (by omega) HL.out HR.out HU.out).mono ?_; rintro e x0caccc ⟨A9, c9, rfl, hS_0caccc, hw_0caccc⟩)
          refine hK.out _ _ ⟨blk_next hP_0cacc hw_0caccc, blk_next hQ_0cacc hw_0caccc, bel_next hB_0cacc hw_0caccc⟩ (fun hHeld => ?_)
          clear hK K
          try simp only [Act.put, List.getElem_toArray, List.getElem_cons_succ, List.getElem_cons_zero, List.setIfInBounds_toArray, List.set_cons_zero, List.set_cons_succ]
          obtain ⟨hP_0caccc, hQ_0caccc, hB_0caccc⟩ := id hHeld
          have hK_0caccc := blk_next hK_0cacc hw_0caccc
          have hC_0caccc := hC_0cacc.next hw_0caccc
          have hS_0caccc := hS_0caccc.mono (base' := wb.heap.size) hB_0cacc.size
          refine wpAnyH_take (i := 8) (oi := _) (v := ?_) rfl (by kernel_rfl) (by kernel_rfl) (by kernel_rfl) (fun _ _ _ h => h) (Or.inl ⟨by rfl, ?_⟩) (by assumption) ?_
          (rotate_left); (focus (intro wv hSw; (obtain ⟨qP, qQ, qB⟩ := hSw); obtain ⟨_, _, _, _, _⟩ := blk2 qP; obtain ⟨_, _, _, _, _⟩ := blk2 qQ; go_simp; (try with_reducible rfl)))
          try simp only [Act.put, List.getElem_toArray, List.getElem_cons_succ, List.getElem_cons_zero, List.setIfInBounds_toArray, List.set_cons_zero, List.set_cons_succ]
          refine wpAnyH_take (i := 9) (oi := _) (v := ?_) rfl (by kernel_rfl) (by kernel_rfl) (by kernel_rfl) (fun _ _ _ h => h) (Or.inl ⟨by rfl, ?_⟩) (by assumption) ?_
          (rotate_left); (focus (intro wv hSw; (obtain ⟨qP, qQ, qB⟩ := hSw); obtain ⟨_, _, _, _, _⟩ := blk2 qP; obtain ⟨_, _, _, _, _⟩ := blk2 qQ; go_simp; (try with_reducible rfl)))
          try simp only [Act.put, List.getElem_toArray, List.getElem_cons_succ, List.getElem_cons_zero, List.setIfInBounds_toArray, List.set_cons_zero, List.set_cons_succ]
          refine wpAnyH_take (i := 10) (oi := _) (v := ?_) rfl (by kernel_rfl) (by kernel_rfl) (by kernel_rfl) (fun _ _ _ h => h) (Or.inl ⟨by rfl, ?_⟩) (by assumption) ?_
          (rotate_left); (focus (intro wv hSw; (obtain ⟨qP, qQ, qB⟩ := hSw); obtain ⟨_, _, _, _, _⟩ := blk2 qP; obtain ⟨_, _, _, _, _⟩ := blk2 qQ; go_simp; (try with_reducible rfl)))
          try simp only [Act.put, List.getElem_toArray, List.getElem_cons_succ, List.getElem_cons_zero, List.setIfInBounds_toArray, List.set_cons_zero, List.set_cons_succ]
          refine wpAnyH_take (i := 12) (oi := _) (v := ?_) rfl (by kernel_rfl) (by kernel_rfl) (by kernel_rfl) (fun _ _ _ h => h) (Or.inl ⟨by rfl, ?_⟩) (by assumption) ?_
          (rotate_left); (focus (intro wv hSw; (obtain ⟨qP, qQ, qB⟩ := hSw); obtain ⟨_, _, _, _, _⟩ := blk2 qP; obtain ⟨_, _, _, _, _⟩ := blk2 qQ; go_simp; (try with_reducible rfl)))
          try simp only [Act.put, List.getElem_toArray, List.getElem_cons_succ, List.getElem_cons_zero, List.setIfInBounds_toArray, List.set_cons_zero, List.set_cons_succ]
          refine wpAnyH_ready (rs := [13]) (by kernel_rfl) (by simp) ?_
          refine AllReadyH.cons (o := _) rfl (fun K hK => ?_) (AllReadyH.nil)
          obtain ⟨sc0_0cacccc, sc1_0cacccc, sf0_0cacccc, sf1_0cacccc, sz_0cacccc⟩ := blk2 hK_0caccc
          go_simp
          refine hK.out _ _ ⟨blk_store2 hP_0caccc (Nat.ne_of_lt zKP_0ca) _ _, blk_store2 hQ_0caccc (Nat.ne_of_lt zKQ_0ca) _ _, store2_bel hB_0caccc zKB_0ca _ _⟩ (fun hHeld => ?_)
          clear hK K
          try simp only [Act.put, List.getElem_toArray, List.getElem_cons_succ, List.getElem_cons_zero, List.setIfInBounds_toArray, List.set_cons_zero, List.set_cons_succ]
          obtain ⟨hP_0cacccc, hQ_0cacccc, hB_0cacccc⟩ := id hHeld
          have hK_0cacccc := blk2_set (a := .bool r) (b := .int .i64 u) hK_0caccc
          have hS_0cacccc := SOwn.boxO hS_0caccc hK_0caccc (by decide) (.bool r) (.int .i64 u)
          refine wpAnyH_done (by kernel_rfl) ?_ _
          go_wp2_with fail
          go_meet
          exact ⟨_, _, _, (by rw [HM.out]), rfl, hK_0cacccc, hS_0cacccc, hB_0cacccc⟩
      · go_simp
        refine hK.out _ _ ⟨blk_old hP_0 _, blk_old hQ_0 _, hB_0.alloc (by have := hB_0.size; omega) _⟩ (fun hHeld => ?_)
        clear hK K
        try simp only [Act.put, List.getElem_toArray, List.getElem_cons_succ, List.getElem_cons_zero, List.setIfInBounds_toArray, List.set_cons_zero, List.set_cons_succ]
        obtain ⟨hP_0a, hQ_0a, hB_0a⟩ := id hHeld
        have hK_0a : (wb.drew.alloc (.cells #[.bool false, .int .i64 0] 47)).heap[wb.heap.size]? = some (.cells #[.bool false, .int .i64 0] 47) := by have := blk_new (wb.drew) (.cells #[.bool false, .int .i64 0] 47); simpa using this
        have zKP_0a : w.heap.size < wb.heap.size := by have := blk_lt hP_0; simpa using this
        have zKQ_0a : w.heap.size + 1 < wb.heap.size := by have := blk_lt hQ_0; simpa using this
        have zKB_0a : wb.heap.size ≤ wb.heap.size := by have := hB_0.size; simpa using this
        refine wpAnyH_ready (rs := [1]) (by kernel_rfl) (by simp) ?_
        refine AllReadyH.cons (o := _) rfl (fun K hK => ?_) (AllReadyH.nil)
        go_simp
        (go_at_call 33; refine (toBlind_any _ _ _).mono ?_; rintro e x0ac ⟨rfl, hw_0ac⟩)
        refine hK.out _ _ ⟨blk_next hP_0a hw_0ac, blk_next hQ_0a hw_0ac, bel_next hB_0a hw_0ac⟩ (fun hHeld => ?_)
        clear hK K
        try simp only [Act.put, List.getElem_toArray, List.getElem_cons_succ, List.getElem_cons_zero, List.setIfInBounds_toArray, List.set_cons_zero, List.set_cons_succ]
        obtain ⟨hP_0ac, hQ_0ac, hB_0ac⟩ := id hHeld
        have hK_0ac := blk_next hK_0a hw_0ac
        refine wpAnyH_ready (rs := [3]) (by kernel_rfl) (by simp) ?_
        refine AllReadyH.cons (o := _) rfl (fun K hK => ?_) (AllReadyH.nil)
        go_simp
        (go_at_call 13; refine (toBand_any _ _ _).mono ?_; rintro e x0acc ⟨rfl, hw_0acc⟩)
        refine hK.out _ _ ⟨blk_next hP_0ac hw_0acc, blk_next hQ_0ac hw_0acc, bel_next hB_0ac hw_0acc⟩ (fun hHeld => ?_)
        clear hK K
        try simp only [Act.put, List.getElem_toArray, List.getElem_cons_succ, List.getElem_cons_zero, List.setIfInBounds_toArray, List.set_cons_zero, List.set_cons_succ]
        obtain ⟨hP_0acc, hQ_0acc, hB_0acc⟩ := id hHeld
        have hK_0acc := blk_next hK_0ac hw_0acc
        refine wpAnyH_ready (rs := [6]) (by kernel_rfl) (by simp) ?_
        refine AllReadyH.cons (o := _) rfl (fun K hK => ?_) (AllReadyH.nil)
        go_simp
        (go_at_call 16; refine (toNumS_any A3 cap3 xs3 _ (hA3_0.next hB_0acc) (by omega)).mono ?_; rintro e x0accc ⟨g9, rfl, hg9, hC_0accc, hw_0accc⟩)
        refine hK.out _ _ ⟨blk_next hP_0acc hw_0accc, blk_next hQ_0acc hw_0accc, bel_next hB_0acc hw_0accc⟩ (fun hHeld => ?_)
        clear hK K
        try simp only [Act.put, List.getElem_toArray, List.getElem_cons_succ, List.getElem_cons_zero, List.setIfInBounds_toArray, List.set_cons_zero, List.set_cons_succ]
        obtain ⟨hP_0accc, hQ_0accc, hB_0accc⟩ := id hHeld
        have hK_0accc := blk_next hK_0acc hw_0accc
        refine wpAnyH_ready (rs := [7]) (by kernel_rfl) (by simp) ?_
        refine AllReadyH.cons (o := _) rfl (fun K hK => ?_) (AllReadyH.nil)
        go_simp
        (go_at_call 38; refine (sPa_is _ _ xs3 _ rfl hC_0accc.row (by omega) HL.out HR.out HU.out).mono ?_; rintro e x0acccc ⟨A9, c9, rfl, hS_0acccc, hw_0acccc⟩)
        refine hK.out _ _ ⟨blk_next hP_0accc hw_0acccc, blk_next hQ_0accc hw_0acccc, bel_next hB_0accc hw_0acccc⟩ (fun hHeld => ?_)
        clear hK K
        try simp only [Act.put, List.getElem_toArray, List.getElem_cons_succ, List.getElem_cons_zero, List.setIfInBounds_toArray, List.set_cons_zero, List.set_cons_succ]
        obtain ⟨hP_0acccc, hQ_0acccc, hB_0acccc⟩ := id hHeld
        have hK_0acccc := blk_next hK_0accc hw_0acccc
        have hC_0acccc := hC_0accc.next hw_0acccc
        have hS_0acccc := hS_0acccc.mono (base' := wb.heap.size) hB_0accc.size
        refine wpAnyH_take (i := 8) (oi := _) (v := ?_) rfl (by kernel_rfl) (by kernel_rfl) (by kernel_rfl) (fun _ _ _ h => h) (Or.inl ⟨by rfl, ?_⟩) (by assumption) ?_
        (rotate_left); (focus (intro wv hSw; (obtain ⟨qP, qQ, qB⟩ := hSw); obtain ⟨_, _, _, _, _⟩ := blk2 qP; obtain ⟨_, _, _, _, _⟩ := blk2 qQ; go_simp; (try with_reducible rfl)))
        try simp only [Act.put, List.getElem_toArray, List.getElem_cons_succ, List.getElem_cons_zero, List.setIfInBounds_toArray, List.set_cons_zero, List.set_cons_succ]
        refine wpAnyH_take (i := 9) (oi := _) (v := ?_) rfl (by kernel_rfl) (by kernel_rfl) (by kernel_rfl) (fun _ _ _ h => h) (Or.inl ⟨by rfl, ?_⟩) (by assumption) ?_
        (rotate_left); (focus (intro wv hSw; (obtain ⟨qP, qQ, qB⟩ := hSw); obtain ⟨_, _, _, _, _⟩ := blk2 qP; obtain ⟨_, _, _, _, _⟩ := blk2 qQ; go_simp; (try with_reducible rfl)))
        try simp only [Act.put, List.getElem_toArray, List.getElem_cons_succ, List.getElem_cons_zero, List.setIfInBounds_toArray, List.set_cons_zero, List.set_cons_succ]
        refine wpAnyH_take (i := 10) (oi := _) (v := ?_) rfl (by kernel_rfl) (by kernel_rfl) (by kernel_rfl) (fun _ _ _ h => h) (Or.inl ⟨by rfl, ?_⟩) (by assumption) ?_
        (rotate_left); (focus (intro wv hSw; (obtain ⟨qP, qQ, qB⟩ := hSw); obtain ⟨_, _, _, _, _⟩ := blk2 qP; obtain ⟨_, _, _, _, _⟩ := blk2 qQ; go_simp; (try with_reducible rfl)))
        try simp only [Act.put, List.getElem_toArray, List.getElem_cons_succ, List.getElem_cons_zero, List.setIfInBounds_toArray, List.set_cons_zero, List.set_cons_succ]
        refine wpAnyH_take (i := 12) (oi := _) (v := ?_) rfl (by kernel_rfl) (by kernel_rfl) (by kernel_rfl) (fun _ _ _ h => h) (Or.inl ⟨by rfl, ?_⟩) (by assumption) ?_
        (rotate_left); (focus (intro wv hSw; (obtain ⟨qP, qQ, qB⟩ := hSw); obtain ⟨_, _, _, _, _⟩ := blk2 qP; obtain ⟨_, _, _, _, _⟩ := blk2 qQ; go_simp; (try with_reducible rfl)))
        try simp only [Act.put, List.getElem_toArray, List.getElem_cons_succ, List.getElem_cons_zero, List.setIfInBounds_toArray, List.set_cons_zero, List.set_cons_succ]
        refine wpAnyH_ready (rs := [13]) (by kernel_rfl) (by simp) ?_
        refine AllReadyH.cons (o := _) rfl (fun K hK => ?_) (AllReadyH.nil)
        obtain ⟨sc0_0accccc, sc1_0accccc, sf0_0accccc, sf1_0accccc, sz_0accccc⟩ := blk2 hK_0acccc
        go_simp
        refine hK.out _ _ ⟨blk_store2 hP_0acccc (Nat.ne_of_lt zKP_0a) _ _, blk_store2 hQ_0acccc (Nat.ne_of_lt zKQ_0a) _ _, store2_bel hB_0acccc zKB_0a _ _⟩ (fun hHeld => ?_)
        clear hK K
        try simp only [Act.put, List.getElem_toArray, List.getElem_cons_succ, List.getElem_cons_zero, List.setIfInBounds_toArray, List.set_cons_zero, List.set_cons_succ]
        obtain ⟨hP_0accccc, hQ_0accccc, hB_0accccc⟩ := id hHeld
        have hK_0accccc := blk2_set (a := .bool r) (b := .int .i64 u) hK_0acccc
        have hS_0accccc := SOwn.boxO hS_0acccc hK_0acccc (by decide) (.bool r) (.int .i64 u)
        refine wpAnyH_done (by kernel_rfl) ?_ _
        go_wp2_with fail
        go_meet
        exact ⟨_, _, _, (by rw [HM.out]), rfl, hK_0accccc, hS_0accccc, hB_0accccc⟩
    case rest =>
      obtain ⟨C1, A1_, c1_, rfl, rfl, hK1, hS1, hBb⟩ := hcut
      have hP1 := blk_next hP0 hBb
      have hQ1 := blk_next hQ0 hBb
      have hA3_1 := hA3_0.next hBb
      have hB1 := bel_next hB0 hBb
      have hz1 := hB1.size
      have hzz1 := hBb.size
      clear hBb
      have hSlt : ∀ g, A1_ = some ⟨g, 0, none⟩ → g < wc.heap.size := fun g hg => by rcases hS1.form with ⟨e, _⟩ | ⟨g1, e, _, h⟩; rw [e] at hg; cases hg; rw [e] at hg; cases hg; exact h
      have hzwc := hB1.size
      go_wp2_with fail
      refine (toNumS_any A3 cap3 xs3 _ hA3_1 (by omega)).mono ?_; rintro e' w2 ⟨gD3_, rfl, hgD3_, hD3_2, hw2⟩
      have hP2 := blk_next hP1 hw2
      have hQ2 := blk_next hQ1 hw2
      have hK2 := blk_next hK1 hw2
      have hA3_2 := hA3_1.next hw2
      have hS2 := hS1.next hw2
      have hB2 := bel_next hB1 hw2
      have hz2 := hw2.size
      have hDlt3 := hD3_2.lt
      have hDn3 := Nat.le_trans hz1 hgD3_
      go_upto_region 5 with fail
      go_cut [12, 13] (fun sa sp wx => ∃ (C : Nat) (As : Option Addr) (cs : Nat), sa = .slice As m cs ∧ sp = .pointer (some ⟨C, 0, none⟩) ∧ wx.heap[C]? = some (.cells #[.bool r, .int .i64 u] 47) ∧ SOwn encBool wx w2.heap.size 4 As cs l ∧ Below w2.heap.size w2 wx)
      case first =>
        have hD_0 : SBlk encNum w2.drew _ 3 xs3 := hD3_2
        refine wp_region_held_drew (S := (fun w' => w'.heap[w.heap.size]? = some (.cells #[.bool a0_0, .int .i64 a0_1] 45) ∧ w'.heap[w.heap.size + 1]? = some (.cells #[.int .i64 a1_0, .int .i64 a1_1] 23) ∧ Below w2.heap.size w2 w')) (by kernel_rfl) ⟨hP2, hQ2, (Below.refl _ _).drew⟩ (fun hHeld => ?_)
        obtain ⟨hP_0, hQ_0, hB_0⟩ := id hHeld
        refine wpAnyH_take (i := 0) (oi := _) (v := ?_) rfl (by kernel_rfl) (by kernel_rfl) (by kernel_rfl) (fun _ _ _ h => h) (Or.inl ⟨by rfl, ?_⟩) (by assumption) ?_
        (rotate_left); (focus (intro wv hSw; (obtain ⟨qP, qQ, qB⟩ := hSw); obtain ⟨_, _, _, _, _⟩ := blk2 qP; obtain ⟨_, _, _, _, _⟩ := blk2 qQ; go_simp; (try with_reducible rfl)))
        try simp only [Act.put, List.getElem_toArray, List.getElem_cons_succ, List.getElem_cons_zero, List.setIfInBounds_toArray, List.set_cons_zero, List.set_cons_succ]
        refine wpAnyH_take (i := 2) (oi := _) (v := ?_) rfl (by kernel_rfl) (by kernel_rfl) (by kernel_rfl) (fun _ _ _ h => h) (Or.inl ⟨by rfl, ?_⟩) (by assumption) ?_
        (rotate_left); (focus (intro wv hSw; (obtain ⟨qP, qQ, qB⟩ := hSw); obtain ⟨_, _, _, _, _⟩ := blk2 qP; obtain ⟨_, _, _, _, _⟩ := blk2 qQ; go_simp; (try with_reducible rfl)))
        try simp only [Act.put, List.getElem_toArray, List.getElem_cons_succ, List.getElem_cons_zero, List.setIfInBounds_toArray, List.set_cons_zero, List.set_cons_succ]
        refine wpAnyH_take (i := 4) (oi := _) (v := ?_) rfl (by kernel_rfl) (by kernel_rfl) (by kernel_rfl) (fun _ _ _ h => h) (Or.inl ⟨by rfl, ?_⟩) (by assumption) ?_
        (rotate_left); (focus (intro wv hSw; (obtain ⟨qP, qQ, qB⟩ := hSw); obtain ⟨_, _, _, _, _⟩ := blk2 qP; obtain ⟨_, _, _, _, _⟩ := blk2 qQ; go_simp; (try with_reducible rfl)))
        try simp only [Act.put, List.getElem_toArray, List.getElem_cons_succ, List.getElem_cons_zero, List.setIfInBounds_toArray, List.set_cons_zero, List.set_cons_succ]
        refine wpAnyH_take (i := 5) (oi := _) (v := ?_) rfl (by kernel_rfl) (by kernel_rfl) (by kernel_rfl) (fun _ _ _ h => h) (Or.inl ⟨by rfl, ?_⟩) (by assumption) ?_
        (rotate_left); (focus (intro wv hSw; (obtain ⟨qP, qQ, qB⟩ := hSw); obtain ⟨_, _, _, _, _⟩ := blk2 qP; obtain ⟨_, _, _, _, _⟩ := blk2 qQ; go_simp; (try with_reducible rfl)))
        try simp only [Act.put, List.getElem_toArray, List.getElem_cons_succ, List.getElem_cons_zero, List.setIfInBounds_toArray, List.set_cons_zero, List.set_cons_succ]
        refine wpAnyH_ready (rs := [1, 10]) (by kernel_rfl) (by simp) ?_
        refine AllReadyH.cons (o := _) rfl (fun K hK => ?_) (AllReadyH.cons (o := _) rfl (fun K hK => ?_) (AllReadyH.nil))
        · go_simp
          (go_at_call 33; refine (toBlind_any _ _ _).mono ?_; rintro e x0c ⟨rfl, hw_0c⟩)
          refine hK.out _ _ ⟨blk_next hP_0 hw_0c, blk_next hQ_0 hw_0c, bel_next hB_0 hw_0c⟩ (fun hHeld => ?_)
          clear hK K
          try simp only [Act.put, List.getElem_toArray, List.getElem_cons_succ, List.getElem_cons_zero, List.setIfInBounds_toArray, List.set_cons_zero, List.set_cons_succ]
          obtain ⟨hP_0c, hQ_0c, hB_0c⟩ := id hHeld
          have hD_0c := hD_0.next hw_0c
          refine wpAnyH_ready (rs := [3, 10]) (by kernel_rfl) (by simp) ?_
          refine AllReadyH.cons (o := _) rfl (fun K hK => ?_) (AllReadyH.cons (o := _) rfl (fun K hK => ?_) (AllReadyH.nil))
          · go_simp
            (go_at_call 13; refine (toBand_any _ _ _).mono ?_; rintro e x0cc ⟨rfl, hw_0cc⟩)
            refine hK.out _ _ ⟨blk_next hP_0c hw_0cc, blk_next hQ_0c hw_0cc, bel_next hB_0c hw_0cc⟩ (fun hHeld => ?_)
            clear hK K
            try simp only [Act.put, List.getElem_toArray, List.getElem_cons_succ, List.getElem_cons_zero, List.setIfInBounds_toArray, List.set_cons_zero, List.set_cons_succ]
            obtain ⟨hP_0cc, hQ_0cc, hB_0cc⟩ := id hHeld
            have hD_0cc := hD_0c.next hw_0cc
            refine wpAnyH_ready (rs := [6, 10]) (by kernel_rfl) (by simp) ?_
            refine AllReadyH.cons (o := _) rfl (fun K hK => ?_) (AllReadyH.cons (o := _) rfl (fun K hK => ?_) (AllReadyH.nil))
            · go_simp
              (go_at_call 39; refine (iPa_is _ _ xs3 _ rfl hD_0cc.row (by omega) HL.out HR.out HU.out).mono ?_; rintro e x0ccc ⟨A9, c9, rfl, hS_0ccc, hw_0ccc⟩)
              refine hK.out _ _ ⟨blk_next hP_0cc hw_0ccc, blk_next hQ_0cc hw_0ccc, bel_next hB_0cc hw_0ccc⟩ (fun hHeld => ?_)
              clear hK K
              try simp only [Act.put, List.getElem_toArray, List.getElem_cons_succ, List.getElem_cons_zero, List.setIfInBounds_toArray, List.set_cons_zero, List.set_cons_succ]
              obtain ⟨hP_0ccc, hQ_0ccc, hB_0ccc⟩ := id hHeld
              have hD_0ccc := hD_0cc.next hw_0ccc
              have hS_0ccc := hS_0ccc.mono (base' := w2.heap.size) hB_0cc.size
              refine wpAnyH_take (i := 7) (oi := _) (v := ?_) rfl (by kernel_rfl) (by kernel_rfl) (by kernel_rfl) (fun _ _ _ h => h) (Or.inl ⟨by rfl, ?_⟩) (by assumption) ?_
              (rotate_left); (focus (intro wv hSw; (obtain ⟨qP, qQ, qB⟩ := hSw); obtain ⟨_, _, _, _, _⟩ := blk2 qP; obtain ⟨_, _, _, _, _⟩ := blk2 qQ; go_simp; (try with_reducible rfl)))
              try simp only [Act.put, List.getElem_toArray, List.getElem_cons_succ, List.getElem_cons_zero, List.setIfInBounds_toArray, List.set_cons_zero, List.set_cons_succ]
              refine wpAnyH_take (i := 8) (oi := _) (v := ?_) rfl (by kernel_rfl) (by kernel_rfl) (by kernel_rfl) (fun _ _ _ h => h) (Or.inl ⟨by rfl, ?_⟩) (by assumption) ?_
              (rotate_left); (focus (intro wv hSw; (obtain ⟨qP, qQ, qB⟩ := hSw); obtain ⟨_, _, _, _, _⟩ := blk2 qP; obtain ⟨_, _, _, _, _⟩ := blk2 qQ; go_simp; (try with_reducible rfl)))
              try simp only [Act.put, List.getElem_toArray, List.getElem_cons_succ, List.getElem_cons_zero, List.setIfInBounds_toArray, List.set_cons_zero, List.set_cons_succ]
              refine wpAnyH_take (i := 9) (oi := _) (v := ?_) rfl (by kernel_rfl) (by kernel_rfl) (by kernel_rfl) (fun _ _ _ h => h) (Or.inl ⟨by rfl, ?_⟩) (by assumption) ?_
              (rotate_left); (focus (intro wv hSw; (obtain ⟨qP, qQ, qB⟩ := hSw); obtain ⟨_, _, _, _, _⟩ := blk2 qP; obtain ⟨_, _, _, _, _⟩ := blk2 qQ; go_simp; (try with_reducible rfl)))
              try simp only [Act.put, List.getElem_toArray, List.getElem_cons_succ, List.getElem_cons_zero, List.setIfInBounds_toArray, List.set_cons_zero, List.set_cons_succ]
              refine wpAnyH_ready (rs := [10]) (by kernel_rfl) (by simp) ?_
              refine AllReadyH.cons (o := _) rfl (fun K hK => ?_) (AllReadyH.nil)
              go_simp
              refine hK.out _ _ ⟨blk_old hP_0ccc _, blk_old hQ_0ccc _, hB_0ccc.alloc (by have := hB_0ccc.size; omega) _⟩ (fun hHeld => ?_)
              clear hK K
              try simp only [Act.put, List.getElem_toArray, List.getElem_cons_succ, List.getElem_cons_zero, List.setIfInBounds_toArray, List.set_cons_zero, List.set_cons_succ]
              obtain ⟨hP_0ccca, hQ_0ccca, hB_0ccca⟩ := id hHeld
              have hN_0ccca : (x0ccc.alloc (.cells #[.bool false, .int .i64 0] 47)).heap[x0ccc.heap.size]? = some (.cells #[.bool false, .int .i64 0] 47) := by have := blk_new (x0ccc) (.cells #[.bool false, .int .i64 0] 47); simpa using this
              have zNP_0ccca : w.heap.size < x0ccc.heap.size := by have := blk_lt hP_0ccc; simpa using this
              have zNQ_0ccca : w.heap.size + 1 < x0ccc.heap.size := by have := blk_lt hQ_0ccc; simpa using this
              have zNB_0ccca : w2.heap.size ≤ x0ccc.heap.size := by have := hB_0ccc.size; simpa using this
              have hD_0ccca := hD_0ccc.next (bel1 (x0ccc) (.cells #[.bool false, .int .i64 0] 47))
              have hS_0ccca := hS_0ccc.next (bel1 (x0ccc) (.cells #[.bool false, .int .i64 0] 47))
              refine wpAnyH_take (i := 11) (oi := _) (v := ?_) rfl (by kernel_rfl) (by kernel_rfl) (by kernel_rfl) (fun _ _ _ h => h) (Or.inl ⟨by rfl, ?_⟩) (by assumption) ?_
              (rotate_left); (focus (intro wv hSw; (obtain ⟨qP, qQ, qB⟩ := hSw); obtain ⟨_, _, _, _, _⟩ := blk2 qP; obtain ⟨_, _, _, _, _⟩ := blk2 qQ; go_simp; (try with_reducible rfl)))
              try simp only [Act.put, List.getElem_toArray, List.getElem_cons_succ, List.getElem_cons_zero, List.setIfInBounds_toArray, List.set_cons_zero, List.set_cons_succ]
              refine wpAnyH_ready (rs := [12]) (by kernel_rfl) (by simp) ?_
              refine AllReadyH.cons (o := _) rfl (fun K hK => ?_) (AllReadyH.nil)
              obtain ⟨sc0_0cccac, sc1_0cccac, sf0_0cccac, sf1_0cccac, sz_0cccac⟩ := blk2 hN_0ccca
              go_simp
              refine hK.out _ _ ⟨blk_old hP_0ccc _, blk_old hQ_0ccc _, hB_0ccc.alloc (by have := hB_0ccc.size; omega) _⟩ (fun hHeld => ?_)
              clear hK K
              try simp only [Act.put, List.getElem_toArray, List.getElem_cons_succ, List.getElem_cons_zero, List.setIfInBounds_toArray, List.set_cons_zero, List.set_cons_succ]
              obtain ⟨hP_0cccac, hQ_0cccac, hB_0cccac⟩ := id hHeld
              have hN_0cccac : (x0ccc.alloc (.cells #[.bool r, .int .i64 u] 47)).heap[x0ccc.heap.size]? = some (.cells #[.bool r, .int .i64 u] 47) := by have := blk_new (x0ccc) (.cells #[.bool r, .int .i64 u] 47); simpa using this
              have hD_0cccac := hD_0ccc.next (bel1 (x0ccc) (.cells #[.bool r, .int .i64 u] 47))
              have hS_0cccac := hS_0ccc.next (bel1 (x0ccc) (.cells #[.bool r, .int .i64 u] 47))
              refine wpAnyH_done (by kernel_rfl) ?_ _
              go_wp2_with fail
              go_meet
              exact ⟨_, _, _, (by rw [HM.out]), rfl, hN_0cccac, hS_0cccac, hB_0cccac⟩
            · go_simp
              refine hK.out _ _ ⟨blk_old hP_0cc _, blk_old hQ_0cc _, hB_0cc.alloc (by have := hB_0cc.size; omega) _⟩ (fun hHeld => ?_)
              clear hK K
              try simp only [Act.put, List.getElem_toArray, List.getElem_cons_succ, List.getElem_cons_zero, List.setIfInBounds_toArray, List.set_cons_zero, List.set_cons_succ]
              obtain ⟨hP_0cca, hQ_0cca, hB_0cca⟩ := id hHeld
              have hN_0cca : (x0cc.alloc (.cells #[.bool false, .int .i64 0] 47)).heap[x0cc.heap.size]? = some (.cells #[.bool false, .int .i64 0] 47) := by have := blk_new (x0cc) (.cells #[.bool false, .int .i64 0] 47); simpa using this
              have zNP_0cca : w.heap.size < x0cc.heap.size := by have := blk_lt hP_0cc; simpa using this
              have zNQ_0cca : w.heap.size + 1 < x0cc.heap.size := by have := blk_lt hQ_0cc; simpa using this
              have zNB_0cca : w2.heap.size ≤ x0cc.heap.size := by have := hB_0cc.size; simpa using this
              have hD_0cca := hD_0cc.next (bel1 (x0cc) (.cells #[.bool false, .int .i64 0] 47))
              refine wpAnyH_ready (rs := [6]) (by kernel_rfl) (by simp) ?_
              refine AllReadyH.cons (o := _) rfl (fun K hK => ?_) (AllReadyH.nil)
              go_simp
              (go_at_call 39; refine (iPa_is _ _ xs3 _ rfl hD_0cca.row (by omega) HL.out HR.out HU.out).mono ?_; rintro e x0ccac ⟨A9, c9, rfl, hS_0ccac, hw_0ccac⟩)
              refine hK.out _ _ ⟨blk_next hP_0cca hw_0ccac, blk_next hQ_0cca hw_0ccac, bel_next hB_0cca hw_0ccac⟩ (fun hHeld => ?_)
              clear hK K
              try simp only [Act.put, List.getElem_toArray, List.getElem_cons_succ, List.getElem_cons_zero, List.setIfInBounds_toArray, List.set_cons_zero, List.set_cons_succ]
              obtain ⟨hP_0ccac, hQ_0ccac, hB_0ccac⟩ := id hHeld
              have hN_0ccac := blk_next hN_0cca hw_0ccac
              have hD_0ccac := hD_0cca.next hw_0ccac
              have hS_0ccac := hS_0ccac.mono (base' := w2.heap.size) hB_0cca.size
              refine wpAnyH_take (i := 7) (oi := _) (v := ?_) rfl (by kernel_rfl) (by kernel_rfl) (by kernel_rfl) (fun _ _ _ h => h) (Or.inl ⟨by rfl, ?_⟩) (by assumption) ?_
              (rotate_left); (focus (intro wv hSw; (obtain ⟨qP, qQ, qB⟩ := hSw); obtain ⟨_, _, _, _, _⟩ := blk2 qP; obtain ⟨_, _, _, _, _⟩ := blk2 qQ; go_simp; (try with_reducible rfl)))
              try simp only [Act.put, List.getElem_toArray, List.getElem_cons_succ, List.getElem_cons_zero, List.setIfInBounds_toArray, List.set_cons_zero, List.set_cons_succ]
              refine wpAnyH_take (i := 8) (oi := _) (v := ?_) rfl (by kernel_rfl) (by kernel_rfl) (by kernel_rfl) (fun _ _ _ h => h) (Or.inl ⟨by rfl, ?_⟩) (by assumption) ?_
              (rotate_left); (focus (intro wv hSw; (obtain ⟨qP, qQ, qB⟩ := hSw); obtain ⟨_, _, _, _, _⟩ := blk2 qP; obtain ⟨_, _, _, _, _⟩ := blk2 qQ; go_simp; (try with_reducible rfl)))
              try simp only [Act.put, List.getElem_toArray, List.getElem_cons_succ, List.getElem_cons_zero, List.setIfInBounds_toArray, List.set_cons_zero, List.set_cons_succ]
              refine wpAnyH_take (i := 9) (oi := _) (v := ?_) rfl (by kernel_rfl) (by kernel_rfl) (by kernel_rfl) (fun _ _ _ h => h) (Or.inl ⟨by rfl, ?_⟩) (by assumption) ?_
              (rotate_left); (focus (intro wv hSw; (obtain ⟨qP, qQ, qB⟩ := hSw); obtain ⟨_, _, _, _, _⟩ := blk2 qP; obtain ⟨_, _, _, _, _⟩ := blk2 qQ; go_simp; (try with_reducible rfl)))
              try simp only [Act.put, List.getElem_toArray, List.getElem_cons_succ, List.getElem_cons_zero, List.setIfInBounds_toArray, List.set_cons_zero, List.set_cons_succ]
              refine wpAnyH_take (i := 11) (oi := _) (v := ?_) rfl (by kernel_rfl) (by kernel_rfl) (by kernel_rfl) (fun _ _ _ h => h) (Or.inl ⟨by rfl, ?_⟩) (by assumption) ?_
              (rotate_left); (focus (intro wv hSw; (obtain ⟨qP, qQ, qB⟩ := hSw); obtain ⟨_, _, _, _, _⟩ := blk2 qP; obtain ⟨_, _, _, _, _⟩ := blk2 qQ; go_simp; (try with_reducible rfl)))
              try simp only [Act.put, List.getElem_toArray, List.getElem_cons_succ, List.getElem_cons_zero, List.setIfInBounds_toArray, List.set_cons_zero, List.set_cons_succ]
              refine wpAnyH_ready (rs := [12]) (by kernel_rfl) (by simp) ?_
              refine AllReadyH.cons (o := _) rfl (fun K hK => ?_) (AllReadyH.nil)
              obtain ⟨sc0_0ccacc, sc1_0ccacc, sf0_0ccacc, sf1_0ccacc, sz_0ccacc⟩ := blk2 hN_0ccac
              go_simp
              refine hK.out _ _ ⟨blk_store2 hP_0ccac (Nat.ne_of_lt zNP_0cca) _ _, blk_store2 hQ_0ccac (Nat.ne_of_lt zNQ_0cca) _ _, store2_bel hB_0ccac zNB_0cca _ _⟩ (fun hHeld => ?_)
              clear hK K
              try simp only [Act.put, List.getElem_toArray, List.getElem_cons_succ, List.getElem_cons_zero, List.setIfInBounds_toArray, List.set_cons_zero, List.set_cons_succ]
              obtain ⟨hP_0ccacc, hQ_0ccacc, hB_0ccacc⟩ := id hHeld
              have hN_0ccacc := blk2_set (a := .bool r) (b := .int .i64 u) hN_0ccac
              have hS_0ccacc := SOwn.boxO hS_0ccac hN_0ccac (by decide) (.bool r) (.int .i64 u)
              refine wpAnyH_done (by kernel_rfl) ?_ _
              go_wp2_with fail
              go_meet
              exact ⟨_, _, _, (by rw [HM.out]), rfl, hN_0ccacc, hS_0ccacc, hB_0ccacc⟩
          · go_simp
            refine hK.out _ _ ⟨blk_old hP_0c _, blk_old hQ_0c _, hB_0c.alloc (by have := hB_0c.size; omega) _⟩ (fun hHeld => ?_)
            clear hK K
            try simp only [Act.put, List.getElem_toArray, List.getElem_cons_succ, List.getElem_cons_zero, List.setIfInBounds_toArray, List.set_cons_zero, List.set_cons_succ]
            obtain ⟨hP_0ca, hQ_0ca, hB_0ca⟩ := id hHeld
            have hN_0ca : (x0c.alloc (.cells #[.bool false, .int .i64 0] 47)).heap[x0c.heap.size]? = some (.cells #[.bool false, .int .i64 0] 47) := by have := blk_new (x0c) (.cells #[.bool false, .int .i64 0] 47); simpa using this
            have zNP_0ca : w.heap.size < x0c.heap.size := by have := blk_lt hP_0c; simpa using this
            have zNQ_0ca : w.heap.size + 1 < x0c.heap.size := by have := blk_lt hQ_0c; simpa using this
            have zNB_0ca : w2.heap.size ≤ x0c.heap.size := by have := hB_0c.size; simpa using this
            have hD_0ca := hD_0c.next (bel1 (x0c) (.cells #[.bool false, .int .i64 0] 47))
            refine wpAnyH_ready (rs := [3]) (by kernel_rfl) (by simp) ?_
            refine AllReadyH.cons (o := _) rfl (fun K hK => ?_) (AllReadyH.nil)
            go_simp
            (go_at_call 13; refine (toBand_any _ _ _).mono ?_; rintro e x0cac ⟨rfl, hw_0cac⟩)
            refine hK.out _ _ ⟨blk_next hP_0ca hw_0cac, blk_next hQ_0ca hw_0cac, bel_next hB_0ca hw_0cac⟩ (fun hHeld => ?_)
            clear hK K
            try simp only [Act.put, List.getElem_toArray, List.getElem_cons_succ, List.getElem_cons_zero, List.setIfInBounds_toArray, List.set_cons_zero, List.set_cons_succ]
            obtain ⟨hP_0cac, hQ_0cac, hB_0cac⟩ := id hHeld
            have hN_0cac := blk_next hN_0ca hw_0cac
            have hD_0cac := hD_0ca.next hw_0cac
            refine wpAnyH_ready (rs := [6]) (by kernel_rfl) (by simp) ?_
            refine AllReadyH.cons (o := _) rfl (fun K hK => ?_) (AllReadyH.nil)
            go_simp
            (go_at_call 39; refine (iPa_is _ _ xs3 _ rfl hD_0cac.row (by omega) HL.out HR.out HU.out).mono ?_; rintro e x0cacc ⟨A9, c9, rfl, hS_0cacc, hw_0cacc⟩)
            refine hK.out _ _ ⟨blk_next hP_0cac hw_0cacc, blk_next hQ_0cac hw_0cacc, bel_next hB_0cac hw_0cacc⟩ (fun hHeld => ?_)
            clear hK K
            try simp only [Act.put, List.getElem_toArray, List.getElem_cons_succ, List.getElem_cons_zero, List.setIfInBounds_toArray, List.set_cons_zero, List.set_cons_succ]
            obtain ⟨hP_0cacc, hQ_0cacc, hB_0cacc⟩ := id hHeld
            have hN_0cacc := blk_next hN_0cac hw_0cacc
            have hD_0cacc := hD_0cac.next hw_0cacc
            have hS_0cacc := hS_0cacc.mono (base' := w2.heap.size) hB_0cac.size
            refine wpAnyH_take (i := 7) (oi := _) (v := ?_) rfl (by kernel_rfl) (by kernel_rfl) (by kernel_rfl) (fun _ _ _ h => h) (Or.inl ⟨by rfl, ?_⟩) (by assumption) ?_
            (rotate_left); (focus (intro wv hSw; (obtain ⟨qP, qQ, qB⟩ := hSw); obtain ⟨_, _, _, _, _⟩ := blk2 qP; obtain ⟨_, _, _, _, _⟩ := blk2 qQ; go_simp; (try with_reducible rfl)))
            try simp only [Act.put, List.getElem_toArray, List.getElem_cons_succ, List.getElem_cons_zero, List.setIfInBounds_toArray, List.set_cons_zero, List.set_cons_succ]
            refine wpAnyH_take (i := 8) (oi := _) (v := ?_) rfl (by kernel_rfl) (by kernel_rfl) (by kernel_rfl) (fun _ _ _ h => h) (Or.inl ⟨by rfl, ?_⟩) (by assumption) ?_
            (rotate_left); (focus (intro wv hSw; (obtain ⟨qP, qQ, qB⟩ := hSw); obtain ⟨_, _, _, _, _⟩ := blk2 qP; obtain ⟨_, _, _, _, _⟩ := blk2 qQ; go_simp; (try with_reducible rfl)))
            try simp only [Act.put, List.getElem_toArray, List.getElem_cons_succ, List.getElem_cons_zero, List.setIfInBounds_toArray, List.set_cons_zero, List.set_cons_succ]
            refine wpAnyH_take (i := 9) (oi := _) (v := ?_) rfl (by kernel_rfl) (by kernel_rfl) (by kernel_rfl) (fun _ _ _ h => h) (Or.inl ⟨by rfl, ?_⟩) (by assumption) ?_
            (rotate_left); (focus (intro wv hSw; (obtain ⟨qP, qQ, qB⟩ := hSw); obtain ⟨_, _, _, _, _⟩ := blk2 qP; obtain ⟨_, _, _, _, _⟩ := blk2 qQ; go_simp; (try with_reducible rfl)))
            try simp only [Act.put, List.getElem_toArray, List.getElem_cons_succ, List.getElem_cons_zero, List.setIfInBounds_toArray, List.set_cons_zero, List.set_cons_succ]
            refine wpAnyH_take (i := 11) (oi := _) (v := ?_) rfl (by kernel_rfl) (by kernel_rfl) (by kernel_rfl) (fun _ _ _ h => h) (Or.inl ⟨by rfl, ?_⟩) (by assumption) ?_
            (rotate_left); (focus (intro wv hSw; (obtain ⟨qP, qQ, qB⟩ := hSw); obtain ⟨_, _, _, _, _⟩ := blk2 qP; obtain ⟨_, _, _, _, _⟩ := blk2 qQ; go_simp; (try with_reducible rfl)))
            try simp only [Act.put, List.getElem_toArray, List.getElem_cons_succ, List.getElem_cons_zero, List.setIfInBounds_toArray, List.set_cons_zero, List.set_cons_succ]
            refine wpAnyH_ready (rs := [12]) (by kernel_rfl) (by simp) ?_
            refine AllReadyH.cons (o := _) rfl (fun K hK => ?_) (AllReadyH.nil)
            obtain ⟨sc0_0caccc, sc1_0caccc, sf0_0caccc, sf1_0caccc, sz_0caccc⟩ := blk2 hN_0cacc
            go_simp
            refine hK.out _ _ ⟨blk_store2 hP_0cacc (Nat.ne_of_lt zNP_0ca) _ _, blk_store2 hQ_0cacc (Nat.ne_of_lt zNQ_0ca) _ _, store2_bel hB_0cacc zNB_0ca _ _⟩ (fun hHeld => ?_)
            clear hK K
            try simp only [Act.put, List.getElem_toArray, List.getElem_cons_succ, List.getElem_cons_zero, List.setIfInBounds_toArray, List.set_cons_zero, List.set_cons_succ]
            obtain ⟨hP_0caccc, hQ_0caccc, hB_0caccc⟩ := id hHeld
            have hN_0caccc := blk2_set (a := .bool r) (b := .int .i64 u) hN_0cacc
            have hS_0caccc := SOwn.boxO hS_0cacc hN_0cacc (by decide) (.bool r) (.int .i64 u)
            refine wpAnyH_done (by kernel_rfl) ?_ _
            go_wp2_with fail
            go_meet
            exact ⟨_, _, _, (by rw [HM.out]), rfl, hN_0caccc, hS_0caccc, hB_0caccc⟩
        · go_simp
          refine hK.out _ _ ⟨blk_old hP_0 _, blk_old hQ_0 _, hB_0.alloc (by have := hB_0.size; omega) _⟩ (fun hHeld => ?_)
          clear hK K
          try simp only [Act.put, List.getElem_toArray, List.getElem_cons_succ, List.getElem_cons_zero, List.setIfInBounds_toArray, List.set_cons_zero, List.set_cons_succ]
          obtain ⟨hP_0a, hQ_0a, hB_0a⟩ := id hHeld
          have hN_0a : (w2.drew.alloc (.cells #[.bool false, .int .i64 0] 47)).heap[w2.heap.size]? = some (.cells #[.bool false, .int .i64 0] 47) := by have := blk_new (w2.drew) (.cells #[.bool false, .int .i64 0] 47); simpa using this
          have zNP_0a : w.heap.size < w2.heap.size := by have := blk_lt hP_0; simpa using this
          have zNQ_0a : w.heap.size + 1 < w2.heap.size := by have := blk_lt hQ_0; simpa using this
          have zNB_0a : w2.heap.size ≤ w2.heap.size := by have := hB_0.size; simpa using this
          have hD_0a := hD_0.next (bel1 (w2.drew) (.cells #[.bool false, .int .i64 0] 47))
          refine wpAnyH_ready (rs := [1]) (by kernel_rfl) (by simp) ?_
          refine AllReadyH.cons (o := _) rfl (fun K hK => ?_) (AllReadyH.nil)
          go_simp
          (go_at_call 33; refine (toBlind_any _ _ _).mono ?_; rintro e x0ac ⟨rfl, hw_0ac⟩)
          refine hK.out _ _ ⟨blk_next hP_0a hw_0ac, blk_next hQ_0a hw_0ac, bel_next hB_0a hw_0ac⟩ (fun hHeld => ?_)
          clear hK K
          try simp only [Act.put, List.getElem_toArray, List.getElem_cons_succ, List.getElem_cons_zero, List.setIfInBounds_toArray, List.set_cons_zero, List.set_cons_succ]
          obtain ⟨hP_0ac, hQ_0ac, hB_0ac⟩ := id hHeld
          have hN_0ac := blk_next hN_0a hw_0ac
          have hD_0ac := hD_0a.next hw_0ac
          refine wpAnyH_ready (rs := [3]) (by kernel_rfl) (by simp) ?_
          refine AllReadyH.cons (o := _) rfl (fun K hK => ?_) (AllReadyH.nil)
          go_simp
          (go_at_call 13; refine (toBand_any _ _ _).mono ?_; rintro e x0acc ⟨rfl, hw_0acc⟩)
          refine hK.out _ _ ⟨blk_next hP_0ac hw_0acc, blk_next hQ_0ac hw_0acc, bel_next hB_0ac hw_0acc⟩ (fun hHeld => ?_)
          clear hK K
          try simp only [Act.put, List.getElem_toArray, List.getElem_cons_succ, List.getElem_cons_zero, List.setIfInBounds_toArray, List.set_cons_zero, List.set_cons_succ]
          obtain ⟨hP_0acc, hQ_0acc, hB_0acc⟩ := id hHeld
          have hN_0acc := blk_next hN_0ac hw_0acc
          have hD_0acc := hD_0ac.next hw_0acc
          refine wpAnyH_ready (rs := [6]) (by kernel_rfl) (by simp) ?_
          refine AllReadyH.cons (o := _) rfl (fun K hK => ?_) (AllReadyH.nil)
          go_simp
          (go_at_call 39; refine (iPa_is _ _ xs3 _ rfl hD_0acc.row (by omega) HL.out HR.out HU.out).mono ?_; rintro e x0accc ⟨A9, c9, rfl, hS_0accc, hw_0accc⟩)
          refine hK.out _ _ ⟨blk_next hP_0acc hw_0accc, blk_next hQ_0acc hw_0accc, bel_next hB_0acc hw_0accc⟩ (fun hHeld => ?_)
          clear hK K
          try simp only [Act.put, List.getElem_toArray, List.getElem_cons_succ, List.getElem_cons_zero, List.setIfInBounds_toArray, List.set_cons_zero, List.set_cons_succ]
          obtain ⟨hP_0accc, hQ_0accc, hB_0accc⟩ := id hHeld
          have hN_0accc := blk_next hN_0acc hw_0accc
          have hD_0accc := hD_0acc.next hw_0accc
          have hS_0accc := hS_0accc.mono (base' := w2.heap.size) hB_0acc.size
          refine wpAnyH_take (i := 7) (oi := _) (v := ?_) rfl (by kernel_rfl) (by kernel_rfl) (by kernel_rfl) (fun _ _ _ h => h) (Or.inl ⟨by rfl, ?_⟩) (by assumption) ?_
          (rotate_left); (focus (intro wv hSw; (obtain ⟨qP, qQ, qB⟩ := hSw); obtain ⟨_, _, _, _, _⟩ := blk2 qP; obtain ⟨_, _, _, _, _⟩ := blk2 qQ; go_simp; (try with_reducible rfl)))
          try simp only [Act.put, List.getElem_toArray, List.getElem_cons_succ, List.getElem_cons_zero, List.setIfInBounds_toArray, List.set_cons_zero, List.set_cons_succ]
          refine wpAnyH_take (i := 8) (oi := _) (v := ?_) rfl (by kernel_rfl) (by kernel_rfl) (by kernel_rfl) (fun _ _ _ h => h) (Or.inl ⟨by rfl, ?_⟩) (by assumption) ?_
          (rotate_left); (focus (intro wv hSw; (obtain ⟨qP, qQ, qB⟩ := hSw); obtain ⟨_, _, _, _, _⟩ := blk2 qP; obtain ⟨_, _, _, _, _⟩ := blk2 qQ; go_simp; (try with_reducible rfl)))
          try simp only [Act.put, List.getElem_toArray, List.getElem_cons_succ, List.getElem_cons_zero, List.setIfInBounds_toArray, List.set_cons_zero, List.set_cons_succ]
          refine wpAnyH_take (i := 9) (oi := _) (v := ?_) rfl (by kernel_rfl) (by kernel_rfl) (by kernel_rfl) (fun _ _ _ h => h) (Or.inl ⟨by rfl, ?_⟩) (by assumption) ?_
          (rotate_left); (focus (intro wv hSw; (obtain ⟨qP, qQ, qB⟩ := hSw); obtain ⟨_, _, _, _, _⟩ := blk2 qP; obtain ⟨_, _, _, _, _⟩ := blk2 qQ; go_simp; (try with_reducible rfl)))
          try simp only [Act.put, List.getElem_toArray, List.getElem_cons_succ, List.getElem_cons_zero, List.setIfInBounds_toArray, List.set_cons_zero, List.set_cons_succ]
          refine wpAnyH_take (i := 11) (oi := _) (v := ?_) rfl (by kernel_rfl) (by kernel_rfl) (by kernel_rfl) (fun _ _ _ h => h) (Or.inl ⟨by rfl, ?_⟩) (by assumption) ?_
          (rotate_left); (focus (intro wv hSw; (obtain ⟨qP, qQ, qB⟩ := hSw); obtain ⟨_, _, _, _, _⟩ := blk2 qP; obtain ⟨_, _, _, _, _⟩ := blk2 qQ; go_simp; (try with_reducible rfl)))
          try simp only [Act.put, List.getElem_toArray, List.getElem_cons_succ, List.getElem_cons_zero, List.setIfInBounds_toArray, List.set_cons_zero, List.set_cons_succ]
          refine wpAnyH_ready (rs := [12]) (by kernel_rfl) (by simp) ?_
          refine AllReadyH.cons (o := _) rfl (fun K hK => ?_) (AllReadyH.nil)
          obtain ⟨sc0_0acccc, sc1_0acccc, sf0_0acccc, sf1_0acccc, sz_0acccc⟩ := blk2 hN_0accc
          go_simp
          refine hK.out _ _ ⟨blk_store2 hP_0accc (Nat.ne_of_lt zNP_0a) _ _, blk_store2 hQ_0accc (Nat.ne_of_lt zNQ_0a) _ _, store2_bel hB_0accc zNB_0a _ _⟩ (fun hHeld => ?_)
          clear hK K
          try simp only [Act.put, List.getElem_toArray, List.getElem_cons_succ, List.getElem_cons_zero, List.setIfInBounds_toArray, List.set_cons_zero, List.set_cons_succ]
          obtain ⟨hP_0acccc, hQ_0acccc, hB_0acccc⟩ := id hHeld
          have hN_0acccc := blk2_set (a := .bool r) (b := .int .i64 u) hN_0accc
          have hS_0acccc := SOwn.boxO hS_0accc hN_0accc (by decide) (.bool r) (.int .i64 u)
          refine wpAnyH_done (by kernel_rfl) ?_ _
          go_wp2_with fail
          go_meet
          exact ⟨_, _, _, (by rw [HM.out]), rfl, hN_0acccc, hS_0acccc, hB_0acccc⟩
      case rest =>
        obtain ⟨C3, A3_, c3_, rfl, rfl, hN3, hI3, hBb⟩ := hcut
        have hP3 := blk_next hP2 hBb
        have hQ3 := blk_next hQ2 hBb
        have hK3 := blk_next hK2 hBb
        have hA3_3 := hA3_2.next hBb
        have hS3 := hS2.next hBb
        have hB3 := bel_next hB2 hBb
        have hz3 := hB3.size
        have hzz3 := hBb.size
        have hD3_3 := hD3_2.next hBb
        clear hBb
        have hIge : ∀ g, A3_ = some ⟨g, 0, none⟩ → w2.heap.size ≤ g := fun g hg => by rcases hI3.form with ⟨e, _⟩ | ⟨g1, e, h, _⟩; rw [e] at hg; cases hg; rw [e] at hg; cases hg; exact h
        go_wp2_with fail
        refine (eqBoolS_same _ _ _ _ l HM.out hI3.row hS3.row (by omega)).mono ?_; rintro e' w4 ⟨rfl, hw4⟩
        have hP4 := blk_next hP3 hw4
        have hQ4 := blk_next hQ3 hw4
        have hK4 := blk_next hK3 hw4
        have hN4 := blk_next hN3 hw4
        have hA3_4 := hA3_3.next hw4
        have hS4 := hS3.next hw4
        have hI4 := hI3.next hw4
        have hD3_4 := hD3_3.next hw4
        have hB4 := bel_next hB3 hw4
        have hz4 := hw4.size
        obtain ⟨cN4_0, cN4_1, fN4_0, fN4_1, zN4⟩ := blk2 hN4
        obtain ⟨cK4_0, cK4_1, fK4_0, fK4_1, zK4⟩ := blk2 hK4
        go_wp2_with fail
        refine (eqBlind_same _ _ _).mono ?_; rintro e' w5 ⟨rfl, hw5⟩
        have hP5 := blk_next hP4 hw5
        have hQ5 := blk_next hQ4 hw5
        have hK5 := blk_next hK4 hw5
        have hN5 := blk_next hN4 hw5
        have hA3_5 := hA3_4.next hw5
        have hS5 := hS4.next hw5
        have hI5 := hI4.next hw5
        have hD3_5 := hD3_4.next hw5
        have hB5 := bel_next hB4 hw5
        have hz5 := hw5.size
        go_wp2_with fail
        refine (toNumS_any A3 cap3 xs3 _ hA3_5 (by omega)).mono ?_; rintro e' w6 ⟨gE3_, rfl, hgE3_, hE3_6, hw6⟩
        have hP6 := blk_next hP5 hw6
        have hQ6 := blk_next hQ5 hw6
        have hK6 := blk_next hK5 hw6
        have hN6 := blk_next hN5 hw6
        have hA3_6 := hA3_5.next hw6
        have hS6 := hS5.next hw6
        have hI6 := hI5.next hw6
        have hD3_6 := hD3_5.next hw6
        have hB6 := bel_next hB5 hw6
        have hz6 := hw6.size
        go_wp2_with fail
        refine (eqNumS_same _ _ _ _ xs3 rfl hD3_6.row hE3_6.row (by omega)).mono ?_; rintro e' w7 ⟨rfl, hw7⟩
        have hP7 := blk_next hP6 hw7
        have hQ7 := blk_next hQ6 hw7
        have hK7 := blk_next hK6 hw7
        have hN7 := blk_next hN6 hw7
        have hA3_7 := hA3_6.next hw7
        have hS7 := hS6.next hw7
        have hI7 := hI6.next hw7
        have hD3_7 := hD3_6.next hw7
        have hE3_7 := hE3_6.next hw7
        have hB7 := bel_next hB6 hw7
        have hz7 := hw7.size
        go_wp2_with fail
        refine (markNumS_any w.heap.size _ _ xs3 1 rfl (SOwn.of_blk (base := w.heap.size) hD3_7 (by omega) rfl l3) (by omega) (by omega) (by omega)).mono ?_; rintro e' wM3 ⟨rfl, hDM, hG⟩
        have hB8 : Below w.heap.size w wM3 := hB7.grown hG hB7.size (fun j hj => by simp [Value.ownBlock] at hj; omega)
        have hI8 := hI7.grown_far hG (fun g hg e => by have := hIge g hg; simp [Value.ownBlock] at e; omega)
        have hS8 := hS7.grown_far hG (fun g hg e => by have := hSlt g hg; simp [Value.ownBlock] at e; omega)
        have hP8 := blk_grownT hP7 (SOwn.of_blk (base := w.heap.size) hD3_7 (by omega) rfl l3) hG (by decide)
        have hQ8 := blk_grownT hQ7 (SOwn.of_blk (base := w.heap.size) hD3_7 (by omega) rfl l3) hG (by decide)
        have hK8 := blk_grownT hK7 (SOwn.of_blk (base := w.heap.size) hD3_7 (by omega) rfl l3) hG (by decide)
        have hN8 := blk_grownT hN7 (SOwn.of_blk (base := w.heap.size) hD3_7 (by omega) rfl l3) hG (by decide)
        have hA3_8 := hW3.next hB8
        have hzM3 := hG.size
        clear hG hDM
        have hk0 : ¬ (1 + (xs3.length : Int)) < 0 := by omega
        go_wp2_with fail
        refine (eqBoolS_same _ _ _ _ l HM.out hI8.row hS8.row (by omega)).mono ?_; rintro e' w9 ⟨rfl, hw9⟩
        have hP9 := blk_next hP8 hw9
        have hQ9 := blk_next hQ8 hw9
        have hK9 := blk_next hK8 hw9
        have hN9 := blk_next hN8 hw9
        have hA3_9 := hA3_8.next hw9
        have hS9 := hS8.next hw9
        have hI9 := hI8.next hw9
        have hB9 := bel_next hB8 hw9
        have hz9 := hw9.size
        obtain ⟨cN9_0, cN9_1, fN9_0, fN9_1, zN9⟩ := blk2 hN9
        obtain ⟨cK9_0, cK9_1, fK9_0, fK9_1, zK9⟩ := blk2 hK9
        go_wp2_with fail
        refine (eqBlind_same _ _ _).mono ?_; rintro e' w10 ⟨rfl, hw10⟩
        have hP10 := blk_next hP9 hw10
        have hQ10 := blk_next hQ9 hw10
        have hK10 := blk_next hK9 hw10
        have hN10 := blk_next hN9 hw10
        have hA3_10 := hA3_9.next hw10
        have hS10 := hS9.next hw10
        have hI10 := hI9.next hw10
        have hB10 := bel_next hB9 hw10
        have hz10 := hw10.size
        go_wp2_with fail
        refine (markBoolS_any w.heap.size _ _ l 1 HM.out (hI10.mono (by omega)) (by omega) (by omega) (by omega)).mono ?_; rintro e' wN ⟨rfl, hIN, hG⟩
        have hB11 : Below w.heap.size w wN := SOwn.below_grown (hI10.mono (by omega)) hB10 hG
        have hS11 := hS10.grown_far hG (fun g hg e => by have := hSlt g hg; rcases hI10.form with ⟨e2, _⟩ | ⟨g1, e2, h, _⟩; rw [e2] at e; simp [Value.ownBlock] at e; rw [e2] at e; simp [Value.ownBlock] at e; have := hIge g1 e2; omega)
        have hP11 := blk_grownT hP10 hI10 hG (by decide)
        have hQ11 := blk_grownT hQ10 hI10 hG (by decide)
        have hK11 := blk_grownT hK10 hI10 hG (by decide)
        have hN11 := blk_grownT hN10 hI10 hG (by decide)
        clear hG
        have hI11 := hIN
        have hA3_11 := hW3.next hB11
        go_wp2_with fail
        refine (heldBoolS_any A3_ c3_ 1 (m := m) hI11.row (by omega) (by omega) (by omega)).mono ?_; rintro e' w12 ⟨rfl, hw12⟩
        have hP12 := blk_next hP11 hw12
        have hQ12 := blk_next hQ11 hw12
        have hK12 := blk_next hK11 hw12
        have hN12 := blk_next hN11 hw12
        have hA3_12 := hA3_11.next hw12
        have hS12 := hS11.next hw12
        have hI12 := hI11.next hw12
        have hB12 := bel_next hB11 hw12
        have hk1 : ¬ (1 + (m : Int)) < 0 := by omega
        go_upto_region 22 with fail
        go_cut [17, 18] (fun sa sp wx => ∃ (C : Nat) (As : Option Addr) (cs : Nat), sa = .slice As m cs ∧ sp = .pointer (some ⟨C, 0, none⟩) ∧ wx.heap[C]? = some (.cells #[.bool r, .int .i64 u] 47) ∧ SOwn encBool wx w12.heap.size 4 As cs l ∧ Below w12.heap.size w12 wx)
        case first =>
          refine wp_region_held_drew (S := (fun w' => w'.heap[w.heap.size]? = some (.cells #[.bool a0_0, .int .i64 a0_1] 45) ∧ w'.heap[w.heap.size + 1]? = some (.cells #[.int .i64 a1_0, .int .i64 a1_1] 23) ∧ Below w12.heap.size w12 w')) (by kernel_rfl) ⟨hP12, hQ12, (Below.refl _ _).drew⟩ (fun hHeld => ?_)
          obtain ⟨hP_0, hQ_0, hB_0⟩ := id hHeld
          refine wpAnyH_take (i := 0) (oi := _) (v := ?_) rfl (by kernel_rfl) (by kernel_rfl) (by kernel_rfl) (fun _ _ _ h => h) (Or.inl ⟨by rfl, ?_⟩) (by assumption) ?_
          (rotate_left); (focus (intro wv hSw; (obtain ⟨qP, qQ, qB⟩ := hSw); obtain ⟨_, _, _, _, _⟩ := blk2 qP; obtain ⟨_, _, _, _, _⟩ := blk2 qQ; go_simp; (try with_reducible rfl)))
          try simp only [Act.put, List.getElem_toArray, List.getElem_cons_succ, List.getElem_cons_zero, List.setIfInBounds_toArray, List.set_cons_zero, List.set_cons_succ]
          refine wpAnyH_take (i := 2) (oi := _) (v := ?_) rfl (by kernel_rfl) (by kernel_rfl) (by kernel_rfl) (fun _ _ _ h => h) (Or.inl ⟨by rfl, ?_⟩) (by assumption) ?_
          (rotate_left); (focus (intro wv hSw; (obtain ⟨qP, qQ, qB⟩ := hSw); obtain ⟨_, _, _, _, _⟩ := blk2 qP; obtain ⟨_, _, _, _, _⟩ := blk2 qQ; go_simp; (try with_reducible rfl)))
          try simp only [Act.put, List.getElem_toArray, List.getElem_cons_succ, List.getElem_cons_zero, List.setIfInBounds_toArray, List.set_cons_zero, List.set_cons_succ]
          refine wpAnyH_take (i := 4) (oi := _) (v := ?_) rfl (by kernel_rfl) (by kernel_rfl) (by kernel_rfl) (fun _ _ _ h => h) (Or.inl ⟨by rfl, ?_⟩) (by assumption) ?_
          (rotate_left); (focus (intro wv hSw; (obtain ⟨qP, qQ, qB⟩ := hSw); obtain ⟨_, _, _, _, _⟩ := blk2 qP; obtain ⟨_, _, _, _, _⟩ := blk2 qQ; go_simp; (try with_reducible rfl)))
          try simp only [Act.put, List.getElem_toArray, List.getElem_cons_succ, List.getElem_cons_zero, List.setIfInBounds_toArray, List.set_cons_zero, List.set_cons_succ]
          refine wpAnyH_take (i := 5) (oi := _) (v := ?_) rfl (by kernel_rfl) (by kernel_rfl) (by kernel_rfl) (fun _ _ _ h => h) (Or.inl ⟨by rfl, ?_⟩) (by assumption) ?_
          (rotate_left); (focus (intro wv hSw; (obtain ⟨qP, qQ, qB⟩ := hSw); obtain ⟨_, _, _, _, _⟩ := blk2 qP; obtain ⟨_, _, _, _, _⟩ := blk2 qQ; go_simp; (try with_reducible rfl)))
          try simp only [Act.put, List.getElem_toArray, List.getElem_cons_succ, List.getElem_cons_zero, List.setIfInBounds_toArray, List.set_cons_zero, List.set_cons_succ]
          refine wpAnyH_ready (rs := [1, 11]) (by kernel_rfl) (by simp) ?_
          refine AllReadyH.cons (o := _) rfl (fun K hK => ?_) (AllReadyH.cons (o := _) rfl (fun K hK => ?_) (AllReadyH.nil))
          · go_simp
            (go_at_call 33; refine (toBlind_any _ _ _).mono ?_; rintro e x0c ⟨rfl, hw_0c⟩)
            refine hK.out _ _ ⟨blk_next hP_0 hw_0c, blk_next hQ_0 hw_0c, bel_next hB_0 hw_0c⟩ (fun hHeld => ?_)
            clear hK K
            try simp only [Act.put, List.getElem_toArray, List.getElem_cons_succ, List.getElem_cons_zero, List.setIfInBounds_toArray, List.set_cons_zero, List.set_cons_succ]
            obtain ⟨hP_0c, hQ_0c, hB_0c⟩ := id hHeld
            refine wpAnyH_ready (rs := [3, 11]) (by kernel_rfl) (by simp) ?_
            refine AllReadyH.cons (o := _) rfl (fun K hK => ?_) (AllReadyH.cons (o := _) rfl (fun K hK => ?_) (AllReadyH.nil))
            · go_simp
              (go_at_call 13; refine (toBand_any _ _ _).mono ?_; rintro e x0cc ⟨rfl, hw_0cc⟩)
              refine hK.out _ _ ⟨blk_next hP_0c hw_0cc, blk_next hQ_0c hw_0cc, bel_next hB_0c hw_0cc⟩ (fun hHeld => ?_)
              clear hK K
              try simp only [Act.put, List.getElem_toArray, List.getElem_cons_succ, List.getElem_cons_zero, List.setIfInBounds_toArray, List.set_cons_zero, List.set_cons_succ]
              obtain ⟨hP_0cc, hQ_0cc, hB_0cc⟩ := id hHeld
              refine wpAnyH_ready (rs := [6, 11]) (by kernel_rfl) (by simp) ?_
              refine AllReadyH.cons (o := _) rfl (fun K hK => ?_) (AllReadyH.cons (o := _) rfl (fun K hK => ?_) (AllReadyH.nil))
              · go_simp
                (go_at_call 16; refine (toNumS_any A3 cap3 xs3 _ (hA3_12.next hB_0cc) (by omega)).mono ?_; rintro e x0ccc ⟨g9, rfl, hg9, hC_0ccc, hw_0ccc⟩)
                refine hK.out _ _ ⟨blk_next hP_0cc hw_0ccc, blk_next hQ_0cc hw_0ccc, bel_next hB_0cc hw_0ccc⟩ (fun hHeld => ?_)
                clear hK K
                try simp only [Act.put, List.getElem_toArray, List.getElem_cons_succ, List.getElem_cons_zero, List.setIfInBounds_toArray, List.set_cons_zero, List.set_cons_succ]
                obtain ⟨hP_0ccc, hQ_0ccc, hB_0ccc⟩ := id hHeld
                refine wpAnyH_ready (rs := [7, 11]) (by kernel_rfl) (by simp) ?_
                refine AllReadyH.cons (o := _) rfl (fun K hK => ?_) (AllReadyH.cons (o := _) rfl (fun K hK => ?_) (AllReadyH.nil))
                · go_simp
                  (go_at_call 39; refine (iPa_is _ _ xs3 _ rfl hC_0ccc.row (by omega) HL.out HR.out HU.out).mono ?_; rintro e x0cccc ⟨A9, c9, rfl, hS_0cccc, hw_0cccc⟩)
                  refine hK.out _ _ ⟨blk_next hP_0ccc hw_0cccc, blk_next hQ_0ccc hw_0cccc, bel_next hB_0ccc hw_0cccc⟩ (fun hHeld => ?_)
                  clear hK K
                  try simp only [Act.put, List.getElem_toArray, List.getElem_cons_succ, List.getElem_cons_zero, List.setIfInBounds_toArray, List.set_cons_zero, List.set_cons_succ]
                  obtain ⟨hP_0cccc, hQ_0cccc, hB_0cccc⟩ := id hHeld
                  have hC_0cccc := hC_0ccc.next hw_0cccc
                  have hS_0cccc := hS_0cccc.mono (base' := w12.heap.size) hB_0ccc.size
                  refine wpAnyH_take (i := 8) (oi := _) (v := ?_) rfl (by kernel_rfl) (by kernel_rfl) (by kernel_rfl) (fun _ _ _ h => h) (Or.inl ⟨by rfl, ?_⟩) (by assumption) ?_
                  (rotate_left); (focus (intro wv hSw; (obtain ⟨qP, qQ, qB⟩ := hSw); obtain ⟨_, _, _, _, _⟩ := blk2 qP; obtain ⟨_, _, _, _, _⟩ := blk2 qQ; go_simp; (try with_reducible rfl)))
                  try simp only [Act.put, List.getElem_toArray, List.getElem_cons_succ, List.getElem_cons_zero, List.setIfInBounds_toArray, List.set_cons_zero, List.set_cons_succ]
                  refine wpAnyH_take (i := 9) (oi := _) (v := ?_) rfl (by kernel_rfl) (by kernel_rfl) (by kernel_rfl) (fun _ _ _ h => h) (Or.inl ⟨by rfl, ?_⟩) (by assumption) ?_
                  (rotate_left); (focus (intro wv hSw; (obtain ⟨qP, qQ, qB⟩ := hSw); obtain ⟨_, _, _, _, _⟩ := blk2 qP; obtain ⟨_, _, _, _, _⟩ := blk2 qQ; go_simp; (try with_reducible rfl)))
                  try simp only [Act.put, List.getElem_toArray, List.getElem_cons_succ, List.getElem_cons_zero, List.setIfInBounds_toArray, List.set_cons_zero, List.set_cons_succ]
                  refine wpAnyH_take (i := 10) (oi := _) (v := ?_) rfl (by kernel_rfl) (by kernel_rfl) (by kernel_rfl) (fun _ _ _ h => h) (Or.inl ⟨by rfl, ?_⟩) (by assumption) ?_
                  (rotate_left); (focus (intro wv hSw; (obtain ⟨qP, qQ, qB⟩ := hSw); obtain ⟨_, _, _, _, _⟩ := blk2 qP; obtain ⟨_, _, _, _, _⟩ := blk2 qQ; go_simp; (try with_reducible rfl)))
                  try simp only [Act.put, List.getElem_toArray, List.getElem_cons_succ, List.getElem_cons_zero, List.setIfInBounds_toArray, List.set_cons_zero, List.set_cons_succ]
                  refine wpAnyH_ready (rs := [11]) (by kernel_rfl) (by simp) ?_
                  refine AllReadyH.cons (o := _) rfl (fun K hK => ?_) (AllReadyH.nil)
                  go_simp
                  refine hK.out _ _ ⟨blk_old hP_0cccc _, blk_old hQ_0cccc _, hB_0cccc.alloc (by have := hB_0cccc.size; omega) _⟩ (fun hHeld => ?_)
                  clear hK K
                  try simp only [Act.put, List.getElem_toArray, List.getElem_cons_succ, List.getElem_cons_zero, List.setIfInBounds_toArray, List.set_cons_zero, List.set_cons_succ]
                  obtain ⟨hP_0cccca, hQ_0cccca, hB_0cccca⟩ := id hHeld
                  have hM_0cccca : (x0cccc.alloc (.cells #[.bool false, .int .i64 0] 47)).heap[x0cccc.heap.size]? = some (.cells #[.bool false, .int .i64 0] 47) := by have := blk_new (x0cccc) (.cells #[.bool false, .int .i64 0] 47); simpa using this
                  have zMP_0cccca : w.heap.size < x0cccc.heap.size := by have := blk_lt hP_0cccc; simpa using this
                  have zMQ_0cccca : w.heap.size + 1 < x0cccc.heap.size := by have := blk_lt hQ_0cccc; simpa using this
                  have zMB_0cccca : w12.heap.size ≤ x0cccc.heap.size := by have := hB_0cccc.size; simpa using this
                  have hC_0cccca := hC_0cccc.next (bel1 (x0cccc) (.cells #[.bool false, .int .i64 0] 47))
                  have hS_0cccca := hS_0cccc.next (bel1 (x0cccc) (.cells #[.bool false, .int .i64 0] 47))
                  refine wpAnyH_take (i := 12) (oi := _) (v := ?_) rfl (by kernel_rfl) (by kernel_rfl) (by kernel_rfl) (fun _ _ _ h => h) (Or.inl ⟨by rfl, ?_⟩) (by assumption) ?_
                  (rotate_left); (focus (intro wv hSw; (obtain ⟨qP, qQ, qB⟩ := hSw); obtain ⟨_, _, _, _, _⟩ := blk2 qP; obtain ⟨_, _, _, _, _⟩ := blk2 qQ; go_simp; (try with_reducible rfl)))
                  try simp only [Act.put, List.getElem_toArray, List.getElem_cons_succ, List.getElem_cons_zero, List.setIfInBounds_toArray, List.set_cons_zero, List.set_cons_succ]
                  refine wpAnyH_ready (rs := [13]) (by kernel_rfl) (by simp) ?_
                  refine AllReadyH.cons (o := _) rfl (fun K hK => ?_) (AllReadyH.nil)
                  obtain ⟨sc0_0ccccac, sc1_0ccccac, sf0_0ccccac, sf1_0ccccac, sz_0ccccac⟩ := blk2 hM_0cccca
                  go_simp
                  refine hK.out _ _ ⟨blk_old hP_0cccc _, blk_old hQ_0cccc _, hB_0cccc.alloc (by have := hB_0cccc.size; omega) _⟩ (fun hHeld => ?_)
                  clear hK K
                  try simp only [Act.put, List.getElem_toArray, List.getElem_cons_succ, List.getElem_cons_zero, List.setIfInBounds_toArray, List.set_cons_zero, List.set_cons_succ]
                  obtain ⟨hP_0ccccac, hQ_0ccccac, hB_0ccccac⟩ := id hHeld
                  have hM_0ccccac : (x0cccc.alloc (.cells #[.bool r, .int .i64 u] 47)).heap[x0cccc.heap.size]? = some (.cells #[.bool r, .int .i64 u] 47) := by have := blk_new (x0cccc) (.cells #[.bool r, .int .i64 u] 47); simpa using this
                  have hC_0ccccac := hC_0cccc.next (bel1 (x0cccc) (.cells #[.bool r, .int .i64 u] 47))
                  have hS_0ccccac := hS_0cccc.next (bel1 (x0cccc) (.cells #[.bool r, .int .i64 u] 47))
                  refine wpAnyH_done (by kernel_rfl) ?_ _
                  go_wp2_with fail
                  go_meet
                  exact ⟨_, _, _, (by rw [HM.out]), rfl, hM_0ccccac, hS_0ccccac, hB_0ccccac⟩
                · go_simp
                  refine hK.out _ _ ⟨blk_old hP_0ccc _, blk_old hQ_0ccc _, hB_0ccc.alloc (by have := hB_0ccc.size; omega) _⟩ (fun hHeld => ?_)
                  clear hK K
                  try simp only [Act.put, List.getElem_toArray, List.getElem_cons_succ, List.getElem_cons_zero, List.setIfInBounds_toArray, List.set_cons_zero, List.set_cons_succ]
                  obtain ⟨hP_0ccca, hQ_0ccca, hB_0ccca⟩ := id hHeld
                  have hM_0ccca : (x0ccc.alloc (.cells #[.bool false, .int .i64 0] 47)).heap[x0ccc.heap.size]? = some (.cells #[.bool false, .int .i64 0] 47) := by have := blk_new (x0ccc) (.cells #[.bool false, .int .i64 0] 47); simpa using this
                  have zMP_0ccca : w.heap.size < x0ccc.heap.size := by have := blk_lt hP_0ccc; simpa using this
                  have zMQ_0ccca : w.heap.size + 1 < x0ccc.heap.size := by have := blk_lt hQ_0ccc; simpa using this
                  have zMB_0ccca : w12.heap.size ≤ x0ccc.heap.size := by have := hB_0ccc.size; simpa using this
                  have hC_0ccca := hC_0ccc.next (bel1 (x0ccc) (.cells #[.bool false, .int .i64 0] 47))
                  refine wpAnyH_ready (rs := [7]) (by kernel_rfl) (by simp) ?_
                  refine AllReadyH.cons (o := _) rfl (fun K hK => ?_) (AllReadyH.nil)
                  go_simp
                  (go_at_call 39; refine (iPa_is _ _ xs3 _ rfl hC_0ccca.row (by omega) HL.out HR.out HU.out).mono ?_; rintro e x0cccac ⟨A9, c9, rfl, hS_0cccac, hw_0cccac⟩)
                  refine hK.out _ _ ⟨blk_next hP_0ccca hw_0cccac, blk_next hQ_0ccca hw_0cccac, bel_next hB_0ccca hw_0cccac⟩ (fun hHeld => ?_)
                  clear hK K
                  try simp only [Act.put, List.getElem_toArray, List.getElem_cons_succ, List.getElem_cons_zero, List.setIfInBounds_toArray, List.set_cons_zero, List.set_cons_succ]
                  obtain ⟨hP_0cccac, hQ_0cccac, hB_0cccac⟩ := id hHeld
                  have hM_0cccac := blk_next hM_0ccca hw_0cccac
                  have hC_0cccac := hC_0ccca.next hw_0cccac
                  have hS_0cccac := hS_0cccac.mono (base' := w12.heap.size) hB_0ccca.size
                  refine wpAnyH_take (i := 8) (oi := _) (v := ?_) rfl (by kernel_rfl) (by kernel_rfl) (by kernel_rfl) (fun _ _ _ h => h) (Or.inl ⟨by rfl, ?_⟩) (by assumption) ?_
                  (rotate_left); (focus (intro wv hSw; (obtain ⟨qP, qQ, qB⟩ := hSw); obtain ⟨_, _, _, _, _⟩ := blk2 qP; obtain ⟨_, _, _, _, _⟩ := blk2 qQ; go_simp; (try with_reducible rfl)))
                  try simp only [Act.put, List.getElem_toArray, List.getElem_cons_succ, List.getElem_cons_zero, List.setIfInBounds_toArray, List.set_cons_zero, List.set_cons_succ]
                  refine wpAnyH_take (i := 9) (oi := _) (v := ?_) rfl (by kernel_rfl) (by kernel_rfl) (by kernel_rfl) (fun _ _ _ h => h) (Or.inl ⟨by rfl, ?_⟩) (by assumption) ?_
                  (rotate_left); (focus (intro wv hSw; (obtain ⟨qP, qQ, qB⟩ := hSw); obtain ⟨_, _, _, _, _⟩ := blk2 qP; obtain ⟨_, _, _, _, _⟩ := blk2 qQ; go_simp; (try with_reducible rfl)))
                  try simp only [Act.put, List.getElem_toArray, List.getElem_cons_succ, List.getElem_cons_zero, List.setIfInBounds_toArray, List.set_cons_zero, List.set_cons_succ]
                  refine wpAnyH_take (i := 10) (oi := _) (v := ?_) rfl (by kernel_rfl) (by kernel_rfl) (by kernel_rfl) (fun _ _ _ h => h) (Or.inl ⟨by rfl, ?_⟩) (by assumption) ?_
                  (rotate_left); (focus (intro wv hSw; (obtain ⟨qP, qQ, qB⟩ := hSw); obtain ⟨_, _, _, _, _⟩ := blk2 qP; obtain ⟨_, _, _, _, _⟩ := blk2 qQ; go_simp; (try with_reducible rfl)))
                  try simp only [Act.put, List.getElem_toArray, List.getElem_cons_succ, List.getElem_cons_zero, List.setIfInBounds_toArray, List.set_cons_zero, List.set_cons_succ]
                  refine wpAnyH_take (i := 12) (oi := _) (v := ?_) rfl (by kernel_rfl) (by kernel_rfl) (by kernel_rfl) (fun _ _ _ h => h) (Or.inl ⟨by rfl, ?_⟩) (by assumption) ?_
                  (rotate_left); (focus (intro wv hSw; (obtain ⟨qP, qQ, qB⟩ := hSw); obtain ⟨_, _, _, _, _⟩ := blk2 qP; obtain ⟨_, _, _, _, _⟩ := blk2 qQ; go_simp; (try with_reducible rfl)))
                  try simp only [Act.put, List.getElem_toArray, List.getElem_cons_succ, List.getElem_cons_zero, List.setIfInBounds_toArray, List.set_cons_zero, List.set_cons_succ]
                  refine wpAnyH_ready (rs := [13]) (by kernel_rfl) (by simp) ?_
                  refine AllReadyH.cons (o := _) rfl (fun K hK => ?_) (AllReadyH.nil)
                  obtain ⟨sc0_0cccacc, sc1_0cccacc, sf0_0cccacc, sf1_0cccacc, sz_0cccacc⟩ := blk2 hM_0cccac
                  go_simp
                  refine hK.out _ _ ⟨blk_store2 hP_0cccac (Nat.ne_of_lt zMP_0ccca) _ _, blk_store2 hQ_0cccac (Nat.ne_of_lt zMQ_0ccca) _ _, store2_bel hB_0cccac zMB_0ccca _ _⟩ (fun hHeld => ?_)
                  clear hK K
                  try simp only [Act.put, List.getElem_toArray, List.getElem_cons_succ, List.getElem_cons_zero, List.setIfInBounds_toArray, List.set_cons_zero, List.set_cons_succ]
                  obtain ⟨hP_0cccacc, hQ_0cccacc, hB_0cccacc⟩ := id hHeld
                  have hM_0cccacc := blk2_set (a := .bool r) (b := .int .i64 u) hM_0cccac
                  have hS_0cccacc := SOwn.boxO hS_0cccac hM_0cccac (by decide) (.bool r) (.int .i64 u)
                  refine wpAnyH_done (by kernel_rfl) ?_ _
                  go_wp2_with fail
                  go_meet
                  exact ⟨_, _, _, (by rw [HM.out]), rfl, hM_0cccacc, hS_0cccacc, hB_0cccacc⟩
              · go_simp
                refine hK.out _ _ ⟨blk_old hP_0cc _, blk_old hQ_0cc _, hB_0cc.alloc (by have := hB_0cc.size; omega) _⟩ (fun hHeld => ?_)
                clear hK K
                try simp only [Act.put, List.getElem_toArray, List.getElem_cons_succ, List.getElem_cons_zero, List.setIfInBounds_toArray, List.set_cons_zero, List.set_cons_succ]
                obtain ⟨hP_0cca, hQ_0cca, hB_0cca⟩ := id hHeld
                have hM_0cca : (x0cc.alloc (.cells #[.bool false, .int .i64 0] 47)).heap[x0cc.heap.size]? = some (.cells #[.bool false, .int .i64 0] 47) := by have := blk_new (x0cc) (.cells #[.bool false, .int .i64 0] 47); simpa using this
                have zMP_0cca : w.heap.size < x0cc.heap.size := by have := blk_lt hP_0cc; simpa using this
                have zMQ_0cca : w.heap.size + 1 < x0cc.heap.size := by have := blk_lt hQ_0cc; simpa using this
                have zMB_0cca : w12.heap.size ≤ x0cc.heap.size := by have := hB_0cc.size; simpa using this
                refine wpAnyH_ready (rs := [6]) (by kernel_rfl) (by simp) ?_
                refine AllReadyH.cons (o := _) rfl (fun K hK => ?_) (AllReadyH.nil)
                go_simp
                (go_at_call 16; refine (toNumS_any A3 cap3 xs3 _ (hA3_12.next hB_0cca) (by omega)).mono ?_; rintro e x0ccac ⟨g9, rfl, hg9, hC_0ccac, hw_0ccac⟩)
                refine hK.out _ _ ⟨blk_next hP_0cca hw_0ccac, blk_next hQ_0cca hw_0ccac, bel_next hB_0cca hw_0ccac⟩ (fun hHeld => ?_)
                clear hK K
                try simp only [Act.put, List.getElem_toArray, List.getElem_cons_succ, List.getElem_cons_zero, List.setIfInBounds_toArray, List.set_cons_zero, List.set_cons_succ]
                obtain ⟨hP_0ccac, hQ_0ccac, hB_0ccac⟩ := id hHeld
                have hM_0ccac := blk_next hM_0cca hw_0ccac
                refine wpAnyH_ready (rs := [7]) (by kernel_rfl) (by simp) ?_
                refine AllReadyH.cons (o := _) rfl (fun K hK => ?_) (AllReadyH.nil)
                go_simp
                (go_at_call 39; refine (iPa_is _ _ xs3 _ rfl hC_0ccac.row (by omega) HL.out HR.out HU.out).mono ?_; rintro e x0ccacc ⟨A9, c9, rfl, hS_0ccacc, hw_0ccacc⟩)
                refine hK.out _ _ ⟨blk_next hP_0ccac hw_0ccacc, blk_next hQ_0ccac hw_0ccacc, bel_next hB_0ccac hw_0ccacc⟩ (fun hHeld => ?_)
                clear hK K
                try simp only [Act.put, List.getElem_toArray, List.getElem_cons_succ, List.getElem_cons_zero, List.setIfInBounds_toArray, List.set_cons_zero, List.set_cons_succ]
                obtain ⟨hP_0ccacc, hQ_0ccacc, hB_0ccacc⟩ := id hHeld
                have hM_0ccacc := blk_next hM_0ccac hw_0ccacc
                have hC_0ccacc := hC_0ccac.next hw_0ccacc
                have hS_0ccacc := hS_0ccacc.mono (base' := w12.heap.size) hB_0ccac.size
                refine wpAnyH_take (i := 8) (oi := _) (v := ?_) rfl (by kernel_rfl) (by kernel_rfl) (by kernel_rfl) (fun _ _ _ h => h) (Or.inl ⟨by rfl, ?_⟩) (by assumption) ?_
                (rotate_left); (focus (intro wv hSw; (obtain ⟨qP, qQ, qB⟩ := hSw); obtain ⟨_, _, _, _, _⟩ := blk2 qP; obtain ⟨_, _, _, _, _⟩ := blk2 qQ; go_simp; (try with_reducible rfl)))
                try simp only [Act.put, List.getElem_toArray, List.getElem_cons_succ, List.getElem_cons_zero, List.setIfInBounds_toArray, List.set_cons_zero, List.set_cons_succ]
                refine wpAnyH_take (i := 9) (oi := _) (v := ?_) rfl (by kernel_rfl) (by kernel_rfl) (by kernel_rfl) (fun _ _ _ h => h) (Or.inl ⟨by rfl, ?_⟩) (by assumption) ?_
                (rotate_left); (focus (intro wv hSw; (obtain ⟨qP, qQ, qB⟩ := hSw); obtain ⟨_, _, _, _, _⟩ := blk2 qP; obtain ⟨_, _, _, _, _⟩ := blk2 qQ; go_simp; (try with_reducible rfl)))
                try simp only [Act.put, List.getElem_toArray, List.getElem_cons_succ, List.getElem_cons_zero, List.setIfInBounds_toArray, List.set_cons_zero, List.set_cons_succ]
                refine wpAnyH_take (i := 10) (oi := _) (v := ?_) rfl (by kernel_rfl) (by kernel_rfl) (by kernel_rfl) (fun _ _ _ h => h) (Or.inl ⟨by rfl, ?_⟩) (by assumption) ?_
                (rotate_left); (focus (intro wv hSw; (obtain ⟨qP, qQ, qB⟩ := hSw); obtain ⟨_, _, _, _, _⟩ := blk2 qP; obtain ⟨_, _, _, _, _⟩ := blk2 qQ; go_simp; (try with_reducible rfl)))
                try simp only [Act.put, List.getElem_toArray, List.getElem_cons_succ, List.getElem_cons_zero, List.setIfInBounds_toArray, List.set_cons_zero, List.set_cons_succ]
                refine wpAnyH_take (i := 12) (oi := _) (v := ?_) rfl (by kernel_rfl) (by kernel_rfl) (by kernel_rfl) (fun _ _ _ h => h) (Or.inl ⟨by rfl, ?_⟩) (by assumption) ?_
                (rotate_left); (focus (intro wv hSw; (obtain ⟨qP, qQ, qB⟩ := hSw); obtain ⟨_, _, _, _, _⟩ := blk2 qP; obtain ⟨_, _, _, _, _⟩ := blk2 qQ; go_simp; (try with_reducible rfl)))
                try simp only [Act.put, List.getElem_toArray, List.getElem_cons_succ, List.getElem_cons_zero, List.setIfInBounds_toArray, List.set_cons_zero, List.set_cons_succ]
                refine wpAnyH_ready (rs := [13]) (by kernel_rfl) (by simp) ?_
                refine AllReadyH.cons (o := _) rfl (fun K hK => ?_) (AllReadyH.nil)
                obtain ⟨sc0_0ccaccc, sc1_0ccaccc, sf0_0ccaccc, sf1_0ccaccc, sz_0ccaccc⟩ := blk2 hM_0ccacc
                go_simp
                refine hK.out _ _ ⟨blk_store2 hP_0ccacc (Nat.ne_of_lt zMP_0cca) _ _, blk_store2 hQ_0ccacc (Nat.ne_of_lt zMQ_0cca) _ _, store2_bel hB_0ccacc zMB_0cca _ _⟩ (fun hHeld => ?_)
                clear hK K
                try simp only [Act.put, List.getElem_toArray, List.getElem_cons_succ, List.getElem_cons_zero, List.setIfInBounds_toArray, List.set_cons_zero, List.set_cons_succ]
                obtain ⟨hP_0ccaccc, hQ_0ccaccc, hB_0ccaccc⟩ := id hHeld
                have hM_0ccaccc := blk2_set (a := .bool r) (b := .int .i64 u) hM_0ccacc
                have hS_0ccaccc := SOwn.boxO hS_0ccacc hM_0ccacc (by decide) (.bool r) (.int .i64 u)
                refine wpAnyH_done (by kernel_rfl) ?_ _
                go_wp2_with fail
                go_meet
                exact ⟨_, _, _, (by rw [HM.out]), rfl, hM_0ccaccc, hS_0ccaccc, hB_0ccaccc⟩
            · go_simp
              refine hK.out _ _ ⟨blk_old hP_0c _, blk_old hQ_0c _, hB_0c.alloc (by have := hB_0c.size; omega) _⟩ (fun hHeld => ?_)
              clear hK K
              try simp only [Act.put, List.getElem_toArray, List.getElem_cons_succ, List.getElem_cons_zero, List.setIfInBounds_toArray, List.set_cons_zero, List.set_cons_succ]
              obtain ⟨hP_0ca, hQ_0ca, hB_0ca⟩ := id hHeld
              have hM_0ca : (x0c.alloc (.cells #[.bool false, .int .i64 0] 47)).heap[x0c.heap.size]? = some (.cells #[.bool false, .int .i64 0] 47) := by have := blk_new (x0c) (.cells #[.bool false, .int .i64 0] 47); simpa using this
              have zMP_0ca : w.heap.size < x0c.heap.size := by have := blk_lt hP_0c; simpa using this
              have zMQ_0ca : w.heap.size + 1 < x0c.heap.size := by have := blk_lt hQ_0c; simpa using this
              have zMB_0ca : w12.heap.size ≤ x0c.heap.size := by have := hB_0c.size; simpa using this
              refine wpAnyH_ready (rs := [3]) (by kernel_rfl) (by simp) ?_
              refine AllReadyH.cons (o := _) rfl (fun K hK => ?_) (AllReadyH.nil)
              go_simp
              (go_at_call 13; refine (toBand_any _ _ _).mono ?_; rintro e x0cac ⟨rfl, hw_0cac⟩)
              refine hK.out _ _ ⟨blk_next hP_0ca hw_0cac, blk_next hQ_0ca hw_0cac, bel_next hB_0ca hw_0cac⟩ (fun hHeld => ?_)
              clear hK K
              try simp only [Act.put, List.getElem_toArray, List.getElem_cons_succ, List.getElem_cons_zero, List.setIfInBounds_toArray, List.set_cons_zero, List.set_cons_succ]
              obtain ⟨hP_0cac, hQ_0cac, hB_0cac⟩ := id hHeld
              have hM_0cac := blk_next hM_0ca hw_0cac
              refine wpAnyH_ready (rs := [6]) (by kernel_rfl) (by simp) ?_
              refine AllReadyH.cons (o := _) rfl (fun K hK => ?_) (AllReadyH.nil)
              go_simp
              (go_at_call 16; refine (toNumS_any A3 cap3 xs3 _ (hA3_12.next hB_0cac) (by omega)).mono ?_; rintro e x0cacc ⟨g9, rfl, hg9, hC_0cacc, hw_0cacc⟩)
              refine hK.out _ _ ⟨blk_next hP_0cac hw_0cacc, blk_next hQ_0cac hw_0cacc, bel_next hB_0cac hw_0cacc⟩ (fun hHeld => ?_)
              clear hK K
              try simp only [Act.put, List.getElem_toArray, List.getElem_cons_succ, List.getElem_cons_zero, List.setIfInBounds_toArray, List.set_cons_zero, List.set_cons_succ]
              obtain ⟨hP_0cacc, hQ_0cacc, hB_0cacc⟩ := id hHeld
              have hM_0cacc := blk_next hM_0cac hw_0cacc
              refine wpAnyH_ready (rs := [7]) (by kernel_rfl) (by simp) ?_
              refine AllReadyH.cons (o := _) rfl (fun K hK => ?_) (AllReadyH.nil)
              go_simp
              (go_at_call 39; refine (iPa_is _ _ xs3 _ rfl hC_0cacc.row (by omega) HL.out HR.out HU.out).mono ?_; rintro e x0caccc ⟨A9, c9, rfl, hS_0caccc, hw_0caccc⟩)
              refine hK.out _ _ ⟨blk_next hP_0cacc hw_0caccc, blk_next hQ_0cacc hw_0caccc, bel_next hB_0cacc hw_0caccc⟩ (fun hHeld => ?_)
              clear hK K
              try simp only [Act.put, List.getElem_toArray, List.getElem_cons_succ, List.getElem_cons_zero, List.setIfInBounds_toArray, List.set_cons_zero, List.set_cons_succ]
              obtain ⟨hP_0caccc, hQ_0caccc, hB_0caccc⟩ := id hHeld
              have hM_0caccc := blk_next hM_0cacc hw_0caccc
              have hC_0caccc := hC_0cacc.next hw_0caccc
              have hS_0caccc := hS_0caccc.mono (base' := w12.heap.size) hB_0cacc.size
              refine wpAnyH_take (i := 8) (oi := _) (v := ?_) rfl (by kernel_rfl) (by kernel_rfl) (by kernel_rfl) (fun _ _ _ h => h) (Or.inl ⟨by rfl, ?_⟩) (by assumption) ?_
              (rotate_left); (focus (intro wv hSw; (obtain ⟨qP, qQ, qB⟩ := hSw); obtain ⟨_, _, _, _, _⟩ := blk2 qP; obtain ⟨_, _, _, _, _⟩ := blk2 qQ; go_simp; (try with_reducible rfl)))
              try simp only [Act.put, List.getElem_toArray, List.getElem_cons_succ, List.getElem_cons_zero, List.setIfInBounds_toArray, List.set_cons_zero, List.set_cons_succ]
              refine wpAnyH_take (i := 9) (oi := _) (v := ?_) rfl (by kernel_rfl) (by kernel_rfl) (by kernel_rfl) (fun _ _ _ h => h) (Or.inl ⟨by rfl, ?_⟩) (by assumption) ?_
              (rotate_left); (focus (intro wv hSw; (obtain ⟨qP, qQ, qB⟩ := hSw); obtain ⟨_, _, _, _, _⟩ := blk2 qP; obtain ⟨_, _, _, _, _⟩ := blk2 qQ; go_simp; (try with_reducible rfl)))
              try simp only [Act.put, List.getElem_toArray, List.getElem_cons_succ, List.getElem_cons_zero, List.setIfInBounds_toArray, List.set_cons_zero, List.set_cons_succ]
              refine wpAnyH_take (i := 10) (oi := _) (v := ?_) rfl (by kernel_rfl) (by kernel_rfl) (by kernel_rfl) (fun _ _ _ h => h) (Or.inl ⟨by rfl, ?_⟩) (by assumption) ?_
              (rotate_left); (focus (intro wv hSw; (obtain ⟨qP, qQ, qB⟩ := hSw); obtain ⟨_, _, _, _, _⟩ := blk2 qP; obtain ⟨_, _, _, _, _⟩ := blk2 qQ; go_simp; (try with_reducible rfl)))
              try simp only [Act.put, List.getElem_toArray, List.getElem_cons_succ, List.getElem_cons_zero, List.setIfInBounds_toArray, List.set_cons_zero, List.set_cons_succ]
              refine wpAnyH_take (i := 12) (oi := _) (v := ?_) rfl (by kernel_rfl) (by kernel_rfl) (by kernel_rfl) (fun _ _ _ h => h) (Or.inl ⟨by rfl, ?_⟩) (by assumption) ?_
              (rotate_left); (focus (intro wv hSw; (obtain ⟨qP, qQ, qB⟩ := hSw); obtain ⟨_, _, _, _, _⟩ := blk2 qP; obtain ⟨_, _, _, _, _⟩ := blk2 qQ; go_simp; (try with_reducible rfl)))
              try simp only [Act.put, List.getElem_toArray, List.getElem_cons_succ, List.getElem_cons_zero, List.setIfInBounds_toArray, List.set_cons_zero, List.set_cons_succ]
              refine wpAnyH_ready (rs := [13]) (by kernel_rfl) (by simp) ?_
              refine AllReadyH.cons (o := _) rfl (fun K hK => ?_) (AllReadyH.nil)
              obtain ⟨sc0_0cacccc, sc1_0cacccc, sf0_0cacccc, sf1_0cacccc, sz_0cacccc⟩ := blk2 hM_0caccc
              go_simp
              refine hK.out _ _ ⟨blk_store2 hP_0caccc (Nat.ne_of_lt zMP_0ca) _ _, blk_store2 hQ_0caccc (Nat.ne_of_lt zMQ_0ca) _ _, store2_bel hB_0caccc zMB_0ca _ _⟩ (fun hHeld => ?_)
              clear hK K
              try simp only [Act.put, List.getElem_toArray, List.getElem_cons_succ, List.getElem_cons_zero, List.setIfInBounds_toArray, List.set_cons_zero, List.set_cons_succ]
              obtain ⟨hP_0cacccc, hQ_0cacccc, hB_0cacccc⟩ := id hHeld
              have hM_0cacccc := blk2_set (a := .bool r) (b := .int .i64 u) hM_0caccc
              have hS_0cacccc := SOwn.boxO hS_0caccc hM_0caccc (by decide) (.bool r) (.int .i64 u)
              refine wpAnyH_done (by kernel_rfl) ?_ _
              go_wp2_with fail
              go_meet
              exact ⟨_, _, _, (by rw [HM.out]), rfl, hM_0cacccc, hS_0cacccc, hB_0cacccc⟩
          · go_simp
            refine hK.out _ _ ⟨blk_old hP_0 _, blk_old hQ_0 _, hB_0.alloc (by have := hB_0.size; omega) _⟩ (fun hHeld => ?_)
            clear hK K
            try simp only [Act.put, List.getElem_toArray, List.getElem_cons_succ, List.getElem_cons_zero, List.setIfInBounds_toArray, List.set_cons_zero, List.set_cons_succ]
            obtain ⟨hP_0a, hQ_0a, hB_0a⟩ := id hHeld
            have hM_0a : (w12.drew.alloc (.cells #[.bool false, .int .i64 0] 47)).heap[w12.heap.size]? = some (.cells #[.bool false, .int .i64 0] 47) := by have := blk_new (w12.drew) (.cells #[.bool false, .int .i64 0] 47); simpa using this
            have zMP_0a : w.heap.size < w12.heap.size := by have := blk_lt hP_0; simpa using this
            have zMQ_0a : w.heap.size + 1 < w12.heap.size := by have := blk_lt hQ_0; simpa using this
            have zMB_0a : w12.heap.size ≤ w12.heap.size := by have := hB_0.size; simpa using this
            refine wpAnyH_ready (rs := [1]) (by kernel_rfl) (by simp) ?_
            refine AllReadyH.cons (o := _) rfl (fun K hK => ?_) (AllReadyH.nil)
            go_simp
            (go_at_call 33; refine (toBlind_any _ _ _).mono ?_; rintro e x0ac ⟨rfl, hw_0ac⟩)
            refine hK.out _ _ ⟨blk_next hP_0a hw_0ac, blk_next hQ_0a hw_0ac, bel_next hB_0a hw_0ac⟩ (fun hHeld => ?_)
            clear hK K
            try simp only [Act.put, List.getElem_toArray, List.getElem_cons_succ, List.getElem_cons_zero, List.setIfInBounds_toArray, List.set_cons_zero, List.set_cons_succ]
            obtain ⟨hP_0ac, hQ_0ac, hB_0ac⟩ := id hHeld
            have hM_0ac := blk_next hM_0a hw_0ac
            refine wpAnyH_ready (rs := [3]) (by kernel_rfl) (by simp) ?_
            refine AllReadyH.cons (o := _) rfl (fun K hK => ?_) (AllReadyH.nil)
            go_simp
            (go_at_call 13; refine (toBand_any _ _ _).mono ?_; rintro e x0acc ⟨rfl, hw_0acc⟩)
            refine hK.out _ _ ⟨blk_next hP_0ac hw_0acc, blk_next hQ_0ac hw_0acc, bel_next hB_0ac hw_0acc⟩ (fun hHeld => ?_)
            clear hK K
            try simp only [Act.put, List.getElem_toArray, List.getElem_cons_succ, List.getElem_cons_zero, List.setIfInBounds_toArray, List.set_cons_zero, List.set_cons_succ]
            obtain ⟨hP_0acc, hQ_0acc, hB_0acc⟩ := id hHeld
            have hM_0acc := blk_next hM_0ac hw_0acc
            refine wpAnyH_ready (rs := [6]) (by kernel_rfl) (by simp) ?_
            refine AllReadyH.cons (o := _) rfl (fun K hK => ?_) (AllReadyH.nil)
            go_simp
            (go_at_call 16; refine (toNumS_any A3 cap3 xs3 _ (hA3_12.next hB_0acc) (by omega)).mono ?_; rintro e x0accc ⟨g9, rfl, hg9, hC_0accc, hw_0accc⟩)
            refine hK.out _ _ ⟨blk_next hP_0acc hw_0accc, blk_next hQ_0acc hw_0accc, bel_next hB_0acc hw_0accc⟩ (fun hHeld => ?_)
            clear hK K
            try simp only [Act.put, List.getElem_toArray, List.getElem_cons_succ, List.getElem_cons_zero, List.setIfInBounds_toArray, List.set_cons_zero, List.set_cons_succ]
            obtain ⟨hP_0accc, hQ_0accc, hB_0accc⟩ := id hHeld
            have hM_0accc := blk_next hM_0acc hw_0accc
            refine wpAnyH_ready (rs := [7]) (by kernel_rfl) (by simp) ?_
            refine AllReadyH.cons (o := _) rfl (fun K hK => ?_) (AllReadyH.nil)
            go_simp
            (go_at_call 39; refine (iPa_is _ _ xs3 _ rfl hC_0accc.row (by omega) HL.out HR.out HU.out).mono ?_; rintro e x0acccc ⟨A9, c9, rfl, hS_0acccc, hw_0acccc⟩)
            refine hK.out _ _ ⟨blk_next hP_0accc hw_0acccc, blk_next hQ_0accc hw_0acccc, bel_next hB_0accc hw_0acccc⟩ (fun hHeld => ?_)
            clear hK K
            try simp only [Act.put, List.getElem_toArray, List.getElem_cons_succ, List.getElem_cons_zero, List.setIfInBounds_toArray, List.set_cons_zero, List.set_cons_succ]
            obtain ⟨hP_0acccc, hQ_0acccc, hB_0acccc⟩ := id hHeld
            have hM_0acccc := blk_next hM_0accc hw_0acccc
            have hC_0acccc := hC_0accc.next hw_0acccc
            have hS_0acccc := hS_0acccc.mono (base' := w12.heap.size) hB_0accc.size
            refine wpAnyH_take (i := 8) (oi := _) (v := ?_) rfl (by kernel_rfl) (by kernel_rfl) (by kernel_rfl) (fun _ _ _ h => h) (Or.inl ⟨by rfl, ?_⟩) (by assumption) ?_
            (rotate_left); (focus (intro wv hSw; (obtain ⟨qP, qQ, qB⟩ := hSw); obtain ⟨_, _, _, _, _⟩ := blk2 qP; obtain ⟨_, _, _, _, _⟩ := blk2 qQ; go_simp; (try with_reducible rfl)))
            try simp only [Act.put, List.getElem_toArray, List.getElem_cons_succ, List.getElem_cons_zero, List.setIfInBounds_toArray, List.set_cons_zero, List.set_cons_succ]
            refine wpAnyH_take (i := 9) (oi := _) (v := ?_) rfl (by kernel_rfl) (by kernel_rfl) (by kernel_rfl) (fun _ _ _ h => h) (Or.inl ⟨by rfl, ?_⟩) (by assumption) ?_
            (rotate_left); (focus (intro wv hSw; (obtain ⟨qP, qQ, qB⟩ := hSw); obtain ⟨_, _, _, _, _⟩ := blk2 qP; obtain ⟨_, _, _, _, _⟩ := blk2 qQ; go_simp; (try with_reducible rfl)))
            try simp only [Act.put, List.getElem_toArray, List.getElem_cons_succ, List.getElem_cons_zero, List.setIfInBounds_toArray, List.set_cons_zero, List.set_cons_succ]
            refine wpAnyH_take (i := 10) (oi := _) (v := ?_) rfl (by kernel_rfl) (by kernel_rfl) (by kernel_rfl) (fun _ _ _ h => h) (Or.inl ⟨by rfl, ?_⟩) (by assumption) ?_
            (rotate_left); (focus (intro wv hSw; (obtain ⟨qP, qQ, qB⟩ := hSw); obtain ⟨_, _, _, _, _⟩ := blk2 qP; obtain ⟨_, _, _, _, _⟩ := blk2 qQ; go_simp; (try with_reducible rfl)))
            try simp only [Act.put, List.getElem_toArray, List.getElem_cons_succ, List.getElem_cons_zero, List.setIfInBounds_toArray, List.set_cons_zero, List.set_cons_succ]
            refine wpAnyH_take (i := 12) (oi := _) (v := ?_) rfl (by kernel_rfl) (by kernel_rfl) (by kernel_rfl) (fun _ _ _ h => h) (Or.inl ⟨by rfl, ?_⟩) (by assumption) ?_
            (rotate_left); (focus (intro wv hSw; (obtain ⟨qP, qQ, qB⟩ := hSw); obtain ⟨_, _, _, _, _⟩ := blk2 qP; obtain ⟨_, _, _, _, _⟩ := blk2 qQ; go_simp; (try with_reducible rfl)))
            try simp only [Act.put, List.getElem_toArray, List.getElem_cons_succ, List.getElem_cons_zero, List.setIfInBounds_toArray, List.set_cons_zero, List.set_cons_succ]
            refine wpAnyH_ready (rs := [13]) (by kernel_rfl) (by simp) ?_
            refine AllReadyH.cons (o := _) rfl (fun K hK => ?_) (AllReadyH.nil)
            obtain ⟨sc0_0accccc, sc1_0accccc, sf0_0accccc, sf1_0accccc, sz_0accccc⟩ := blk2 hM_0acccc
            go_simp
            refine hK.out _ _ ⟨blk_store2 hP_0acccc (Nat.ne_of_lt zMP_0a) _ _, blk_store2 hQ_0acccc (Nat.ne_of_lt zMQ_0a) _ _, store2_bel hB_0acccc zMB_0a _ _⟩ (fun hHeld => ?_)
            clear hK K
            try simp only [Act.put, List.getElem_toArray, List.getElem_cons_succ, List.getElem_cons_zero, List.setIfInBounds_toArray, List.set_cons_zero, List.set_cons_succ]
            obtain ⟨hP_0accccc, hQ_0accccc, hB_0accccc⟩ := id hHeld
            have hM_0accccc := blk2_set (a := .bool r) (b := .int .i64 u) hM_0acccc
            have hS_0accccc := SOwn.boxO hS_0acccc hM_0acccc (by decide) (.bool r) (.int .i64 u)
            refine wpAnyH_done (by kernel_rfl) ?_ _
            go_wp2_with fail
            go_meet
            exact ⟨_, _, _, (by rw [HM.out]), rfl, hM_0accccc, hS_0accccc, hB_0accccc⟩
        case rest =>
          obtain ⟨C13, A13_, c13_, rfl, rfl, hM13, hH13, hBb⟩ := hcut
          have hP13 := blk_next hP12 hBb
          have hQ13 := blk_next hQ12 hBb
          have hK13 := blk_next hK12 hBb
          have hN13 := blk_next hN12 hBb
          have hA3_13 := hA3_12.next hBb
          have hS13 := hS12.next hBb
          have hI13 := hI12.next hBb
          have hB13 := bel_next hB12 hBb
          have hz13 := hB13.size
          have hzz13 := hBb.size
          clear hBb
          go_wp2_with fail
          refine (eqBoolS_same _ _ _ _ l HM.out hH13.row hS13.row (by omega)).mono ?_; rintro e' w14 ⟨rfl, hw14⟩
          have hP14 := blk_next hP13 hw14
          have hQ14 := blk_next hQ13 hw14
          have hK14 := blk_next hK13 hw14
          have hN14 := blk_next hN13 hw14
          have hM14 := blk_next hM13 hw14
          have hA3_14 := hA3_13.next hw14
          have hS14 := hS13.next hw14
          have hI14 := hI13.next hw14
          have hH14 := hH13.next hw14
          have hB14 := bel_next hB13 hw14
          have hz14 := hw14.size
          obtain ⟨cM14_0, cM14_1, fM14_0, fM14_1, zM14⟩ := blk2 hM14
          obtain ⟨cK14_0, cK14_1, fK14_0, fK14_1, zK14⟩ := blk2 hK14
          go_wp2_with fail
          refine (eqBlind_same _ _ _).mono ?_; rintro e' w15 ⟨rfl, hw15⟩
          have hP15 := blk_next hP14 hw15
          have hQ15 := blk_next hQ14 hw15
          have hK15 := blk_next hK14 hw15
          have hN15 := blk_next hN14 hw15
          have hM15 := blk_next hM14 hw15
          have hA3_15 := hA3_14.next hw15
          have hS15 := hS14.next hw15
          have hI15 := hI14.next hw15
          have hH15 := hH14.next hw15
          have hB15 := bel_next hB14 hw15
          have hz15 := hw15.size
          go_wp2_with fail
          refine (heldBoolS_any A3_ c3_ 1 (m := m) hI15.row (by omega) (by omega) (by omega)).mono ?_; rintro e' w16 ⟨rfl, hw16⟩
          have hP16 := blk_next hP15 hw16
          have hQ16 := blk_next hQ15 hw16
          have hK16 := blk_next hK15 hw16
          have hN16 := blk_next hN15 hw16
          have hM16 := blk_next hM15 hw16
          have hA3_16 := hA3_15.next hw16
          have hS16 := hS15.next hw16
          have hI16 := hI15.next hw16
          have hH16 := hH15.next hw16
          have hB16 := bel_next hB15 hw16
          go_wp2
          go_ret
          exact ⟨rfl, by first | exact hB16 | exact hB16.drew⟩
  · have hi3 : (xs3.length : Int) > 1048576 := by omega
    clear hl
    go_enter Try.func11, Try.ntmps11
    go_wp2
    go_ret
    exact ⟨rfl, bel2 w (.cells #[.bool a0_0, .int .i64 a0_1] 45) (.cells #[.int .i64 a1_0, .int .i64 a1_1] 23)⟩

set_option maxRecDepth 100000 in
theorem lifted (os : Os) (started : os.Started) (H : Type) (enc : TypeId × Value → H) :
    ReturnsInHanded {} Try.checked os 11 .any (Rows.fnExactPauseRunSpec.pre6 enc Try.prog Try.f11 Rows.fnExactPauseRunRow.domain false) (Rows.fnExactPauseRunSpec.post enc Try.prog Try.f11 false true false false) := by
  refine returnsInHanded_of_change (C := Try.checked) own started (by kernel_rfl) Try.func11
    (ChangeSpec.witness6 (enc := enc) (C := Try.checked) false ⟨#[], #[.agg #[.bool false, .int .i64 0], .agg #[.int .i64 0, .int .i64 0], .int .i64 0, .slice none 0 0], []⟩ 8 (by kernel_rfl) (by kernel_rfl) (by kernel_rfl) (by kernel_rfl)) ?_
  intro W base args ds gs before hval0 hW hcnd _
  have hval : ∀ (j : Nat) t v, Try.f11.params[j]? = some t → args[j]? = some v → Value.okWide Try.prog W .any base t v := hval0
  have hW' := hW
  obtain ⟨p, q, hA0, hV, rfl, hfz, hnd⟩ := hW
  have hA : DataW.TrodAll enc Try.prog W 0 (fun _ => true) true Try.f11.params.toList args.toList ds p := hA0
  rw [Try.params11] at hA hval
  obtain ⟨v0, vs0, d0, ds0, p0, q0, hargs, rfl, rfl, h0, r0⟩ := trodAll_cons hA
  obtain ⟨v1, vs1, d1, ds1, p1, q1, rfl, rfl, rfl, h1, r1⟩ := trodAll_cons r0
  obtain ⟨v2, vs2, d2, ds2, p2, q2, rfl, rfl, rfl, h2, r2⟩ := trodAll_cons r1
  obtain ⟨v3, vs3, d3, ds3, p3, q3, rfl, rfl, rfl, h3, r3⟩ := trodAll_cons r2
  obtain ⟨rfl, rfl, rfl⟩ := trodAll_nil r3
  obtain rfl : args = #[v0, v1, v2, v3] := by cases args; simp_all
  obtain ⟨rfl, rfl⟩ := trodVars_none hV
  have k0 := h0
  have lt0 : ∀ x ∈ p0, x.block < W.heap.size := by obtain ⟨m, hm⟩ := k0; exact DataW.trod_lt m _ _ _ hm
  have k1 := h1
  have lt1 : ∀ x ∈ p1, x.block < W.heap.size := by obtain ⟨m, hm⟩ := k1; exact DataW.trod_lt m _ _ _ hm
  have k2 := h2
  have lt2 : ∀ x ∈ p2, x.block < W.heap.size := by obtain ⟨m, hm⟩ := k2; exact DataW.trod_lt m _ _ _ hm
  have k3 := h3
  have lt3 : ∀ x ∈ p3, x.block < W.heap.size := by obtain ⟨m, hm⟩ := k3; exact DataW.trod_lt m _ _ _ hm
  obtain ⟨⟨a0_0, a0_1⟩, rfl, q0⟩ := openBlind (hval 0 45 v0 rfl rfl) h0
  obtain ⟨⟨a1_0, a1_1⟩, rfl, q1⟩ := openBand (hval 1 23 v1 rfl rfl) h1
  obtain ⟨a2, rfl, rfl, rfl, w2⟩ := open_int Try.underlying3 (hval 2 3 v2 rfl rfl) h2
  obtain ⟨A3, len3, cap3, rfl⟩ := okWide_slice Try.underlying28 (hval 3 28 v3 rfl rfl)
  obtain ⟨xs3, w3, l3, q3, hlen3⟩ : ∃ xs, SRow encNum W A3 xs ∧ xs.length ≤ maxLen ∧ (∀ v ∈ xs, Wf v) ∧ xs.length = len3 := by
    obtain ⟨fuel, hf⟩ := h3
    obtain ⟨A, cap, xs, hcs, hl, hr, hq⟩ := openNumS hf
    simp [Value.cells] at hcs
    obtain ⟨rfl, hn, rfl⟩ := hcs
    exact ⟨xs, hr, hl, hq, hn.symm⟩
  subst hlen3
  clear hA0 hval0
  refine (walk W a0_0 a0_1 q0 a1_0 a1_1 q1 a2 w2 A3 cap3 xs3 w3 l3 q3).mono fun e W' ⟨he, bel⟩ => ?_
  subst he
  exact ⟨_, rfl, _, _, _, [], _, [], hW', trodAll_mk1 (shut_bool Try.underlying4 _), (trodAll_cons_mk (Below.trod laidOut (by kernel_rfl) (of_decide_eq_true (by kernel_rfl)) k0 bel lt0) (trodAll_cons_mk (Below.trod laidOut (by kernel_rfl) (of_decide_eq_true (by kernel_rfl)) k1 bel lt1) (trodAll_cons_mk (Below.trod laidOut (by kernel_rfl) (of_decide_eq_true (by kernel_rfl)) k2 bel lt2) (trodAll_cons_mk (Below.trod laidOut (by kernel_rfl) (of_decide_eq_true (by kernel_rfl)) k3 bel lt3) trodAll_mk0)))), rfl, bel.frame _, fun h => by cases h⟩

theorem over : Rows.fnExactPauseRunRow.holds Try.pinned (OpenSpec.ofChange Rows.fnExactPauseRunSpec) :=
  OpenClaim.holds_of_wide 11 Try.f11 rfl rfl rfl rfl rfl rfl rfl ⟨rfl, rfl, rfl, rfl, rfl⟩ rfl rfl rfl rfl rfl (by kernel_rfl) Try.func11 (by kernel_rfl)
    (of_decide_eq_true (by kernel_rfl)) (by unfold Func.isWrapper; first | (rw [if_pos (by decide +kernel)]; kernel_rfl) | (rw [if_neg (by decide +kernel)]; exact ⟨rfl, rfl⟩))
    (fun os started H enc _ => lifted os started H enc)

/-- The statement. -/
theorem proved : Rows.FnExactPauseRunSaid :=
  over
#print axioms proved
end Go.Proofs.Ytecliamihggpoaa.fnExactPauseRun
