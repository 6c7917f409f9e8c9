/- Contracts of chapter 6: the light over all cells. -/
import Derived.Test.YtidppabconifkabYl
import Derived.Laws.AppendOwn
namespace Go.Proofs.Ytidppabconifkab
open Go Go.ChangeShapes Go.WideShapes Go.ChangeAt Go.RowKit
set_option linter.unusedSimpArgs false
set_option linter.unusedVariables false

theorem blk_grownY {w w' : World} {row : Option Nat} {k : Nat} {o : Obj} (h : w.heap[k]? = some o) (hg : w.grownBy w' row) (hne : row ≠ some k) : w'.heap[k]? = some o := by
  rw [hg.block k (blk_lt h) (fun e => hne e.symm)]; exact h
/-- A row of one's own with numbers, missing exactly where not valid. -/
def ShRet (ok : Bool) (l : List Int) (w : World) (e : Ending) (w' : World) : Prop := ∃ (A : Option Addr) (cap : Nat), e = .returned (.slice A l.length cap) ∧ SOwn encNum w' w.heap.size 3 A cap l ∧ ((ok = true ∧ ∃ g, A = some ⟨g, 0, none⟩) ∨ (ok = false ∧ A = none ∧ cap = 0)) ∧ Below w.heap.size w w'
theorem shL_no {d : Int} {xs : List Int} {e f : Int} (h : okB d xs e f = false) : shL d xs e f = [] := by unfold shL; rw [h]; rfl
theorem shL_yes {d : Int} {xs : List Int} {e f : Int} (h : okB d xs e f = true) : shL d xs e f = mkI (fun k => shI d xs e f k) xs.length := by unfold shL; rw [h]; rfl
theorem ok_no1 {d : Int} {xs : List Int} {e f : Int} (h : cvB d xs = false) : okB d xs e f = false := by unfold okB; rw [h]; rfl
theorem ok_no2 {d : Int} {xs : List Int} {e f : Int} (h : drB e = false) : okB d xs e f = false := by unfold okB; rw [h]; simp
theorem ok_no3 {d : Int} {xs : List Int} {e f : Int} (h : flB f = false) : okB d xs e f = false := by unfold okB; rw [h]; simp
theorem ok_yes {d : Int} {xs : List Int} {e f : Int} (h1 : cvB d xs = true) (h2 : drB e = true) (h3 : flB f = true) : okB d xs e f = true := by unfold okB; rw [h1, h2, h3]; rfl
theorem iOp_bel (e : Int) (w : World) (h0 : 0 ≤ e) (h1 : e ≤ 3) : Calls Try.prog 70 #[.int .i64 e] w fun E w' => E = .returned (.int .i64 (opI e)) ∧ Below w.heap.size w w' := (iOp_any e w h0 h1).mono fun _ _ ⟨he, hw⟩ => ⟨he, hw ▸ Below.refl _ _⟩
set_option maxRecDepth 100000 in
set_option maxHeartbeats 4000000 in
theorem iSh_any (d : Int) (A : Option Addr) (cap : Nat) (xs : List Int) (e f : Int) {n : Nat} (w : World) (hn : xs.length = n) (h : SRow encNum w A xs) (hl : n ≤ 2000000) :
    Calls Try.prog 68 #[.agg #[.int .i64 d, .slice A n cap], .int .i64 e, .int .i64 f] w fun E w' => ShRet (okB d xs e f) (shL d xs e f) w E w' := by
  cases h1 : cvB d xs
  · have HOK := Lib.hid (ok_no1 (d := d) (xs := xs) (e := e) (f := f) h1)
    rw [shL_no HOK.out]
    have H1 := Lib.hid h1
    have HN := Lib.hid hn
    clear hn h1
    go_enter Try.func68, Try.ntmps68
    go_wp2_with fail
    refine (iCv_is d A cap xs _ HN.out (h.next (bel1 w (.cells #[.int .i64 d, .slice A n cap] 54 (0, 0)))) hl H1.out).mono ?_; rintro E w1 ⟨rfl, hw1⟩
    obtain ⟨hP1, hB1⟩ := ownb hw1
    obtain ⟨p0, p1, f0, f1, zp⟩ := blk2 hP1
    go_wp2
    go_ret
    exact ⟨none, 0, rfl, SOwn.nil _ _ _, .inr ⟨HOK.out, rfl, rfl⟩, hB1⟩
  · cases h2 : drB e
    · have HOK := Lib.hid (ok_no2 (d := d) (xs := xs) (e := e) (f := f) h2)
      rw [shL_no HOK.out]
      have H1 := Lib.hid h1
      have H2 := Lib.hid (dr_inV h2)
      have HN := Lib.hid hn
      clear hn h1 h2
      go_enter Try.func68, Try.ntmps68
      go_wp2_with fail
      refine (iCv_is d A cap xs _ HN.out (h.next (bel1 w (.cells #[.int .i64 d, .slice A n cap] 54 (0, 0)))) hl H1.out).mono ?_; rintro E w1 ⟨rfl, hw1⟩
      obtain ⟨hP1, hB1⟩ := ownb hw1
      obtain ⟨p0, p1, f0, f1, zp⟩ := blk2 hP1
      go_wp2_with fail
      refine (iDv_is _ H2.out).mono ?_; rintro E w' ⟨rfl, rfl⟩
      go_wp2
      go_ret
      exact ⟨none, 0, rfl, SOwn.nil _ _ _, .inr ⟨HOK.out, rfl, rfl⟩, hB1⟩
    · cases h3 : flB f
      · have HOK := Lib.hid (ok_no3 (d := d) (xs := xs) (e := e) (f := f) h3)
        rw [shL_no HOK.out]
        have H1 := Lib.hid h1
        have H2 := Lib.hid (dr_inV h2)
        have H3 := Lib.hid (h3 : inV f 0 5 = _)
        have HN := Lib.hid hn
        clear hn h1 h2 h3
        go_enter Try.func68, Try.ntmps68
        go_wp2_with fail
        refine (iCv_is d A cap xs _ HN.out (h.next (bel1 w (.cells #[.int .i64 d, .slice A n cap] 54 (0, 0)))) hl H1.out).mono ?_; rintro E w1 ⟨rfl, hw1⟩
        obtain ⟨hP1, hB1⟩ := ownb hw1
        obtain ⟨p0, p1, f0, f1, zp⟩ := blk2 hP1
        go_wp2_with fail
        refine (iDv_is _ H2.out).mono ?_; rintro E w' ⟨rfl, rfl⟩
        go_wp2_with fail
        refine (iInV_isY f 0 5 _ _ H3.out).mono ?_; rintro E w' ⟨rfl, rfl⟩
        go_wp2
        go_ret
        exact ⟨none, 0, rfl, SOwn.nil _ _ _, .inr ⟨HOK.out, rfl, rfl⟩, hB1⟩
      · obtain ⟨i0, hi0, hz0, hz1, hz2⟩ := info_parts infoNum
        have hbn : i0.bytes * n ≤ 281474976710656 := by rw [hz2]; omega
        have HI := Lib.hid (And.intro hi0 (And.intro hz0 (And.intro hz1 hbn)))
        clear hi0 hz0 hz1 hz2 hbn
        have HOK := Lib.hid (ok_yes h1 h2 h3)
        rw [shL_yes HOK.out, HOK.out]
        obtain ⟨hAll, hdd⟩ := cv_cells h1 hn
        have HALL := Lib.hid (And.intro hAll hdd)
        have HE := Lib.hid (dr_rng h2)
        have hfr : 0 ≤ f ∧ f ≤ 5 := by unfold flB at h3; simpa using h3
        have HFR := Lib.hid hfr
        have H1 := Lib.hid h1
        have H2 := Lib.hid (dr_inV h2)
        have H3 := Lib.hid (h3 : inV f 0 5 = _)
        have HN := Lib.hid hn
        clear hn h1 h2 h3 hAll hdd hfr
        go_enter Try.func68, Try.ntmps68
        go_wp2_with fail
        refine (iCv_is d A cap xs _ HN.out (h.next (bel1 w (.cells #[.int .i64 d, .slice A n cap] 54 (0, 0)))) hl H1.out).mono ?_; rintro E w1 ⟨rfl, hw1⟩
        obtain ⟨hP1, hB1⟩ := ownb hw1
        obtain ⟨p0, p1, f0, f1, zp⟩ := blk2 hP1
        go_wp2_with fail
        refine (iDv_is _ H2.out).mono ?_; rintro E w' ⟨rfl, rfl⟩
        go_wp2_with fail
        refine (iInV_isY f 0 5 _ _ H3.out).mono ?_; rintro E w' ⟨rfl, rfl⟩
        go_wp2_with (at_make; refine wpList_make_structs _ encNum (0 : Int) rfl _ _ 23 rfl 3 i0 _ Try.underlying23 HI.out.1 HI.out.2.1 HI.out.2.2.1 rfl .i64 .i64 n rfl rfl HI.out.2.2.2 (by omega) ?_)
        have hS1 : SOwn encNum (w1.alloc (.cells (encNum.flat (List.replicate n (0 : Int))).toArray 3)) w.heap.size 3 (some ⟨w1.heap.size, 0, none⟩) n (sdL d xs e f n 0) := by
          rw [sd_zero (fun i hi => HALL.out.1 i hi) HE.out.1 HE.out.2]
          exact SOwn.of_blk (E := encNum) (xs := List.replicate n (0 : Int)) (blk_new w1 (.cells (encNum.flat (List.replicate n (0 : Int))).toArray 3)) hB1.size (by simp) (by unfold maxLen; omega)
        have hP2 := blk_old hP1 (.cells (encNum.flat (List.replicate n (0 : Int))).toArray 3)
        have hB2 := hB1.alloc hB1.size (.cells (encNum.flat (List.replicate n (0 : Int))).toArray 3)
        have hzS := blk_lt hP1
        obtain ⟨gS, hgS⟩ : ∃ gS, w1.heap.size = gS := ⟨_, rfl⟩
        rw [hgS] at hS1 hzS ⊢
        have hbS : w.heap.size ≤ gS := by omega
        clear hgS
        go_wp2_with fail
        go_loopw [29] (fun v wr => ∃ k : Nat, v = .int .i64 k ∧ k ≤ n ∧ SOwn encNum wr w.heap.size 3 (some ⟨gS, 0, none⟩) n (sdL d xs e f n k) ∧ wr.heap[w.heap.size]? = some (.cells #[.int .i64 d, .slice A n cap] 54 (0, 0)) ∧ Below w.heap.size w wr) (fun v _ => (n - intOf v).toNat)
        case atStart => exact ⟨0, rfl, by omega, hS1, hP2, hB2⟩
        case round =>
          obtain ⟨k, rfl, k1, hO, hP1, hB⟩ := hrel
          clear p0 p1 f0 f1 zp
          obtain ⟨p0, p1, f0, f1, zp⟩ := blk2 hP1
          by_cases hlt : k < n
          · have hk : k < xs.length := by rw [HN.out]; exact hlt
            have hki : (k : Int) < (n : Int) := by omega
            obtain ⟨b, off, eA, hb, c0⟩ := rowNum (h.next hB) hk
            have hlS : (sdL d xs e f n k).length = n := sd_len _ _ _ _ _ _
            have hbA : b < w.heap.size := by subst eA; obtain ⟨b9, o9, e9, h9, _⟩ := rowNum h hk; cases e9; exact h9
            obtain ⟨x, hx⟩ : ∃ x, nxI d (k : Int) e = x := ⟨_, rfl⟩
            have hed := nx_edge (HALL.out.1 k hlt) HE.out.1 HE.out.2
            rw [hx] at hed
            have HX := Lib.hid hx
            have HED := Lib.hid hed
            have HLS := Lib.hid hlS
            clear hx hed hlS
            subst eA
            go_wp2_with fail
            refine (iBs_any d (k : Int) e _ n cap _ (HALL.out.1 k hlt) HE.out.1 HE.out.2).mono ?_; rintro E w3 ⟨rfl, hw3⟩
            rw [HX.out]
            have hO3 := hO.next hw3
            have hP3 := blk_next hP1 hw3
            have hB3 := bel_next hB hw3
            by_cases hz : x = -1
            · have hfa := HED.out.1 hz
              subst hz
              have hO_0 := hO3.drew
              have hB_0 := hB3.drew
              go_wp2_with fail
              refine wp_region_held_drew (S := (fun w' => w'.heap[w.heap.size]? = some (.cells #[.int .i64 d, .slice (some ⟨b, off, none⟩) n cap] 54 (0, 0)))) (by kernel_rfl) (hP3) (fun hHeld => ?_)
              have hP_0 := id hHeld
              refine wpAnyH_take (i := 0) (oi := _) (v := ?_) rfl (by kernel_rfl) (by kernel_rfl) (by kernel_rfl) (fun _ _ _ h => h) (Or.inl ⟨by rfl, ?_⟩) (by assumption) ?_
              (rotate_left); (focus (intro wv hSw; (have qP := hSw); obtain ⟨u0, u1, _, _, _⟩ := blk2 qP; go_simp; (try with_reducible rfl)))
              try simp only [Act.put, List.getElem_toArray, List.getElem_cons_succ, List.getElem_cons_zero, List.setIfInBounds_toArray, List.set_cons_zero, List.set_cons_succ]
              refine wpAnyH_take (i := 1) (oi := _) (v := ?_) rfl (by kernel_rfl) (by kernel_rfl) (by kernel_rfl) (fun _ _ _ h => h) (Or.inl ⟨by rfl, ?_⟩) (by assumption) ?_
              (rotate_left); (focus (intro wv hSw; (have qP := hSw);  go_simp; (try with_reducible rfl)))
              try simp only [Act.put, List.getElem_toArray, List.getElem_cons_succ, List.getElem_cons_zero, List.setIfInBounds_toArray, List.set_cons_zero, List.set_cons_succ]
              refine wpAnyH_take (i := 2) (oi := _) (v := ?_) rfl (by kernel_rfl) (by kernel_rfl) (by kernel_rfl) (fun _ _ _ h => h) (Or.inl ⟨by rfl, ?_⟩) (by assumption) ?_
              (rotate_left); (focus (intro wv hSw; (have qP := hSw);  go_simp; (try with_reducible rfl)))
              try simp only [Act.put, List.getElem_toArray, List.getElem_cons_succ, List.getElem_cons_zero, List.setIfInBounds_toArray, List.set_cons_zero, List.set_cons_succ]
              refine wpAnyH_take (i := 4) (oi := _) (v := ?_) rfl (by kernel_rfl) (by kernel_rfl) (by kernel_rfl) (fun _ _ _ h => h) (Or.inl ⟨by rfl, ?_⟩) (by assumption) ?_
              (rotate_left); (focus (intro wv hSw; (have qP := hSw);  go_simp; (try with_reducible rfl)))
              try simp only [Act.put, List.getElem_toArray, List.getElem_cons_succ, List.getElem_cons_zero, List.setIfInBounds_toArray, List.set_cons_zero, List.set_cons_succ]
              refine wpAnyH_take (i := 5) (oi := _) (v := ?_) rfl (by kernel_rfl) (by kernel_rfl) (by kernel_rfl) (fun _ _ _ h => h) (Or.inl ⟨by rfl, ?_⟩) (by assumption) ?_
              (rotate_left); (focus (intro wv hSw; (have qP := hSw);  go_simp; (try with_reducible rfl)))
              try simp only [Act.put, List.getElem_toArray, List.getElem_cons_succ, List.getElem_cons_zero, List.setIfInBounds_toArray, List.set_cons_zero, List.set_cons_succ]
              refine wpAnyH_ready (rs := [3]) (by kernel_rfl) (by simp) ?_
              refine AllReadyH.cons (o := _) rfl (fun K hK => ?_) AllReadyH.nil
              go_simp
              (go_at_call 70; refine (iOp_bel e _ HE.out.1 HE.out.2).mono ?_; rintro e x0c ⟨rfl, hw_0c⟩)
              refine hK.out _ _ (blk_next hP_0 hw_0c) (fun hHeld => ?_)
              clear hK K
              try simp only [Act.put, List.getElem_toArray, List.getElem_cons_succ, List.getElem_cons_zero, List.setIfInBounds_toArray, List.set_cons_zero, List.set_cons_succ]
              have hP_0c := id hHeld
              have hO_0c := hO_0.next hw_0c
              have hB_0c := bel_next hB_0 hw_0c
              refine wpAnyH_ready (rs := [6]) (by kernel_rfl) (by simp) ?_
              refine AllReadyH.cons (o := _) rfl (fun K hK => ?_) AllReadyH.nil
              go_simp
              (go_at_call 100; refine (sline d (k : Int) e f (some ⟨b, off, none⟩) cap gS n w.heap.size xs _ _ HN.out (h.next hB_0c) hl H1.out (HALL.out.1 k hlt) HE.out.1 HE.out.2 hfa HFR.out.1 HFR.out.2 HLS.out (fun b9 o9 e9 => by cases e9; omega) hO_0c).mono ?_; rintro e9 x9 ⟨rfl, hO9, hG9⟩)
              have hP9 := blk_grownY hP_0c hG9 (by simp; omega)
              have hB9 := hB_0c.grown hG9 hB_0c.size (fun j hj => by cases hj; omega)
              refine hK.out _ _ (hP9) (fun hHeld => ?_)
              clear hK K
              try simp only [Act.put, List.getElem_toArray, List.getElem_cons_succ, List.getElem_cons_zero, List.setIfInBounds_toArray, List.set_cons_zero, List.set_cons_succ]
              refine wpAnyH_done (by kernel_rfl) ?_ _
              go_wp2_with fail
              go_roundw
              case rel => exact ⟨k + 1, by go_num, by omega, by have := sd_line (xs := xs) (f := f) HALL.out.1 hlt HE.out.1 HE.out.2 hfa; rw [← this]; exact hO9, hP9, hB9⟩
              case measure => simp [intOf]; omega
            · have hfa : ¬ faN d (k : Int) e = 0 := fun e9 => hz (HED.out.2 e9)
              have HFA := Lib.hid hfa
              clear hfa
              have hxb : (x == -1) = false := by rw [beq_eq_false_iff_ne]; exact hz
              go_wp2_with fail
              go_roundw
              case rel => exact ⟨k + 1, by go_num, by omega, by rw [sd_skip HALL.out.1 HE.out.1 HE.out.2 HFA.out]; exact hO3, hP3, hB3⟩
              case measure => simp [intOf]; omega
          · obtain rfl : k = n := by omega
            have he := sd_end (xs := xs) (f := f) HALL.out.1 HALL.out.2 HE.out.1 HE.out.2
            have hl9 : (mkI (fun k => shI d xs e f k) xs.length).length = k := by rw [mk_len, HN.out]
            have HE9 := Lib.hid he
            have HL9 := Lib.hid hl9
            clear he hl9
            go_wp2_with fail
            go_ret
            exact ⟨_, _, by rw [HL9.out]; rfl, by rw [HN.out, ← HE9.out]; exact hO, .inl ⟨rfl, gS, rfl⟩, hB⟩
theorem ret_sliceY {A : Option Addr} {n m c : Nat} (h : n = m) : Ending.returned (.slice A n c) = .returned (.slice A m c) := by rw [h]
theorem SOwn.ne_selfY {α : Type} {E : Enc α} {w : World} {base g k : Nat} {T T' : TypeId} {cap : Nat} {xs : List α} {c : Array Value} {z : Nat × Nat} (h : SOwn E w base T (some ⟨g, 0, none⟩) cap xs) (hk : w.heap[k]? = some (.cells c T' z)) (he : k = g) (hT : T ≠ T') : False := by
  subst he
  rcases h.2 with ⟨e, _⟩ | ⟨g9, cap', cur, e, hb, hg, _⟩
  · simp at e
  · simp only [Value.slice.injEq, Option.some.injEq, Addr.mk.injEq, and_true] at e
    rw [← e.1, hk] at hg
    simp at hg
    exact hT hg.2.1.symm
def NumRetY (l : List Int) (w : World) (e : Ending) (w' : World) : Prop := ∃ (A : Option Addr) (cap : Nat), e = .returned (.slice A l.length cap) ∧ SOwn encNum w' w.heap.size 3 A cap l ∧ Below w.heap.size w w'
end Go.Proofs.Ytidppabconifkab
