/- Contracts of chapter 6: the light over all cells. -/
import Derived.Test.YtidppabconifkaaYl
import Derived.Laws.AppendOwn
namespace Go.Proofs.Ytidppabconifkaa
open Go Go.ChangeShapes Go.WideShapes Go.ChangeAt Go.RowKit
set_option linter.unusedSimpArgs false
set_option linter.unusedVariables false

theorem blk_grownY {w w' : World} {row : Option Nat} {k : Nat} {o : Obj} (h : w.heap[k]? = some o) (hg : w.grownBy w' row) (hne : row ≠ some k) : w'.heap[k]? = some o := by
  rw [hg.block k (blk_lt h) (fun e => hne e.symm)]; exact h
/-- A row of one's own with numbers, missing exactly where not valid. -/
def ShRet (ok : Bool) (l : List Int) (w : World) (e : Ending) (w' : World) : Prop := ∃ (A : Option Addr) (cap : Nat), e = .returned (.slice A l.length cap) ∧ SOwn encNum w' w.heap.size 3 A cap l ∧ ((ok = true ∧ ∃ g, A = some ⟨g, 0, none⟩) ∨ (ok = false ∧ A = none ∧ cap = 0)) ∧ Below w.heap.size w w'
theorem shL_no {d : Int} {xs : List Int} {e f : Int} (h : okB d xs e f = false) : shL d xs e f = [] := by unfold shL; rw [h]; rfl
theorem shL_yes {d : Int} {xs : List Int} {e f : Int} (h : okB d xs e f = true) : shL d xs e f = mkI (fun k => shI d xs e f k) xs.length := by unfold shL; rw [h]; rfl
theorem ok_no1 {d : Int} {xs : List Int} {e f : Int} (h : cvB d xs = false) : okB d xs e f = false := by unfold okB; rw [h]; rfl
theorem ok_no2 {d : Int} {xs : List Int} {e f : Int} (h : drB e = false) : okB d xs e f = false := by unfold okB; rw [h]; simp
theorem ok_no3 {d : Int} {xs : List Int} {e f : Int} (h : flB f = false) : okB d xs e f = false := by unfold okB; rw [h]; simp
theorem ok_yes {d : Int} {xs : List Int} {e f : Int} (h1 : cvB d xs = true) (h2 : drB e = true) (h3 : flB f = true) : okB d xs e f = true := by unfold okB; rw [h1, h2, h3]; rfl
theorem iOp_bel (e : Int) (w : World) (h0 : 0 ≤ e) (h1 : e ≤ 3) : Calls Try.prog 61 #[.int .i64 e] w fun E w' => E = .returned (.int .i64 (opI e)) ∧ Below w.heap.size w w' := (iOp_any e w h0 h1).mono fun _ _ ⟨he, hw⟩ => ⟨he, hw ▸ Below.refl _ _⟩
set_option maxRecDepth 100000 in
set_option maxHeartbeats 4000000 in
theorem iSh_any (d : Int) (A : Option Addr) (cap : Nat) (xs : List Int) (e f : Int) {n : Nat} (w : World) (hn : xs.length = n) (h : SRow encNum w A xs) (hl : n ≤ 2000000) :
    Calls Try.prog 22 #[.agg #[.int .i64 d, .slice A n cap], .int .i64 e, .int .i64 f] w fun E w' => ShRet (okB d xs e f) (shL d xs e f) w E w' := by
  cases h1 : cvB d xs
  · have HOK := Lib.hid (ok_no1 (d := d) (xs := xs) (e := e) (f := f) h1)
    rw [shL_no HOK.out]
    have H1 := Lib.hid h1
    have HN := Lib.hid hn
    clear hn h1
    go_enter Try.func22, Try.ntmps22
    go_wp2_with fail
    refine (iCv_is d A cap xs _ HN.out (h.next (bel1 w (.cells #[.int .i64 d, .slice A n cap] 25 (0, 0)))) hl H1.out).mono ?_; rintro E w1 ⟨rfl, hw1⟩
    obtain ⟨hP1, hB1⟩ := ownb hw1
    obtain ⟨p0, p1, f0, f1, zp⟩ := blk2 hP1
    go_wp2
    go_ret
    exact ⟨none, 0, rfl, SOwn.nil _ _ _, .inr ⟨HOK.out, rfl, rfl⟩, hB1⟩
  · cases h2 : drB e
    · have HOK := Lib.hid (ok_no2 (d := d) (xs := xs) (e := e) (f := f) h2)
      rw [shL_no HOK.out]
      have H1 := Lib.hid h1
      have H2 := Lib.hid (dr_inV h2)
      have HN := Lib.hid hn
      clear hn h1 h2
      go_enter Try.func22, Try.ntmps22
      go_wp2_with fail
      refine (iCv_is d A cap xs _ HN.out (h.next (bel1 w (.cells #[.int .i64 d, .slice A n cap] 25 (0, 0)))) hl H1.out).mono ?_; rintro E w1 ⟨rfl, hw1⟩
      obtain ⟨hP1, hB1⟩ := ownb hw1
      obtain ⟨p0, p1, f0, f1, zp⟩ := blk2 hP1
      go_wp2_with fail
      refine (iDv_is _ H2.out).mono ?_; rintro E w' ⟨rfl, rfl⟩
      go_wp2
      go_ret
      exact ⟨none, 0, rfl, SOwn.nil _ _ _, .inr ⟨HOK.out, rfl, rfl⟩, hB1⟩
    · cases h3 : flB f
      · have HOK := Lib.hid (ok_no3 (d := d) (xs := xs) (e := e) (f := f) h3)
        rw [shL_no HOK.out]
        have H1 := Lib.hid h1
        have H2 := Lib.hid (dr_inV h2)
        have H3 := Lib.hid (h3 : inV f 0 5 = _)
        have HN := Lib.hid hn
        clear hn h1 h2 h3
        go_enter Try.func22, Try.ntmps22
        go_wp2_with fail
        refine (iCv_is d A cap xs _ HN.out (h.next (bel1 w (.cells #[.int .i64 d, .slice A n cap] 25 (0, 0)))) hl H1.out).mono ?_; rintro E w1 ⟨rfl, hw1⟩
        obtain ⟨hP1, hB1⟩ := ownb hw1
        obtain ⟨p0, p1, f0, f1, zp⟩ := blk2 hP1
        go_wp2_with fail
        refine (iDv_is _ H2.out).mono ?_; rintro E w' ⟨rfl, rfl⟩
        go_wp2_with fail
        refine (iInV_isY f 0 5 _ _ H3.out).mono ?_; rintro E w' ⟨rfl, rfl⟩
        go_wp2
        go_ret
        exact ⟨none, 0, rfl, SOwn.nil _ _ _, .inr ⟨HOK.out, rfl, rfl⟩, hB1⟩
      · obtain ⟨i0, hi0, hz0, hz1, hz2⟩ := info_parts infoNum
        have hbn : i0.bytes * n ≤ 281474976710656 := by rw [hz2]; omega
        have HI := Lib.hid (And.intro hi0 (And.intro hz0 (And.intro hz1 hbn)))
        clear hi0 hz0 hz1 hz2 hbn
        have HOK := Lib.hid (ok_yes h1 h2 h3)
        rw [shL_yes HOK.out, HOK.out]
        obtain ⟨hAll, hdd⟩ := cv_cells h1 hn
        have HALL := Lib.hid (And.intro hAll hdd)
        have HE := Lib.hid (dr_rng h2)
        have hfr : 0 ≤ f ∧ f ≤ 5 := by unfold flB at h3; simpa using h3
        have HFR := Lib.hid hfr
        have H1 := Lib.hid h1
        have H2 := Lib.hid (dr_inV h2)
        have H3 := Lib.hid (h3 : inV f 0 5 = _)
        have HN := Lib.hid hn
        clear hn h1 h2 h3 hAll hdd hfr
        go_enter Try.func22, Try.ntmps22
        go_wp2_with fail
        refine (iCv_is d A cap xs _ HN.out (h.next (bel1 w (.cells #[.int .i64 d, .slice A n cap] 25 (0, 0)))) hl H1.out).mono ?_; rintro E w1 ⟨rfl, hw1⟩
        obtain ⟨hP1, hB1⟩ := ownb hw1
        obtain ⟨p0, p1, f0, f1, zp⟩ := blk2 hP1
        go_wp2_with fail
        refine (iDv_is _ H2.out).mono ?_; rintro E w' ⟨rfl, rfl⟩
        go_wp2_with fail
        refine (iInV_isY f 0 5 _ _ H3.out).mono ?_; rintro E w' ⟨rfl, rfl⟩
        go_wp2_with (at_make; refine wpList_make_structs _ encNum (0 : Int) rfl _ _ 23 rfl 3 i0 _ Try.underlying23 HI.out.1 HI.out.2.1 HI.out.2.2.1 rfl .i64 .i64 n rfl rfl HI.out.2.2.2 (by omega) ?_)
        have hS1 : SOwn encNum (w1.alloc (.cells (encNum.flat (List.replicate n (0 : Int))).toArray 3)) w.heap.size 3 (some ⟨w1.heap.size, 0, none⟩) n (sdL d xs e f n 0) := by
          rw [sd_zero (fun i hi => HALL.out.1 i hi) HE.out.1 HE.out.2]
          exact SOwn.of_blk (E := encNum) (xs := List.replicate n (0 : Int)) (blk_new w1 (.cells (encNum.flat (List.replicate n (0 : Int))).toArray 3)) hB1.size (by simp) (by unfold maxLen; omega)
        have hP2 := blk_old hP1 (.cells (encNum.flat (List.replicate n (0 : Int))).toArray 3)
        have hB2 := hB1.alloc hB1.size (.cells (encNum.flat (List.replicate n (0 : Int))).toArray 3)
        have hzS := blk_lt hP1
        obtain ⟨gS, hgS⟩ : ∃ gS, w1.heap.size = gS := ⟨_, rfl⟩
        rw [hgS] at hS1 hzS ⊢
        have hbS : w.heap.size ≤ gS := by omega
        clear hgS
        go_wp2_with fail
        go_loopw [29] (fun v wr => ∃ k : Nat, v = .int .i64 k ∧ k ≤ n ∧ SOwn encNum wr w.heap.size 3 (some ⟨gS, 0, none⟩) n (sdL d xs e f n k) ∧ wr.heap[w.heap.size]? = some (.cells #[.int .i64 d, .slice A n cap] 25 (0, 0)) ∧ Below w.heap.size w wr) (fun v _ => (n - intOf v).toNat)
        case atStart => exact ⟨0, rfl, by omega, hS1, hP2, hB2⟩
        case round =>
          obtain ⟨k, rfl, k1, hO, hP1, hB⟩ := hrel
          clear p0 p1 f0 f1 zp
          obtain ⟨p0, p1, f0, f1, zp⟩ := blk2 hP1
          by_cases hlt : k < n
          · have hk : k < xs.length := by rw [HN.out]; exact hlt
            have hki : (k : Int) < (n : Int) := by omega
            obtain ⟨b, off, eA, hb, c0⟩ := rowNum (h.next hB) hk
            have hlS : (sdL d xs e f n k).length = n := sd_len _ _ _ _ _ _
            have hbA : b < w.heap.size := by subst eA; obtain ⟨b9, o9, e9, h9, _⟩ := rowNum h hk; cases e9; exact h9
            obtain ⟨x, hx⟩ : ∃ x, nxI d (k : Int) e = x := ⟨_, rfl⟩
            have hed := nx_edge (HALL.out.1 k hlt) HE.out.1 HE.out.2
            rw [hx] at hed
            have HX := Lib.hid hx
            have HED := Lib.hid hed
            have HLS := Lib.hid hlS
            clear hx hed hlS
            subst eA
            go_wp2_with fail
            refine (iBs_any d (k : Int) e _ n cap _ (HALL.out.1 k hlt) HE.out.1 HE.out.2).mono ?_; rintro E w3 ⟨rfl, hw3⟩
            rw [HX.out]
            have hO3 := hO.next hw3
            have hP3 := blk_next hP1 hw3
            have hB3 := bel_next hB hw3
            by_cases hz : x = -1
            · have hfa := HED.out.1 hz
              subst hz
              have hO_0 := hO3.drew
              have hB_0 := hB3.drew
              go_wp2_with fail
              refine wp_region_held_drew (S := (fun w' => w'.heap[w.heap.size]? = some (.cells #[.int .i64 d, .slice (some ⟨b, off, none⟩) n cap] 25 (0, 0)))) (by kernel_rfl) (hP3) (fun hHeld => ?_)
              have hP_0 := id hHeld
              refine wpAnyH_take (i := 0) (oi := _) (v := ?_) rfl (by kernel_rfl) (by kernel_rfl) (by kernel_rfl) (fun _ _ _ h => h) (Or.inl ⟨by rfl, ?_⟩) (by assumption) ?_
              (rotate_left); (focus (intro wv hSw; (have qP := hSw); obtain ⟨u0, u1, _, _, _⟩ := blk2 qP; go_simp; (try with_reducible rfl)))
              try simp only [Act.put, List.getElem_toArray, List.getElem_cons_succ, List.getElem_cons_zero, List.setIfInBounds_toArray, List.set_cons_zero, List.set_cons_succ]
              refine wpAnyH_take (i := 1) (oi := _) (v := ?_) rfl (by kernel_rfl) (by kernel_rfl) (by kernel_rfl) (fun _ _ _ h => h) (Or.inl ⟨by rfl, ?_⟩) (by assumption) ?_
              (rotate_left); (focus (intro wv hSw; (have qP := hSw);  go_simp; (try with_reducible rfl)))
              try simp only [Act.put, List.getElem_toArray, List.getElem_cons_succ, List.getElem_cons_zero, List.setIfInBounds_toArray, List.set_cons_zero, List.set_cons_succ]
              refine wpAnyH_take (i := 2) (oi := _) (v := ?_) rfl (by kernel_rfl) (by kernel_rfl) (by kernel_rfl) (fun _ _ _ h => h) (Or.inl ⟨by rfl, ?_⟩) (by assumption) ?_
              (rotate_left); (focus (intro wv hSw; (have qP := hSw);  go_simp; (try with_reducible rfl)))
              try simp only [Act.put, List.getElem_toArray, List.getElem_cons_succ, List.getElem_cons_zero, List.setIfInBounds_toArray, List.set_cons_zero, List.set_cons_succ]
              refine wpAnyH_take (i := 4) (oi := _) (v := ?_) rfl (by kernel_rfl) (by kernel_rfl) (by kernel_rfl) (fun _ _ _ h => h) (Or.inl ⟨by rfl, ?_⟩) (by assumption) ?_
              (rotate_left); (focus (intro wv hSw; (have qP := hSw);  go_simp; (try with_reducible rfl)))
              try simp only [Act.put, List.getElem_toArray, List.getElem_cons_succ, List.getElem_cons_zero, List.setIfInBounds_toArray, List.set_cons_zero, List.set_cons_succ]
              refine wpAnyH_take (i := 5) (oi := _) (v := ?_) rfl (by kernel_rfl) (by kernel_rfl) (by kernel_rfl) (fun _ _ _ h => h) (Or.inl ⟨by rfl, ?_⟩) (by assumption) ?_
              (rotate_left); (focus (intro wv hSw; (have qP := hSw);  go_simp; (try with_reducible rfl)))
              try simp only [Act.put, List.getElem_toArray, List.getElem_cons_succ, List.getElem_cons_zero, List.setIfInBounds_toArray, List.set_cons_zero, List.set_cons_succ]
              refine wpAnyH_ready (rs := [3]) (by kernel_rfl) (by simp) ?_
              refine AllReadyH.cons (o := _) rfl (fun K hK => ?_) AllReadyH.nil
              go_simp
              (go_at_call 61; refine (iOp_bel e _ HE.out.1 HE.out.2).mono ?_; rintro e x0c ⟨rfl, hw_0c⟩)
              refine hK.out _ _ (blk_next hP_0 hw_0c) (fun hHeld => ?_)
              clear hK K
              try simp only [Act.put, List.getElem_toArray, List.getElem_cons_succ, List.getElem_cons_zero, List.setIfInBounds_toArray, List.set_cons_zero, List.set_cons_succ]
              have hP_0c := id hHeld
              have hO_0c := hO_0.next hw_0c
              have hB_0c := bel_next hB_0 hw_0c
              refine wpAnyH_ready (rs := [6]) (by kernel_rfl) (by simp) ?_
              refine AllReadyH.cons (o := _) rfl (fun K hK => ?_) AllReadyH.nil
              go_simp
              (go_at_call 60; refine (sline d (k : Int) e f (some ⟨b, off, none⟩) cap gS n w.heap.size xs _ _ HN.out (h.next hB_0c) hl H1.out (HALL.out.1 k hlt) HE.out.1 HE.out.2 hfa HFR.out.1 HFR.out.2 HLS.out (fun b9 o9 e9 => by cases e9; omega) hO_0c).mono ?_; rintro e9 x9 ⟨rfl, hO9, hG9⟩)
              have hP9 := blk_grownY hP_0c hG9 (by simp; omega)
              have hB9 := hB_0c.grown hG9 hB_0c.size (fun j hj => by cases hj; omega)
              refine hK.out _ _ (hP9) (fun hHeld => ?_)
              clear hK K
              try simp only [Act.put, List.getElem_toArray, List.getElem_cons_succ, List.getElem_cons_zero, List.setIfInBounds_toArray, List.set_cons_zero, List.set_cons_succ]
              refine wpAnyH_done (by kernel_rfl) ?_ _
              go_wp2_with fail
              go_roundw
              case rel => exact ⟨k + 1, by go_num, by omega, by have := sd_line (xs := xs) (f := f) HALL.out.1 hlt HE.out.1 HE.out.2 hfa; rw [← this]; exact hO9, hP9, hB9⟩
              case measure => simp [intOf]; omega
            · have hfa : ¬ faN d (k : Int) e = 0 := fun e9 => hz (HED.out.2 e9)
              have HFA := Lib.hid hfa
              clear hfa
              have hxb : (x == -1) = false := by rw [beq_eq_false_iff_ne]; exact hz
              go_wp2_with fail
              go_roundw
              case rel => exact ⟨k + 1, by go_num, by omega, by rw [sd_skip HALL.out.1 HE.out.1 HE.out.2 HFA.out]; exact hO3, hP3, hB3⟩
              case measure => simp [intOf]; omega
          · obtain rfl : k = n := by omega
            have he := sd_end (xs := xs) (f := f) HALL.out.1 HALL.out.2 HE.out.1 HE.out.2
            have hl9 : (mkI (fun k => shI d xs e f k) xs.length).length = k := by rw [mk_len, HN.out]
            have HE9 := Lib.hid he
            have HL9 := Lib.hid hl9
            clear he hl9
            go_wp2_with fail
            go_ret
            exact ⟨_, _, by rw [HL9.out]; rfl, by rw [HN.out, ← HE9.out]; exact hO, .inl ⟨rfl, gS, rfl⟩, hB⟩
theorem ret_sliceY {A : Option Addr} {n m c : Nat} (h : n = m) : Ending.returned (.slice A n c) = .returned (.slice A m c) := by rw [h]
theorem SOwn.ne_selfY {α : Type} {E : Enc α} {w : World} {base g k : Nat} {T T' : TypeId} {cap : Nat} {xs : List α} {c : Array Value} {z : Nat × Nat} (h : SOwn E w base T (some ⟨g, 0, none⟩) cap xs) (hk : w.heap[k]? = some (.cells c T' z)) (he : k = g) (hT : T ≠ T') : False := by
  subst he
  rcases h.2 with ⟨e, _⟩ | ⟨g9, cap', cur, e, hb, hg, _⟩
  · simp at e
  · simp only [Value.slice.injEq, Option.some.injEq, Addr.mk.injEq, and_true] at e
    rw [← e.1, hk] at hg
    simp at hg
    exact hT hg.2.1.symm
def NumRetY (l : List Int) (w : World) (e : Ending) (w' : World) : Prop := ∃ (A : Option Addr) (cap : Nat), e = .returned (.slice A l.length cap) ∧ SOwn encNum w' w.heap.size 3 A cap l ∧ Below w.heap.size w w'
set_option maxRecDepth 100000 in
set_option maxHeartbeats 4000000 in
theorem sSh_any (d : Int) (A : Option Addr) (cap : Nat) (xs : List Int) (e f : Int) {n : Nat} (w : World) (hn : xs.length = n) (h : SRow encNum w A xs) (hl : n ≤ 2000000) :
    Calls Try.prog 26 #[.agg #[.int .i64 d, .slice A n cap], .int .i64 e, .int .i64 f] w fun E w' => NumRetY (shL d xs e f) w E w' := by
  cases hok : okB d xs e f
  · have HOK := Lib.hid hok
    rw [shL_no hok]
    have HN := Lib.hid hn
    clear hn hok
    go_enter Try.func26, Try.ntmps26
    go_wp2_with fail
    go_loopw [7, 8] (fun v i wr => ∃ (k : Nat) (g cv : Nat), k ≤ 0 ∧ i = .int .i64 k ∧ v = .slice (some ⟨g, 0, none⟩) k cv ∧ SOwn encNum wr w.heap.size 3 (some ⟨g, 0, none⟩) cv ([] : List Int) ∧ wr.heap[w.heap.size]? = some (.cells #[.int .i64 d, .slice A n cap] 25 (0, 0)) ∧ Below w.heap.size w wr) (fun _ i _ => (n - intOf i).toNat)
    case atStart => exact ⟨0, w.heap.size + 1, 0, by omega, rfl, rfl, SOwn.empty (new2 w _ _) (by omega), blk_old (blk_new w _) _, bel2 w _ _⟩
    case round =>
      obtain ⟨k, g, cv, k1, rfl, rfl, hO, hP1, hB⟩ := hrel
      obtain ⟨p0, p1, f0, f1, zp⟩ := blk2 hP1
      obtain rfl : k = 0 := by omega
      by_cases hlt : 0 < n
      · have hki : (0 : Int) < (n : Int) := by omega
        go_wp2_with fail
        refine (sOk_is d A cap xs e f _ HN.out (h.next hB) hl HOK.out).mono ?_; rintro E w1 ⟨rfl, hw1⟩
        have hP2 := blk_next hP1 hw1
        have hO2 := hO.next hw1
        have hB2 := bel_next hB hw1
        clear p0 p1 f0 f1
        obtain ⟨p0, p1, f0, f1, _⟩ := blk2 hP2
        go_wp2
        go_ret
        exact ⟨_, cv, rfl, hO2, hB2⟩
      · have hki : ¬ (0 : Int) < (n : Int) := by omega
        go_wp2_with fail
        go_ret
        exact ⟨_, cv, rfl, hO, hB⟩
  · obtain ⟨i0, hi0, hz0, hz1, hz2⟩ := info_parts infoNum
    have HI := Lib.hid (And.intro hi0 (And.intro hz0 (And.intro hz1 hz2)))
    clear hi0 hz0 hz1 hz2
    have HOK := Lib.hid hok
    rw [shL_yes hok]
    obtain ⟨h1, he, hfr⟩ := okB_iff.1 hok
    obtain ⟨hAll, hdd⟩ := cv_cells h1 hn
    have HALL := Lib.hid (And.intro hAll hdd)
    have HE := Lib.hid he
    have HFR := Lib.hid hfr
    have H1 := Lib.hid h1
    have HN := Lib.hid hn
    have hn36 : n ≤ 36 := by have := cv_len h1; omega
    clear hn h1 he hfr hAll hdd hok
    go_enter Try.func26, Try.ntmps26
    go_wp2_with fail
    go_loopw [7, 8] (fun v i wr => ∃ (k : Nat) (g cv : Nat), k ≤ n ∧ i = .int .i64 k ∧ v = .slice (some ⟨g, 0, none⟩) k cv ∧ SOwn encNum wr w.heap.size 3 (some ⟨g, 0, none⟩) cv (mkI (fun k => shI d xs e f k) k) ∧ wr.heap[w.heap.size]? = some (.cells #[.int .i64 d, .slice A n cap] 25 (0, 0)) ∧ Below w.heap.size w wr) (fun _ i _ => (n - intOf i).toNat)
    case atStart => exact ⟨0, w.heap.size + 1, 0, by omega, rfl, rfl, SOwn.empty (new2 w _ _) (by omega), blk_old (blk_new w _) _, bel2 w _ _⟩
    case round =>
      obtain ⟨k, g, cv, k1, rfl, rfl, hO, hP1, hB⟩ := hrel
      obtain ⟨p0, p1, f0, f1, zp⟩ := blk2 hP1
      by_cases hlt : k < n
      · have hki : (k : Int) < (n : Int) := by omega
        go_wp2_with fail
        refine (sOk_is d A cap xs e f _ HN.out (h.next hB) hl HOK.out).mono ?_; rintro E w1 ⟨rfl, hw1⟩
        have hP2 := blk_next hP1 hw1
        have hO2 := hO.next hw1
        have hB2 := bel_next hB hw1
        clear p0 p1 f0 f1
        obtain ⟨p0, p1, f0, f1, _⟩ := blk2 hP2
        have hc := HALL.out.1 k hlt
        obtain ⟨hc1, hc2, hc3, hc4⟩ := id hc
        obtain ⟨FF, hF⟩ : ∃ FF, faN d (k : Int) e = FF := ⟨_, rfl⟩
        have hF5 : FF ≤ 5 := by rw [← hF]; exact fa_le hc HE.out.1 HE.out.2
        have hx0 := ln_next hc HE.out.1 HE.out.2 (j := 0) (by omega)
        rw [ln_zero, hF] at hx0
        have HF := Lib.hid hF
        have HC := Lib.hid hc
        obtain ⟨x0, hx1⟩ : ∃ x0, (if 0 < FF then lnI d (k : Int) e (0 + 1) else -1) = x0 := ⟨_, rfl⟩
        have HX1 := Lib.hid hx1
        rw [hx1] at hx0
        have HX0 := Lib.hid hx0
        clear hF hc hx0 hx1
        obtain ⟨fe0, fe1⟩ := HFR.out
        go_wp2_with fail
        refine (sNx_any d (k : Int) e _ HC.out HE.out.1 HE.out.2).mono ?_; rintro E w' ⟨rfl, rfl⟩
        rw [HX0.out]
        obtain ⟨wo, rfl⟩ : ∃ wo : World, wo = w1 := ⟨_, rfl⟩
        go_wp2_with fail
        go_loopw [9, 10, 11] (fun s q v wr => ∃ j : Nat, j ≤ FF ∧ s = .int .i64 (mxI (rgI xs (stI d e) f (k : Int)) j) ∧ q = .int .i64 (f * j) ∧ v = .int .i64 (if j < FF then lnI d (k : Int) e (j + 1) else -1) ∧ wo = wr) (fun _ _ v _ => if intOf v = -1 then 0 else 1 + faN d (intOf v) e)
        case atStart => exact ⟨0, by omega, rfl, by simp, by rw [HX1.out], rfl⟩
        case round =>
          obtain ⟨j, hj, rfl, rfl, rfl, rfl⟩ := hrel
          by_cases hjF : j < FF
          · rw [if_pos hjF]
            have A1 := ln_in HC.out HE.out.1 HE.out.2 (j := j + 1) (by rw [HF.out]; omega)
            have A3 := ln_next HC.out HE.out.1 HE.out.2 (j := j + 1) (by rw [HF.out]; omega)
            rw [HF.out] at A1 A3
            have A2 : j + 1 < FF → InC d (lnI d (k : Int) e (j + 1 + 1)) ∧ faN d (lnI d (k : Int) e (j + 1 + 1)) e + (j + 1 + 1) = FF := fun h9 => by have := ln_in HC.out HE.out.1 HE.out.2 (j := j + 1 + 1) (by rw [HF.out]; omega); rw [HF.out] at this; exact ⟨this.1, this.2.1⟩
            have A4 : mxI (rgI xs (stI d e) f (k : Int)) (j + 1) = max (mxI (rgI xs (stI d e) f (k : Int)) j) (tlI xs (lnI d (k : Int) e (j + 1)) - f * ((j + 1 : Nat) : Int)) := rfl
            have A5 := mx_rng H1.out (s := stI d e) (c := (k : Int)) fe0 j
            have A6 : f * ((j + 1 : Nat) : Int) = f * (j : Int) + f := by rw [Int.natCast_add, Int.mul_add]; simp
            have A7 : 0 ≤ f * (j : Int) := Int.mul_nonneg fe0 (by omega)
            have A8 : f * (j : Int) ≤ 5 * 5 := Int.mul_le_mul fe1 (by omega) (by omega) (by omega)
            rw [A6] at A4
            have hin := in_lt HALL.out.2 A1.1
            obtain ⟨hz1, hz2, hz3, hz4⟩ := id A1.1
            have HIN := Lib.hid A1.1
            have A9 := A1.2.1
            clear A1
            revert A2 A3 A4 A5 A6 A7 A8 A9 hin hz1 hz2 hz3 hz4 HIN
            generalize lnI d (k : Int) e (j + 1) = z
            generalize hz9 : lnI d (k : Int) e (j + 1 + 1) = z2
            generalize hq9 : mxI (rgI xs (stI d e) f (k : Int)) (j + 1) = q2
            generalize mxI (rgI xs (stI d e) f (k : Int)) j = q
            generalize f * (j : Int) = fj
            intro A3 A2 A4 A5 A6 A7 A8 hin hz1 hz2 hz3 hz4 HIN A9
            have HZ9 := Lib.hid hz9
            have HQ9 := Lib.hid hq9
            clear hz9 hq9
            obtain ⟨i, rfl⟩ : ∃ i : Nat, z = (i : Int) := ⟨z.toNat, by omega⟩
            have hi : i < xs.length := by rw [HN.out]; omega
            have hii : (i : Int) < (n : Int) := by omega
            rw [tlI_at hi] at A4
            obtain ⟨b, off, eA, hb, c0⟩ := rowNum (h.next hB2) hi
            subst eA
            obtain ⟨t0, t1⟩ : 0 ≤ xs[i] ∧ xs[i] ≤ 20 := (cvB_iff.1 H1.out).2.2 _ (List.getElem_mem hi)
            obtain ⟨q0, q1⟩ := A5
            revert A4 c0 t0 t1
            generalize xs[i] = t
            intro A4 c0 t0 t1
            have HA2 := Lib.hid A2
            have HA3 := Lib.hid A3
            have HA6 := Lib.hid A6
            have HA9 := Lib.hid A9
            by_cases hqt : q < t - (fj + f)
            · have HA4 : Hid (q2 = t - (fj + f)) := by show _ = _; rw [A4]; omega
              clear A4 A2 A3 A6 A9
              go_wp2_with fail
              refine (sNx_any d (i : Int) e _ HIN.out HE.out.1 HE.out.2).mono ?_; rintro E w' ⟨rfl, rfl⟩
              go_wp2_with fail
              go_roundw
              case rel => exact ⟨j + 1, by omega, by rw [HQ9.out, HA4.out], by rw [HA6.out], by rw [HA3.out, HZ9.out], trivial⟩
              case measure =>
                have m3 := HA9.out
                have e2 : ¬ (i : Int) = -1 := by omega
                rw [HA3.out]
                by_cases h9 : j + 1 < FF
                · have m4 := HA2.out h9
                  have m5 := m4.1.2.2.1
                  have e1 : ¬ z2 = -1 := by omega
                  simp [intOf, e1, e2, h9]
                  omega
                · simp [intOf, e2, h9] <;> omega
            · have HA4 : Hid (q2 = q) := by show _ = _; rw [A4]; omega
              clear A4 A2 A3 A6 A9
              go_wp2_with fail
              refine (sNx_any d (i : Int) e _ HIN.out HE.out.1 HE.out.2).mono ?_; rintro E w' ⟨rfl, rfl⟩
              go_wp2_with fail
              go_roundw
              case rel => exact ⟨j + 1, by omega, by rw [HQ9.out, HA4.out], by rw [HA6.out], by rw [HA3.out, HZ9.out], trivial⟩
              case measure =>
                have m3 := HA9.out
                have e2 : ¬ (i : Int) = -1 := by omega
                rw [HA3.out]
                by_cases h9 : j + 1 < FF
                · have m4 := HA2.out h9
                  have m5 := m4.1.2.2.1
                  have e1 : ¬ z2 = -1 := by omega
                  simp [intOf, e1, e2, h9]
                  omega
                · simp [intOf, e2, h9] <;> omega
          · obtain rfl : j = FF := by omega
            rw [if_neg hjF]
            obtain ⟨x, hx⟩ : ∃ x, mxI (rgI xs (stI d e) f (k : Int)) j = x := ⟨_, rfl⟩
            have hsx : shI d xs e f (k : Int) = x := by rw [sh_mx fe0, HF.out]; exact hx
            have HSX := Lib.hid hsx
            rw [hx]
            clear hx hsx
            have hOa := hO2.alloc (.cells (encNum.enc x).toArray 3)
            have hcp := hB2.size
            go_wp2_with (at_builtin; refine wpList_append_lies _ rfl (.tmp 50) (.tmp 52) _ rfl w.heap.size 3 i0 _ 1 8 Try.underlying23 HI.out.1 HI.out.2.1 HI.out.2.2.1 HI.out.2.2.2 rfl (by omega) (.slice (some ⟨g, 0, none⟩) k cv) k (encNum.flat (mkI (fun k => shI d xs e f k) k)) rfl (by unfold SOwn at hOa; rw [mk_len] at hOa; exact hOa) ⟨wo.heap.size, 0, none⟩ 1 1 (encNum.enc x) rfl rfl (new_enc _ x _) (encNum.one _) (by omega) (by simp only [maxLen]; omega) (by omega) (by simp; omega) _ rfl ?_; intro g5 cap5 w5 hown5 hgr5 hat5 hlt5)
            have hB5 := SOwn.below_grown (n := k) hOa (hB2.alloc hB2.size _) hgr5
            have hgG : w.heap.size < g := by rcases hO2.form with ⟨e9, _⟩ | ⟨g9, e9, h9, _⟩; cases e9; cases e9; rcases Nat.lt_or_eq_of_le h9 with h8 | h8; exact h8; exfalso; exact SOwn.ne_selfY hO2 hP2 h8 (by decide)
            have hP5 := blk_grownY (blk_old hP2 _) hgr5 (by simp [Value.ownBlock]; omega)
            go_wp2_with fail
            go_roundw
            case rel =>
              have hsn := SOwn.snoc (E := encNum) (xs := mkI (fun k => shI d xs e f k) k) (x := x) (by rw [mk_len]; exact hown5)
              have em : mkI (fun k => shI d xs e f k) (k + 1) = mkI (fun k => shI d xs e f k) k ++ [x] := by rw [← HSX.out]; simp [mkI, List.range_succ]
              rw [← em] at hsn
              exact ⟨k + 1, g5, cap5, by omega, by go_num, rfl, hsn, hP5, hB5⟩
            case measure => simp [intOf]; omega
      · obtain rfl : k = n := by omega
        go_wp2_with fail
        go_ret
        exact ⟨_, cv, ret_sliceY (by rw [mk_len, HN.out]), by rw [HN.out]; exact hO, hB⟩
end Go.Proofs.Ytidppabconifkaa
