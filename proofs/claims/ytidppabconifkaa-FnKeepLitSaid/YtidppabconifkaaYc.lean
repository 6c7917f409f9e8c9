/- Contracts of chapter 6: cities with a height that is set. -/
import Derived.Test.YtidppabconifkaaYl
import Derived.Test.YtidppabconifkaaYk
import Derived.Laws.AppendOwn
namespace Go.Proofs.Ytidppabconifkaa
open Go Go.Deep Go.ChangeShapes Go.WideShapes Go.ChangeAt Go.RowKit
set_option linter.unusedSimpArgs false
set_option linter.unusedVariables false

theorem SRow.newsY {α : Type} {E : Enc α} {w : World} {ad : Addr} {xs : List α} (h : SRow E w (some ad) xs) : ∀ j u, (E.flat xs)[j]? = some u → w.cell? (ad.add j) = some u := by
  intro j u hu
  rcases h with rfl | ⟨b, off, e, hc⟩
  · simp [E.flat_nil] at hu
  · obtain rfl := Option.some.inj e
    have hk := E.pos
    have hj : j < xs.length * E.k := by
      have := (List.getElem?_eq_some_iff.1 hu).1
      rwa [E.flat_len] at this
    have hq : j / E.k < xs.length := by rw [Nat.div_lt_iff_lt_mul hk]; exact hj
    have hm : j / E.k * E.k + j % E.k = j := by rw [Nat.mul_comm]; exact Nat.div_add_mod j E.k
    have e1 := E.flat_at xs (j / E.k) hq (j % E.k) (Nat.mod_lt j hk)
    rw [hm, hu] at e1
    have := hc (j / E.k) hq (j % E.k) u e1.symm
    rw [hm] at this
    unfold Addr.add
    split
    · rename_i e; subst e; exact this
    · exact this
def CloneRetN (xs : List Int) (w : World) (e : Ending) (w' : World) : Prop := ∃ g cp : Nat, e = .returned (.slice (some ⟨g, 0, none⟩) xs.length cp) ∧ SOwn encNum w' w.heap.size 3 (some ⟨g, 0, none⟩) cp xs ∧ Below w.heap.size w w'
set_option maxHeartbeats 4000000 in
theorem cloneN_any (b off cap : Nat) (xs : List Int) (w : World) {n : Nat} (hn : xs.length = n) (h : SRow encNum w (some ⟨b, off, none⟩) xs) (hl : n ≤ 2000000) : Calls Try.prog 62 #[.slice (some ⟨b, off, none⟩) n cap] w (CloneRetN xs w) := by
  have HN := Lib.hid hn
  have H := Lib.hid h
  clear hn h
  obtain ⟨i0, hi0, hz0, hz1, hz2⟩ := info_parts infoNum
  have HI := Lib.hid (And.intro hi0 (And.intro hz0 (And.intro hz1 hz2)))
  clear hi0 hz0 hz1 hz2
  have q25 : ∀ (w : World) (a : Option Addr) (n c n' c' : Nat), (binOp .eql 23 (.slice a n c) (.slice none n' c')).run Try.prog w = .ok (.bool a.isNone) w := fun w a n c n' c' => Lib.run_eql_slice_nil w _ _ a n c n' c' Try.underlying23
  have hsrc := SRow.newsY (H.out.next (bel1 w (.cells #[] 3)))
  have hOe := SOwn.empty (E := encNum) (blk_new w (.cells #[] 3)) (Nat.le_refl _)
  go_enter Try.func62, Try.ntmps62
  go_wp2_with (at_builtin; refine wpList_append_own _ rfl (.tmp 5) (.tmp 6) _ rfl w.heap.size 3 i0 _ 1 8 Try.underlying23 HI.out.1 HI.out.2.1 HI.out.2.2.1 HI.out.2.2.2 rfl (by omega) (.slice (some ⟨w.heap.size, 0, none⟩) 0 0) 0 [] rfl hOe ⟨b, off, none⟩ n cap (encNum.flat xs) rfl (by rw [encNum.flat_len, HN.out]; rfl) hsrc (encNum.flat_one _) (by simp only [maxLen]; omega) (by omega) (by simp) ?_; intro v9 w9 hown9 hgr9 hnil9)
  have hn9 : 0 + n = n := by omega
  rw [hn9] at hown9
  have hv9 : v9 ≠ .slice none 0 0 := fun e => by have := (hnil9.1 e).1; simp at this
  obtain ⟨g, cp, rfl⟩ : ∃ g cp, v9 = .slice (some ⟨g, 0, none⟩) n cp := by
    rcases hown9.2 with ⟨e, _⟩ | ⟨g, cap', cur, e, _⟩
    · exact absurd e hv9
    · exact ⟨g, cap', e⟩
  clear hnil9 hv9 hsrc q25
  have hO9 : SOwn encNum w9 w.heap.size 3 (some ⟨g, 0, none⟩) cp xs := SOwn.of_raw hown9 (by simp) HN.out
  have hB9 := SOwn.below_grown (w0 := w) hOe (bel1 w _) hgr9
  clear hown9 hgr9 hOe
  go_wp2
  go_ret
  exact ⟨g, cp, by rw [HN.out]; rfl, hO9, hB9⟩
theorem SOwn.neBox {α : Type} {E : Enc α} {w : World} {base g k : Nat} {T T' : TypeId} {cap : Nat} {xs : List α} {c : Array Value} {z : Nat × Nat} (h : SOwn E w base T (some ⟨g, 0, none⟩) cap xs) (hk : w.heap[k]? = some (.cells c T' z)) (hT : T ≠ T') : k ≠ g := by
  intro e
  have := SOwn.ne_typeC (n := 0) h hk hT
  rw [e] at this
  exact this rfl
theorem SOwn.farBox {α : Type} {E : Enc α} {w : World} {base g k : Nat} {T T' : TypeId} {cap : Nat} {xs : List α} {c : Array Value} {z : Nat × Nat} (h : SOwn E w base T (some ⟨g, 0, none⟩) cap xs) (hk : w.heap[k]? = some (.cells c T' z)) (hT : T ≠ T') (a b : Value) : SOwn E ((w.setCell ⟨k, 0, none⟩ a).setCell ⟨k, 1, none⟩ b) base T (some ⟨g, 0, none⟩) cap xs := by
  refine h.grown_far (row := some k) (setAll_grown [a, b] 0 ⟨rfl, rfl, rfl, Nat.le_refl _, fun _ _ _ => rfl⟩) (fun g9 e9 e8 => ?_)
  cases e9; cases e8
  exact SOwn.neBox h hk hT rfl
def csB (d : Int) (xs : List Int) (c t : Int) : Bool := cvB d xs && (ceB xs c && tlB t)
def CSRet (ok : Bool) (d : Int) (l : List Int) (w : World) (e : Ending) (w' : World) : Prop := ∃ (A : Option Addr) (cap : Nat), e = .returned (.tuple #[.agg #[.int .i64 d, .slice A l.length cap], .bool ok]) ∧ SOwn encNum w' w.heap.size 3 A cap l ∧ Below w.heap.size w w'
def csD (d : Int) (xs : List Int) (c t : Int) : Int := if csB d xs c t = true then d else 0
def csL (d : Int) (xs : List Int) (c t : Int) : List Int := if csB d xs c t = true then xs.set c.toNat t else []
theorem ce_inW {c : Int} {xs : List Int} {n : Nat} {r : Bool} (hn : xs.length = n) (h : ceB xs c = r) : inV c 0 ((n : Int) - 1) = r := by unfold ceB at h; rw [hn] at h; exact h
set_option maxRecDepth 100000 in
set_option maxHeartbeats 4000000 in
theorem iCset_any (d : Int) (A : Option Addr) (cap : Nat) (xs : List Int) (c t : Int) {n : Nat} (w : World) (hn : xs.length = n) (h : SRow encNum w A xs) (hl : n ≤ 2000000) :
    Calls Try.prog 23 #[.agg #[.int .i64 d, .slice A n cap], .int .i64 c, .int .i64 t] w fun E w' => CSRet (csB d xs c t) (csD d xs c t) (csL d xs c t) w E w' := by
  cases h1 : cvB d xs
  · have HD : Hid (csB d xs c t = false) := by show _ = _; unfold csB; rw [h1]; rfl
    have HD1 : Hid (csD d xs c t = 0) := by show _ = _; unfold csD; rw [HD.out]; rfl
    have HL1 : Hid (csL d xs c t = []) := by show _ = _; unfold csL; rw [HD.out]; rfl
    rw [HD.out, HD1.out, HL1.out]
    have H1 := Lib.hid h1
    have HN := Lib.hid hn
    clear hn h1
    go_enter Try.func23, Try.ntmps23
    go_wp2_with fail
    refine (iCv_is d A cap xs _ HN.out (h.next (bel2 w (.cells #[.int .i64 d, .slice A n cap] 25 (0, 0)) (.cells #[.int .i64 0, .slice none 0 0] 25 (0, 0)))) hl H1.out).mono ?_; rintro E w1 ⟨rfl, hw1⟩
    obtain ⟨hP1, hQ1, hB1⟩ := ownb2 hw1
    obtain ⟨p0, p1, f0, f1, zp⟩ := blk2 hP1
    obtain ⟨q0, q1, g0, g1, zq⟩ := blk2 hQ1
    have hQ9 := blk2_set (a := .int .i64 0) (b := .slice none 0 0) hQ1
    obtain ⟨u0, u1, _, _, _⟩ := blk2 hQ9
    go_wp2
    exact bodyPost_ret (v := .tuple #[.agg #[.int .i64 0, .slice none 0 0], .bool false]) (by simp [results, Try.results23, go_sem, u0, u1]) rfl ⟨none, 0, rfl, SOwn.nil _ _ _, store2_bel hB1 (by omega) _ _⟩
  · cases h2 : ceB xs c
    · have HD : Hid (csB d xs c t = false) := by show _ = _; unfold csB; rw [h1, h2]; simp
      have HD1 : Hid (csD d xs c t = 0) := by show _ = _; unfold csD; rw [HD.out]; rfl
      have HL1 : Hid (csL d xs c t = []) := by show _ = _; unfold csL; rw [HD.out]; rfl
      rw [HD.out, HD1.out, HL1.out]
      have H1 := Lib.hid h1
      have H2 := Lib.hid (ce_inW hn h2)
      have HN := Lib.hid hn
      clear hn h1 h2
      go_enter Try.func23, Try.ntmps23
      go_wp2_with fail
      refine (iCv_is d A cap xs _ HN.out (h.next (bel2 w (.cells #[.int .i64 d, .slice A n cap] 25 (0, 0)) (.cells #[.int .i64 0, .slice none 0 0] 25 (0, 0)))) hl H1.out).mono ?_; rintro E w1 ⟨rfl, hw1⟩
      obtain ⟨hP1, hQ1, hB1⟩ := ownb2 hw1
      obtain ⟨p0, p1, f0, f1, zp⟩ := blk2 hP1
      obtain ⟨q0, q1, g0, g1, zq⟩ := blk2 hQ1
      go_wp2_with fail
      refine (iCe_is _ hl H2.out).mono ?_; rintro E w2 ⟨rfl, hw2⟩
      have hP2 := blk_next hP1 hw2
      have hQ2 := blk_next hQ1 hw2
      have hB2 := bel_next hB1 hw2
      clear p0 p1 f0 f1 q0 q1 g0 g1
      obtain ⟨p0, p1, f0, f1, _⟩ := blk2 hP2
      obtain ⟨q0, q1, g0, g1, _⟩ := blk2 hQ2
      have hQ9 := blk2_set (a := .int .i64 0) (b := .slice none 0 0) hQ2
      obtain ⟨u0, u1, _, _, _⟩ := blk2 hQ9
      go_wp2
      exact bodyPost_ret (v := .tuple #[.agg #[.int .i64 0, .slice none 0 0], .bool false]) (by simp [results, Try.results23, go_sem, u0, u1]) rfl ⟨none, 0, rfl, SOwn.nil _ _ _, store2_bel hB2 (by omega) _ _⟩
    · cases h3 : tlB t
      · have HD : Hid (csB d xs c t = false) := by show _ = _; unfold csB; rw [h1, h2, h3]; simp
        have HD1 : Hid (csD d xs c t = 0) := by show _ = _; unfold csD; rw [HD.out]; rfl
        have HL1 : Hid (csL d xs c t = []) := by show _ = _; unfold csL; rw [HD.out]; rfl
        rw [HD.out, HD1.out, HL1.out]
        have H1 := Lib.hid h1
        have H2 := Lib.hid (ce_inW hn h2)
        have H3 := Lib.hid h3
        have HN := Lib.hid hn
        clear hn h1 h2 h3
        go_enter Try.func23, Try.ntmps23
        go_wp2_with fail
        refine (iCv_is d A cap xs _ HN.out (h.next (bel2 w (.cells #[.int .i64 d, .slice A n cap] 25 (0, 0)) (.cells #[.int .i64 0, .slice none 0 0] 25 (0, 0)))) hl H1.out).mono ?_; rintro E w1 ⟨rfl, hw1⟩
        obtain ⟨hP1, hQ1, hB1⟩ := ownb2 hw1
        obtain ⟨p0, p1, f0, f1, zp⟩ := blk2 hP1
        obtain ⟨q0, q1, g0, g1, zq⟩ := blk2 hQ1
        go_wp2_with fail
        refine (iCe_is _ hl H2.out).mono ?_; rintro E w2 ⟨rfl, hw2⟩
        have hP2 := blk_next hP1 hw2
        have hQ2 := blk_next hQ1 hw2
        have hB2 := bel_next hB1 hw2
        clear p0 p1 f0 f1 q0 q1 g0 g1
        obtain ⟨p0, p1, f0, f1, _⟩ := blk2 hP2
        obtain ⟨q0, q1, g0, g1, _⟩ := blk2 hQ2
        go_wp2_with fail
        refine (iTVY _ _ _ H3.out).mono ?_; rintro E w' ⟨rfl, rfl⟩
        have hQ9 := blk2_set (a := .int .i64 0) (b := .slice none 0 0) hQ2
        obtain ⟨u0, u1, _, _, _⟩ := blk2 hQ9
        go_wp2
        exact bodyPost_ret (v := .tuple #[.agg #[.int .i64 0, .slice none 0 0], .bool false]) (by simp [results, Try.results23, go_sem, u0, u1]) rfl ⟨none, 0, rfl, SOwn.nil _ _ _, store2_bel hB2 (by omega) _ _⟩
      · have HD : Hid (csB d xs c t = true) := by show _ = _; unfold csB; rw [h1, h2, h3]; rfl
        have HD1 : Hid (csD d xs c t = d) := by show _ = _; unfold csD; rw [HD.out]; rfl
        have HL1 : Hid (csL d xs c t = xs.set c.toNat t) := by show _ = _; unfold csL; rw [HD.out]; rfl
        rw [HD.out, HD1.out, HL1.out]
        have hcI := ce_in h1 h2
        have hcl := in_lt (cv_cells h1 hn).2 hcI
        obtain ⟨hc1, hc2, hc3, hc4⟩ := id hcI
        obtain ⟨i, rfl⟩ : ∃ i : Nat, c = (i : Int) := ⟨c.toNat, by omega⟩
        have hi : i < xs.length := by omega
        have hii : (i : Int) < (n : Int) := by omega
        obtain ⟨b, off, eA, hb9, _⟩ := rowNum h hi
        have H1 := Lib.hid h1
        have H2 := Lib.hid (ce_inW hn h2)
        have H3 := Lib.hid h3
        have HN := Lib.hid hn
        clear hn h1 h2 h3 hcI hc1 hc2 hc3 hc4
        subst eA
        rw [Int.toNat_natCast]
        go_enter Try.func23, Try.ntmps23
        go_wp2_with fail
        refine (iCv_is d _ cap xs _ HN.out (h.next (bel2 w (.cells #[.int .i64 d, .slice (some ⟨b, off, none⟩) n cap] 25 (0, 0)) (.cells #[.int .i64 0, .slice none 0 0] 25 (0, 0)))) hl H1.out).mono ?_; rintro E w1 ⟨rfl, hw1⟩
        obtain ⟨hP1, hQ1, hB1⟩ := ownb2 hw1
        obtain ⟨p0, p1, f0, f1, zp⟩ := blk2 hP1
        obtain ⟨q0, q1, g0, g1, zq⟩ := blk2 hQ1
        go_wp2_with fail
        refine (iCe_is _ hl H2.out).mono ?_; rintro E w2 ⟨rfl, hw2⟩
        have hP2 := blk_next hP1 hw2
        have hQ2 := blk_next hQ1 hw2
        have hB2 := bel_next hB1 hw2
        clear p0 p1 f0 f1 q0 q1 g0 g1
        obtain ⟨p0, p1, f0, f1, _⟩ := blk2 hP2
        obtain ⟨q0, q1, g0, g1, _⟩ := blk2 hQ2
        go_wp2_with fail
        refine (iTVY _ _ _ H3.out).mono ?_; rintro E w' ⟨rfl, rfl⟩
        go_wp2_with fail
        refine wp_region_held_drew (S := (fun w' => w'.heap[w.heap.size]? = some (.cells #[.int .i64 d, .slice (some ⟨b, off, none⟩) n cap] 25 (0, 0)) ∧ w'.heap[w.heap.size + 1]? = some (.cells #[.int .i64 0, .slice none 0 0] 25 (0, 0)) ∧ Below w.heap.size w w')) (by kernel_rfl) ⟨hP2, hQ2, hB2.drew⟩ (fun hHeld => ?_)
        obtain ⟨hP_0, hQ_0, hB_0⟩ := id hHeld
        refine wpAnyH_take (i := 0) (oi := _) (v := ?_) rfl (by kernel_rfl) (by kernel_rfl) (by kernel_rfl) (fun _ _ _ h => h) (Or.inl ⟨by rfl, ?_⟩) (by assumption) ?_
        (rotate_left); (focus (intro wv hSw; (obtain ⟨qP, qQ, qB⟩ := hSw); obtain ⟨_, _, _, _, _⟩ := blk2 qP; obtain ⟨_, _, _, _, _⟩ := blk2 qQ; go_simp; (try with_reducible rfl)))
        try simp only [Act.put, List.getElem_toArray, List.getElem_cons_succ, List.getElem_cons_zero, List.setIfInBounds_toArray, List.set_cons_zero, List.set_cons_succ]
        refine wpAnyH_take (i := 1) (oi := _) (v := ?_) rfl (by kernel_rfl) (by kernel_rfl) (by kernel_rfl) (fun _ _ _ h => h) (Or.inl ⟨by rfl, ?_⟩) (by assumption) ?_
        (rotate_left); (focus (intro wv hSw; (obtain ⟨qP, qQ, qB⟩ := hSw); obtain ⟨_, _, _, _, _⟩ := blk2 qP; obtain ⟨_, _, _, _, _⟩ := blk2 qQ; go_simp; (try with_reducible rfl)))
        try simp only [Act.put, List.getElem_toArray, List.getElem_cons_succ, List.getElem_cons_zero, List.setIfInBounds_toArray, List.set_cons_zero, List.set_cons_succ]
        refine wpAnyH_take (i := 2) (oi := _) (v := ?_) rfl (by kernel_rfl) (by kernel_rfl) (by kernel_rfl) (fun _ _ _ h => h) (Or.inl ⟨by rfl, ?_⟩) (by assumption) ?_
        (rotate_left); (focus (intro wv hSw; (obtain ⟨qP, qQ, qB⟩ := hSw); obtain ⟨_, _, _, _, _⟩ := blk2 qP; obtain ⟨_, _, _, _, _⟩ := blk2 qQ; go_simp; (try with_reducible rfl)))
        try simp only [Act.put, List.getElem_toArray, List.getElem_cons_succ, List.getElem_cons_zero, List.setIfInBounds_toArray, List.set_cons_zero, List.set_cons_succ]
        refine wpAnyH_take (i := 3) (oi := _) (v := ?_) rfl (by kernel_rfl) (by kernel_rfl) (by kernel_rfl) (fun _ _ _ h => h) (Or.inl ⟨by rfl, ?_⟩) (by assumption) ?_
        (rotate_left); (focus (intro wv hSw; (obtain ⟨qP, qQ, qB⟩ := hSw); obtain ⟨_, _, _, _, _⟩ := blk2 qP; obtain ⟨_, _, _, _, _⟩ := blk2 qQ; go_simp; (try with_reducible rfl)))
        try simp only [Act.put, List.getElem_toArray, List.getElem_cons_succ, List.getElem_cons_zero, List.setIfInBounds_toArray, List.set_cons_zero, List.set_cons_succ]
        refine wpAnyH_ready (rs := [4, 6]) (by kernel_rfl) (by simp) ?_
        refine AllReadyH.cons (o := _) rfl (fun K hK => ?_) (AllReadyH.cons (o := _) rfl (fun K hK => ?_) (AllReadyH.nil))
        · go_simp
          (go_at_call 62; refine (cloneN_any b off cap xs _ HN.out (h.next hB_0) hl).mono ?_; rintro e x0c ⟨g, cg, rfl, hS, hw_0c⟩)
          refine hK.out _ _ ⟨blk_next hP_0 hw_0c, blk_next hQ_0 hw_0c, bel_next hB_0 hw_0c⟩ (fun hHeld => ?_)
          clear hK K
          try simp only [Act.put, List.getElem_toArray, List.getElem_cons_succ, List.getElem_cons_zero, List.setIfInBounds_toArray, List.set_cons_zero, List.set_cons_succ]
          obtain ⟨hP_0c, hQ_0c, hB_0c⟩ := id hHeld
          rw [HN.out]
          refine wpAnyH_take (i := 5) (oi := _) (v := ?_) rfl (by kernel_rfl) (by kernel_rfl) (by kernel_rfl) (fun _ _ _ h => h) (Or.inl ⟨by rfl, ?_⟩) (by assumption) ?_
          (rotate_left); (focus (intro wv hSw; (obtain ⟨qP, qQ, qB⟩ := hSw); obtain ⟨_, _, _, _, _⟩ := blk2 qP; obtain ⟨_, _, _, _, _⟩ := blk2 qQ; go_simp; (try with_reducible rfl)))
          try simp only [Act.put, List.getElem_toArray, List.getElem_cons_succ, List.getElem_cons_zero, List.setIfInBounds_toArray, List.set_cons_zero, List.set_cons_succ]
          refine wpAnyH_ready (rs := [6]) (by kernel_rfl) (by simp) ?_
          refine AllReadyH.cons (o := _) rfl (fun K hK => ?_) (AllReadyH.nil)
          go_simp
          refine hK.out _ _ ⟨blk_old hP_0c _, blk_old hQ_0c _, hB_0c.alloc (by have := hB_0c.size; omega) _⟩ (fun hHeld => ?_)
          clear hK K
          try simp only [Act.put, List.getElem_toArray, List.getElem_cons_succ, List.getElem_cons_zero, List.setIfInBounds_toArray, List.set_cons_zero, List.set_cons_succ]
          obtain ⟨hP_0ca, hQ_0ca, hB_0ca⟩ := id hHeld
          have hA_0ca : (x0c.alloc (.cells #[.int .i64 0, .slice none 0 0] 25 (0, 0))).heap[x0c.heap.size]? = some (.cells #[.int .i64 0, .slice none 0 0] 25 (0, 0)) := by have := blk_new (x0c) (.cells #[.int .i64 0, .slice none 0 0] 25 (0, 0)); simpa using this
          have zAP_0ca : w.heap.size < x0c.heap.size := by have := blk_lt hP_0c; simpa using this
          have zAQ_0ca : w.heap.size + 1 < x0c.heap.size := by have := blk_lt hQ_0c; simpa using this
          have zAB_0ca : w.heap.size ≤ x0c.heap.size := by have := hB_0c.size; simpa using this
          refine wpAnyH_ready (rs := [7]) (by kernel_rfl) (by simp) ?_
          refine AllReadyH.cons (o := _) rfl (fun K hK => ?_) (AllReadyH.nil)
          obtain ⟨sc0_0cac, sc1_0cac, sf0_0cac, sf1_0cac, sz_0cac⟩ := blk2 hA_0ca
          go_simp
          refine hK.out _ _ ⟨blk_old hP_0c _, blk_old hQ_0c _, hB_0c.alloc (by have := hB_0c.size; omega) _⟩ (fun hHeld => ?_)
          clear hK K
          try simp only [Act.put, List.getElem_toArray, List.getElem_cons_succ, List.getElem_cons_zero, List.setIfInBounds_toArray, List.set_cons_zero, List.set_cons_succ]
          obtain ⟨hP_0cac, hQ_0cac, hB_0cac⟩ := id hHeld
          have hA_0cac : (x0c.alloc (.cells #[.int .i64 d, .slice (some ⟨g, 0, none⟩) n cg] 25)).heap[x0c.heap.size]? = some (.cells #[.int .i64 d, .slice (some ⟨g, 0, none⟩) n cg] 25) := by have := blk_new (x0c) (.cells #[.int .i64 d, .slice (some ⟨g, 0, none⟩) n cg] 25); simpa using this
          refine wpAnyH_done (by kernel_rfl) ?_ _
          have hzq := blk_lt hQ2
          have hz2 := hB2.size
          have hS1 := (hS.mono (base' := w.heap.size) (by have := hB2.size; simp; omega)).alloc (.cells #[.int .i64 d, .slice (some ⟨g, 0, none⟩) n cg] 25)
          have hxz := hw_0c.size
          have hCl : w.heap.size + 1 < x0c.heap.size := by simp at hxz; omega
          have hP9 := hP_0cac
          have hQ9 := hQ_0cac
          have hA9 := hA_0cac
          have hB9 := hB_0cac
          have e1 := SOwn.neBox hS1 hP9 (by decide)
          have e2 := SOwn.neBox hS1 hQ9 (by decide)
          have e3 := SOwn.neBox hS1 hA9 (by decide)
          have hgb : w.heap.size ≤ g := by rcases hS1.form with ⟨e, _⟩ | ⟨g9, e, h9, _⟩; cases e; cases e; exact h9
          have s0 := ownNum hS1 hi
          have sf := hS1.frozen i
          obtain ⟨a0, a1, _, _, _⟩ := blk2 hA9
          obtain ⟨_, _, _, _, _⟩ := blk2 hQ9
          have hA8 := blk_far (C := g) (i := i) hA9 e3 (.int .i64 t)
          have hQ8 := blk_far (C := g) (i := i) hQ9 e2 (.int .i64 t)
          have hS8 := setNumO hS1 i hi t
          have hB8 := hB9.setCell (p := ⟨g, i, none⟩) (show w.heap.size ≤ g from hgb) (.int .i64 t)
          obtain ⟨_, _, _, _, _⟩ := blk2 hA8
          have hQ7 := blk2_set (a := .int .i64 d) (b := .slice (some ⟨g, 0, none⟩) n cg) hQ8
          have hS7 := SOwn.farBox hS8 hQ8 (by decide) (.int .i64 d) (.slice (some ⟨g, 0, none⟩) n cg)
          have hB7 := store2_bel (C := w.heap.size + 1) hB8 (by omega) (.int .i64 d) (.slice (some ⟨g, 0, none⟩) n cg)
          obtain ⟨u0, u1, _, _, _⟩ := blk2 hQ7
          clear hP9 hB9 hS1 hB8
          go_wp2
          exact bodyPost_ret (v := .tuple #[.agg #[.int .i64 d, .slice (some ⟨g, 0, none⟩) n cg], .bool true]) (by simp [results, Try.results23, go_sem, u0, u1]) rfl ⟨some ⟨g, 0, none⟩, cg, by rw [List.length_set, HN.out], hS7, hB7⟩
        · go_simp
          refine hK.out _ _ ⟨blk_old hP_0 _, blk_old hQ_0 _, hB_0.alloc (by have := hB_0.size; omega) _⟩ (fun hHeld => ?_)
          clear hK K
          try simp only [Act.put, List.getElem_toArray, List.getElem_cons_succ, List.getElem_cons_zero, List.setIfInBounds_toArray, List.set_cons_zero, List.set_cons_succ]
          obtain ⟨hP_0a, hQ_0a, hB_0a⟩ := id hHeld
          have hA_0a : (w2.drew.alloc (.cells #[.int .i64 0, .slice none 0 0] 25 (0, 0))).heap[w2.heap.size]? = some (.cells #[.int .i64 0, .slice none 0 0] 25 (0, 0)) := by have := blk_new (w2.drew) (.cells #[.int .i64 0, .slice none 0 0] 25 (0, 0)); simpa using this
          have zAP_0a : w.heap.size < w2.heap.size := by have := blk_lt hP_0; simpa using this
          have zAQ_0a : w.heap.size + 1 < w2.heap.size := by have := blk_lt hQ_0; simpa using this
          have zAB_0a : w.heap.size ≤ w2.heap.size := by have := hB_0.size; simpa using this
          refine wpAnyH_ready (rs := [4]) (by kernel_rfl) (by simp) ?_
          refine AllReadyH.cons (o := _) rfl (fun K hK => ?_) (AllReadyH.nil)
          go_simp
          (go_at_call 62; refine (cloneN_any b off cap xs _ HN.out (h.next hB_0a) hl).mono ?_; rintro e x0ac ⟨g, cg, rfl, hS, hw_0ac⟩)
          refine hK.out _ _ ⟨blk_next hP_0a hw_0ac, blk_next hQ_0a hw_0ac, bel_next hB_0a hw_0ac⟩ (fun hHeld => ?_)
          clear hK K
          try simp only [Act.put, List.getElem_toArray, List.getElem_cons_succ, List.getElem_cons_zero, List.setIfInBounds_toArray, List.set_cons_zero, List.set_cons_succ]
          obtain ⟨hP_0ac, hQ_0ac, hB_0ac⟩ := id hHeld
          have hA_0ac := blk_next hA_0a hw_0ac
          rw [HN.out]
          refine wpAnyH_take (i := 5) (oi := _) (v := ?_) rfl (by kernel_rfl) (by kernel_rfl) (by kernel_rfl) (fun _ _ _ h => h) (Or.inl ⟨by rfl, ?_⟩) (by assumption) ?_
          (rotate_left); (focus (intro wv hSw; (obtain ⟨qP, qQ, qB⟩ := hSw); obtain ⟨_, _, _, _, _⟩ := blk2 qP; obtain ⟨_, _, _, _, _⟩ := blk2 qQ; go_simp; (try with_reducible rfl)))
          try simp only [Act.put, List.getElem_toArray, List.getElem_cons_succ, List.getElem_cons_zero, List.setIfInBounds_toArray, List.set_cons_zero, List.set_cons_succ]
          refine wpAnyH_ready (rs := [7]) (by kernel_rfl) (by simp) ?_
          refine AllReadyH.cons (o := _) rfl (fun K hK => ?_) (AllReadyH.nil)
          obtain ⟨sc0_0acc, sc1_0acc, sf0_0acc, sf1_0acc, sz_0acc⟩ := blk2 hA_0ac
          go_simp
          refine hK.out _ _ ⟨blk_store2 hP_0ac (Nat.ne_of_lt zAP_0a) _ _, blk_store2 hQ_0ac (Nat.ne_of_lt zAQ_0a) _ _, store2_bel hB_0ac zAB_0a _ _⟩ (fun hHeld => ?_)
          clear hK K
          try simp only [Act.put, List.getElem_toArray, List.getElem_cons_succ, List.getElem_cons_zero, List.setIfInBounds_toArray, List.set_cons_zero, List.set_cons_succ]
          obtain ⟨hP_0acc, hQ_0acc, hB_0acc⟩ := id hHeld
          have hA_0acc := blk2_set (a := .int .i64 d) (b := .slice (some ⟨g, 0, none⟩) n cg) hA_0ac
          refine wpAnyH_done (by kernel_rfl) ?_ _
          have hzq := blk_lt hQ2
          have hz2 := hB2.size
          have hS1 := SOwn.farBox (hS.mono (base' := w.heap.size) (by have := hB2.size; simp; omega)) hA_0ac (by decide) (.int .i64 d) (.slice (some ⟨g, 0, none⟩) n cg)
          have hCl : w.heap.size + 1 < w2.heap.size := by omega
          have hP9 := hP_0acc
          have hQ9 := hQ_0acc
          have hA9 := hA_0acc
          have hB9 := hB_0acc
          have e1 := SOwn.neBox hS1 hP9 (by decide)
          have e2 := SOwn.neBox hS1 hQ9 (by decide)
          have e3 := SOwn.neBox hS1 hA9 (by decide)
          have hgb : w.heap.size ≤ g := by rcases hS1.form with ⟨e, _⟩ | ⟨g9, e, h9, _⟩; cases e; cases e; exact h9
          have s0 := ownNum hS1 hi
          have sf := hS1.frozen i
          obtain ⟨a0, a1, _, _, _⟩ := blk2 hA9
          obtain ⟨_, _, _, _, _⟩ := blk2 hQ9
          have hA8 := blk_far (C := g) (i := i) hA9 e3 (.int .i64 t)
          have hQ8 := blk_far (C := g) (i := i) hQ9 e2 (.int .i64 t)
          have hS8 := setNumO hS1 i hi t
          have hB8 := hB9.setCell (p := ⟨g, i, none⟩) (show w.heap.size ≤ g from hgb) (.int .i64 t)
          obtain ⟨_, _, _, _, _⟩ := blk2 hA8
          have hQ7 := blk2_set (a := .int .i64 d) (b := .slice (some ⟨g, 0, none⟩) n cg) hQ8
          have hS7 := SOwn.farBox hS8 hQ8 (by decide) (.int .i64 d) (.slice (some ⟨g, 0, none⟩) n cg)
          have hB7 := store2_bel (C := w.heap.size + 1) hB8 (by omega) (.int .i64 d) (.slice (some ⟨g, 0, none⟩) n cg)
          obtain ⟨u0, u1, _, _, _⟩ := blk2 hQ7
          clear hP9 hB9 hS1 hB8
          go_wp2
          exact bodyPost_ret (v := .tuple #[.agg #[.int .i64 d, .slice (some ⟨g, 0, none⟩) n cg], .bool true]) (by simp [results, Try.results23, go_sem, u0, u1]) rfl ⟨some ⟨g, 0, none⟩, cg, by rw [List.length_set, HN.out], hS7, hB7⟩
set_option maxRecDepth 100000 in
set_option maxHeartbeats 4000000 in
theorem sCset_any (d : Int) (A : Option Addr) (cap : Nat) (xs : List Int) (c t : Int) {n : Nat} (w : World) (hn : xs.length = n) (h : SRow encNum w A xs) (hl : n ≤ 2000000) :
    Calls Try.prog 34 #[.agg #[.int .i64 d, .slice A n cap], .int .i64 c, .int .i64 t] w fun E w' => CSRet (csB d xs c t) (csD d xs c t) (csL d xs c t) w E w' := by
  cases h1 : cvB d xs
  · have HD : Hid (csB d xs c t = false) := by show _ = _; unfold csB; rw [h1]; rfl
    have HD1 : Hid (csD d xs c t = 0) := by show _ = _; unfold csD; rw [HD.out]; rfl
    have HL1 : Hid (csL d xs c t = []) := by show _ = _; unfold csL; rw [HD.out]; rfl
    rw [HD.out, HD1.out, HL1.out]
    have H1 := Lib.hid h1
    have HN := Lib.hid hn
    clear hn h1
    go_enter Try.func34, Try.ntmps34
    go_wp2_with fail
    refine (sCv_is d A cap xs _ HN.out (h.next (bel2 w (.cells #[.int .i64 d, .slice A n cap] 25 (0, 0)) (.cells #[.int .i64 0, .slice none 0 0] 25 (0, 0)))) hl H1.out).mono ?_; rintro E w1 ⟨rfl, hw1⟩
    obtain ⟨hP1, hQ1, hB1⟩ := ownb2 hw1
    obtain ⟨p0, p1, f0, f1, zp⟩ := blk2 hP1
    obtain ⟨q0, q1, g0, g1, zq⟩ := blk2 hQ1
    have hQ9 := blk2_set (a := .int .i64 0) (b := .slice none 0 0) hQ1
    obtain ⟨u0, u1, _, _, _⟩ := blk2 hQ9
    go_wp2
    exact bodyPost_ret (v := .tuple #[.agg #[.int .i64 0, .slice none 0 0], .bool false]) (by simp [results, Try.results34, go_sem, u0, u1]) rfl ⟨none, 0, rfl, SOwn.nil _ _ _, store2_bel hB1 (by omega) _ _⟩
  · cases h2 : ceB xs c
    · have HD : Hid (csB d xs c t = false) := by show _ = _; unfold csB; rw [h1, h2]; simp
      have HD1 : Hid (csD d xs c t = 0) := by show _ = _; unfold csD; rw [HD.out]; rfl
      have HL1 : Hid (csL d xs c t = []) := by show _ = _; unfold csL; rw [HD.out]; rfl
      rw [HD.out, HD1.out, HL1.out]
      have H1 := Lib.hid h1
      have H2 := Lib.hid (ce_inW hn h2)
      have HN := Lib.hid hn
      clear hn h1 h2
      go_enter Try.func34, Try.ntmps34
      go_wp2_with fail
      refine (sCv_is d A cap xs _ HN.out (h.next (bel2 w (.cells #[.int .i64 d, .slice A n cap] 25 (0, 0)) (.cells #[.int .i64 0, .slice none 0 0] 25 (0, 0)))) hl H1.out).mono ?_; rintro E w1 ⟨rfl, hw1⟩
      obtain ⟨hP1, hQ1, hB1⟩ := ownb2 hw1
      obtain ⟨p0, p1, f0, f1, zp⟩ := blk2 hP1
      obtain ⟨q0, q1, g0, g1, zq⟩ := blk2 hQ1
      go_wp2_with fail
      refine (l1V_any _ _ _ _).mono ?_; rintro E w' ⟨rfl, rfl⟩
      rw [H2.out]
      have hQ9 := blk2_set (a := .int .i64 0) (b := .slice none 0 0) hQ1
      obtain ⟨u0, u1, _, _, _⟩ := blk2 hQ9
      go_wp2
      exact bodyPost_ret (v := .tuple #[.agg #[.int .i64 0, .slice none 0 0], .bool false]) (by simp [results, Try.results34, go_sem, u0, u1]) rfl ⟨none, 0, rfl, SOwn.nil _ _ _, store2_bel hB1 (by omega) _ _⟩
    · cases h3 : tlB t
      · have HD : Hid (csB d xs c t = false) := by show _ = _; unfold csB; rw [h1, h2, h3]; simp
        have HD1 : Hid (csD d xs c t = 0) := by show _ = _; unfold csD; rw [HD.out]; rfl
        have HL1 : Hid (csL d xs c t = []) := by show _ = _; unfold csL; rw [HD.out]; rfl
        rw [HD.out, HD1.out, HL1.out]
        have H1 := Lib.hid h1
        have H2 := Lib.hid (ce_inW hn h2)
        have H3 := Lib.hid (show inV t 0 20 = false from h3)
        have HN := Lib.hid hn
        clear hn h1 h2 h3
        go_enter Try.func34, Try.ntmps34
        go_wp2_with fail
        refine (sCv_is d A cap xs _ HN.out (h.next (bel2 w (.cells #[.int .i64 d, .slice A n cap] 25 (0, 0)) (.cells #[.int .i64 0, .slice none 0 0] 25 (0, 0)))) hl H1.out).mono ?_; rintro E w1 ⟨rfl, hw1⟩
        obtain ⟨hP1, hQ1, hB1⟩ := ownb2 hw1
        obtain ⟨p0, p1, f0, f1, zp⟩ := blk2 hP1
        obtain ⟨q0, q1, g0, g1, zq⟩ := blk2 hQ1
        go_wp2_with fail
        refine (l1V_any _ _ _ _).mono ?_; rintro E w' ⟨rfl, rfl⟩
        rw [H2.out]
        go_wp2_with fail
        refine (l1V_any _ _ _ _).mono ?_; rintro E w' ⟨rfl, rfl⟩
        rw [H3.out]
        have hQ9 := blk2_set (a := .int .i64 0) (b := .slice none 0 0) hQ1
        obtain ⟨u0, u1, _, _, _⟩ := blk2 hQ9
        go_wp2
        exact bodyPost_ret (v := .tuple #[.agg #[.int .i64 0, .slice none 0 0], .bool false]) (by simp [results, Try.results34, go_sem, u0, u1]) rfl ⟨none, 0, rfl, SOwn.nil _ _ _, store2_bel hB1 (by omega) _ _⟩
      · obtain ⟨i0, hi0, hz0, hz1, hz2⟩ := info_parts infoNum
        have HI := Lib.hid (And.intro hi0 (And.intro hz0 (And.intro hz1 hz2)))
        clear hi0 hz0 hz1 hz2
        have HD : Hid (csB d xs c t = true) := by show _ = _; unfold csB; rw [h1, h2, h3]; rfl
        have HD1 : Hid (csD d xs c t = d) := by show _ = _; unfold csD; rw [HD.out]; rfl
        have HL1 : Hid (csL d xs c t = xs.set c.toNat t) := by show _ = _; unfold csL; rw [HD.out]; rfl
        rw [HD.out, HD1.out, HL1.out]
        have hcI := ce_in h1 h2
        have hcl := in_lt (cv_cells h1 hn).2 hcI
        obtain ⟨hc1, hc2, hc3, hc4⟩ := id hcI
        obtain ⟨i, rfl⟩ : ∃ i : Nat, c = (i : Int) := ⟨c.toNat, by omega⟩
        have hi : i < xs.length := by omega
        have hii : (i : Int) < (n : Int) := by omega
        obtain ⟨b, off, eA, hb9, _⟩ := rowNum h hi
        have H1 := Lib.hid h1
        have H2 := Lib.hid (ce_inW hn h2)
        have H3 := Lib.hid (show inV t 0 20 = true from h3)
        have HN := Lib.hid hn
        clear hn h1 h2 h3 hcI hc1 hc2 hc3 hc4
        subst eA
        rw [Int.toNat_natCast]
        go_enter Try.func34, Try.ntmps34
        go_wp2_with fail
        refine (sCv_is d _ cap xs _ HN.out (h.next (bel2 w (.cells #[.int .i64 d, .slice (some ⟨b, off, none⟩) n cap] 25 (0, 0)) (.cells #[.int .i64 0, .slice none 0 0] 25 (0, 0)))) hl H1.out).mono ?_; rintro E w1 ⟨rfl, hw1⟩
        obtain ⟨hP1, hQ1, hB1⟩ := ownb2 hw1
        obtain ⟨p0, p1, f0, f1, zp⟩ := blk2 hP1
        obtain ⟨q0, q1, g0, g1, zq⟩ := blk2 hQ1
        go_wp2_with fail
        refine (l1V_any _ _ _ _).mono ?_; rintro E w' ⟨rfl, rfl⟩
        rw [H2.out]
        go_wp2_with fail
        refine (l1V_any _ _ _ _).mono ?_; rintro E w' ⟨rfl, rfl⟩
        rw [H3.out]
        go_wp2_with fail
        clear p0 p1 f0 f1 q0 q1 g0 g1
        refine wp_region_held_drew (S := (fun w' => w'.heap[w.heap.size]? = some (.cells #[.int .i64 d, .slice (some ⟨b, off, none⟩) n cap] 25 (0, 0)) ∧ w'.heap[w.heap.size + 1]? = some (.cells #[.int .i64 0, .slice none 0 0] 25 (0, 0)) ∧ Below w.heap.size w w')) (by kernel_rfl) ⟨hP1, hQ1, hB1.drew⟩ (fun hHeld => ?_)
        obtain ⟨hP_0, hQ_0, hB_0⟩ := id hHeld
        refine wpAnyH_take (i := 0) (oi := _) (v := ?_) rfl (by kernel_rfl) (by kernel_rfl) (by kernel_rfl) (fun _ _ _ h => h) (Or.inl ⟨by rfl, ?_⟩) (by assumption) ?_
        (rotate_left); (focus (intro wv hSw; (obtain ⟨qP, qQ, qB⟩ := hSw); obtain ⟨_, _, _, _, _⟩ := blk2 qP; obtain ⟨_, _, _, _, _⟩ := blk2 qQ; go_simp; (try with_reducible rfl)))
        try simp only [Act.put, List.getElem_toArray, List.getElem_cons_succ, List.getElem_cons_zero, List.setIfInBounds_toArray, List.set_cons_zero, List.set_cons_succ]
        refine wpAnyH_take (i := 1) (oi := _) (v := ?_) rfl (by kernel_rfl) (by kernel_rfl) (by kernel_rfl) (fun _ _ _ h => h) (Or.inl ⟨by rfl, ?_⟩) (by assumption) ?_
        (rotate_left); (focus (intro wv hSw; (obtain ⟨qP, qQ, qB⟩ := hSw); obtain ⟨_, _, _, _, _⟩ := blk2 qP; obtain ⟨_, _, _, _, _⟩ := blk2 qQ; go_simp; (try with_reducible rfl)))
        try simp only [Act.put, List.getElem_toArray, List.getElem_cons_succ, List.getElem_cons_zero, List.setIfInBounds_toArray, List.set_cons_zero, List.set_cons_succ]
        refine wpAnyH_take (i := 3) (oi := _) (v := ?_) rfl (by kernel_rfl) (by kernel_rfl) (by kernel_rfl) (fun _ _ _ h => h) (Or.inl ⟨by rfl, ?_⟩) (by assumption) ?_
        (rotate_left); (focus (intro wv hSw; (obtain ⟨qP, qQ, qB⟩ := hSw); obtain ⟨_, _, _, _, _⟩ := blk2 qP; obtain ⟨_, _, _, _, _⟩ := blk2 qQ; go_simp; (try with_reducible rfl)))
        try simp only [Act.put, List.getElem_toArray, List.getElem_cons_succ, List.getElem_cons_zero, List.setIfInBounds_toArray, List.set_cons_zero, List.set_cons_succ]
        refine wpAnyH_take (i := 4) (oi := _) (v := ?_) rfl (by kernel_rfl) (by kernel_rfl) (by kernel_rfl) (fun _ _ _ h => h) (Or.inl ⟨by rfl, ?_⟩) (by assumption) ?_
        (rotate_left); (focus (intro wv hSw; (obtain ⟨qP, qQ, qB⟩ := hSw); obtain ⟨_, _, _, _, _⟩ := blk2 qP; obtain ⟨_, _, _, _, _⟩ := blk2 qQ; go_simp; (try with_reducible rfl)))
        try simp only [Act.put, List.getElem_toArray, List.getElem_cons_succ, List.getElem_cons_zero, List.setIfInBounds_toArray, List.set_cons_zero, List.set_cons_succ]
        refine wpAnyH_ready (rs := [2, 7]) (by kernel_rfl) (by simp) ?_
        refine AllReadyH.cons (o := _) rfl (fun K hK => ?_) (AllReadyH.cons (o := _) rfl (fun K hK => ?_) (AllReadyH.nil))
        · go_simp
          refine hK.out _ _ ⟨blk_old hP_0 _, blk_old hQ_0 _, hB_0.alloc (by have := hB_0.size; simp at this ⊢; omega) _⟩ (fun hHeld => ?_)
          clear hK K
          try simp only [Act.put, List.getElem_toArray, List.getElem_cons_succ, List.getElem_cons_zero, List.setIfInBounds_toArray, List.set_cons_zero, List.set_cons_succ]
          obtain ⟨hP_0b, hQ_0b, hB_0b⟩ := id hHeld
          have hO_0b : SOwn encNum (w1.drew.alloc (.cells #[] 3)) w.heap.size 3 (some ⟨w1.heap.size, 0, none⟩) 0 [] := SOwn.empty (E := encNum) (by have := blk_new w1.drew (.cells #[] 3); simpa using this) (by have := hB_0.size; simp at this ⊢; omega)
          refine wpAnyH_ready (rs := [5, 7]) (by kernel_rfl) (by simp) ?_
          refine AllReadyH.cons (o := _) rfl (fun K hK => ?_) (AllReadyH.cons (o := _) rfl (fun K hK => ?_) (AllReadyH.nil))
          · have hsrc := SRow.newsY (h.next hB_0b)
            rw [if_pos (by kernel_rfl)]
            refine wp_append_own _ (.tmp 29) (.tmp 31) _ rfl w.heap.size 3 i0 _ 1 8 Try.underlying23 HI.out.1 HI.out.2.1 HI.out.2.2.1 HI.out.2.2.2 rfl (by omega) (.slice (some ⟨w1.heap.size, 0, none⟩) 0 0) 0 [] rfl hO_0b ⟨b, off, none⟩ n cap (encNum.flat xs) rfl (by rw [encNum.flat_len, HN.out]; rfl) hsrc (encNum.flat_one _) (by simp only [maxLen]; omega) (by omega) (by have := hB_0b.size; simp at this ⊢; omega) ?_; intro v9 w9 hown9 hgr9 hnil9
            have hn9 : 0 + n = n := by omega
            rw [hn9] at hown9
            have hv9 : v9 ≠ .slice none 0 0 := fun e => by have := (hnil9.1 e).1; simp at this
            obtain ⟨g, cg, rfl⟩ : ∃ g cp, v9 = .slice (some ⟨g, 0, none⟩) n cp := by
              rcases hown9.2 with ⟨e, _⟩ | ⟨g, cap9, cur, e, _⟩
              · exact absurd e hv9
              · exact ⟨g, cap9, e⟩
            clear hnil9 hv9 hsrc
            have hz1 := hB1.size
            have hS_0bp : SOwn encNum w9 w.heap.size 3 (some ⟨g, 0, none⟩) cg xs := SOwn.of_raw hown9 (by simp) HN.out
            have hB9 := SOwn.below_grown (w0 := w) hO_0b hB_0b hgr9
            have zq9 := blk_lt hQ1
            have hP9 := (hgr9.block _ (blk_lt hP_0b) (by simp [Value.ownBlock]; omega)).trans hP_0b
            have hQ9 := (hgr9.block _ (blk_lt hQ_0b) (by simp [Value.ownBlock]; omega)).trans hQ_0b
            have hsz9 := hgr9.size
            clear hown9 hgr9
            refine hK.out _ _ ⟨hP9, hQ9, hB9⟩ (fun hHeld => ?_)
            clear hK K
            try simp only [Act.put, List.getElem_toArray, List.getElem_cons_succ, List.getElem_cons_zero, List.setIfInBounds_toArray, List.set_cons_zero, List.set_cons_succ]
            obtain ⟨hP_0bp, hQ_0bp, hB_0bp⟩ := id hHeld
            clear hP9 hQ9 hB9
            refine wpAnyH_take (i := 6) (oi := _) (v := ?_) rfl (by kernel_rfl) (by kernel_rfl) (by kernel_rfl) (fun _ _ _ h => h) (Or.inl ⟨by rfl, ?_⟩) (by assumption) ?_
            (rotate_left); (focus (intro wv hSw; (obtain ⟨qP, qQ, qB⟩ := hSw); obtain ⟨_, _, _, _, _⟩ := blk2 qP; obtain ⟨_, _, _, _, _⟩ := blk2 qQ; go_simp; (try with_reducible rfl)))
            try simp only [Act.put, List.getElem_toArray, List.getElem_cons_succ, List.getElem_cons_zero, List.setIfInBounds_toArray, List.set_cons_zero, List.set_cons_succ]
            refine wpAnyH_ready (rs := [7]) (by kernel_rfl) (by simp) ?_
            refine AllReadyH.cons (o := _) rfl (fun K hK => ?_) (AllReadyH.nil)
            go_simp
            refine hK.out _ _ ⟨blk_old hP_0bp _, blk_old hQ_0bp _, hB_0bp.alloc (by have := hB_0bp.size; simp at this ⊢; omega) _⟩ (fun hHeld => ?_)
            clear hK K
            try simp only [Act.put, List.getElem_toArray, List.getElem_cons_succ, List.getElem_cons_zero, List.setIfInBounds_toArray, List.set_cons_zero, List.set_cons_succ]
            obtain ⟨hP_0bpa, hQ_0bpa, hB_0bpa⟩ := id hHeld
            have hA_0bpa : (w9.alloc (.cells #[.int .i64 0, .slice none 0 0] 25 (0, 0))).heap[w9.heap.size]? = some (.cells #[.int .i64 0, .slice none 0 0] 25 (0, 0)) := by have := blk_new w9 (.cells #[.int .i64 0, .slice none 0 0] 25 (0, 0)); simpa using this
            have hS_0bpa := hS_0bp.alloc (.cells #[.int .i64 0, .slice none 0 0] 25 (0, 0))
            refine wpAnyH_ready (rs := [8]) (by kernel_rfl) (by simp) ?_
            refine AllReadyH.cons (o := _) rfl (fun K hK => ?_) (AllReadyH.nil)
            obtain ⟨_, _, _, _, _⟩ := blk2 hA_0bpa
            go_simp
            refine hK.out _ _ ⟨blk_old hP_0bp _, blk_old hQ_0bp _, hB_0bp.alloc (by have := hB_0bp.size; simp at this ⊢; omega) _⟩ (fun hHeld => ?_)
            clear hK K
            try simp only [Act.put, List.getElem_toArray, List.getElem_cons_succ, List.getElem_cons_zero, List.setIfInBounds_toArray, List.set_cons_zero, List.set_cons_succ]
            obtain ⟨hP_0bpas, hQ_0bpas, hB_0bpas⟩ := id hHeld
            have hA_0bpas : (w9.alloc (.cells #[.int .i64 d, .slice (some ⟨g, 0, none⟩) n cg] 25 (0, 0))).heap[w9.heap.size]? = some (.cells #[.int .i64 d, .slice (some ⟨g, 0, none⟩) n cg] 25 (0, 0)) := blk_new w9 _
            have hS1 := hS_0bp.alloc (.cells #[.int .i64 d, .slice (some ⟨g, 0, none⟩) n cg] 25 (0, 0))
            refine wpAnyH_done (by kernel_rfl) ?_ _
            have hzq := blk_lt hQ1
            have hP9 := hP_0bpas
            have hQ9 := hQ_0bpas
            have hA9 := hA_0bpas
            have hB9 := hB_0bpas
            have e1 := SOwn.neBox hS1 hP9 (by decide)
            have e2 := SOwn.neBox hS1 hQ9 (by decide)
            have e3 := SOwn.neBox hS1 hA9 (by decide)
            have hgb : w.heap.size ≤ g := by rcases hS1.form with ⟨e, _⟩ | ⟨g9, e, h9, _⟩; cases e; cases e; exact h9
            have s0 := ownNum hS1 hi
            have sf := hS1.frozen i
            obtain ⟨a0, a1, _, _, _⟩ := blk2 hA9
            obtain ⟨_, _, _, _, _⟩ := blk2 hQ9
            have hA8 := blk_far (C := g) (i := i) hA9 e3 (.int .i64 t)
            have hQ8 := blk_far (C := g) (i := i) hQ9 e2 (.int .i64 t)
            have hS8 := setNumO hS1 i hi t
            have hB8 := hB9.setCell (p := ⟨g, i, none⟩) (show w.heap.size ≤ g from hgb) (.int .i64 t)
            obtain ⟨_, _, _, _, _⟩ := blk2 hA8
            have hQ7 := blk2_set (a := .int .i64 d) (b := .slice (some ⟨g, 0, none⟩) n cg) hQ8
            have hS7 := SOwn.farBox hS8 hQ8 (by decide) (.int .i64 d) (.slice (some ⟨g, 0, none⟩) n cg)
            have hB7 := store2_bel (C := w.heap.size + 1) hB8 (by omega) (.int .i64 d) (.slice (some ⟨g, 0, none⟩) n cg)
            obtain ⟨u0, u1, _, _, _⟩ := blk2 hQ7
            clear hP9 hB9 hS1 hB8
            go_wp2
            exact bodyPost_ret (v := .tuple #[.agg #[.int .i64 d, .slice (some ⟨g, 0, none⟩) n cg], .bool true]) (by simp [results, Try.results34, go_sem, u0, u1]) rfl ⟨some ⟨g, 0, none⟩, cg, by rw [List.length_set, HN.out], hS7, hB7⟩
          · go_simp
            refine hK.out _ _ ⟨blk_old hP_0b _, blk_old hQ_0b _, hB_0b.alloc (by have := hB_0b.size; simp at this ⊢; omega) _⟩ (fun hHeld => ?_)
            clear hK K
            try simp only [Act.put, List.getElem_toArray, List.getElem_cons_succ, List.getElem_cons_zero, List.setIfInBounds_toArray, List.set_cons_zero, List.set_cons_succ]
            obtain ⟨hP_0ba, hQ_0ba, hB_0ba⟩ := id hHeld
            have hA_0ba : ((w1.drew.alloc (.cells #[] 3)).alloc (.cells #[.int .i64 0, .slice none 0 0] 25 (0, 0))).heap[w1.heap.size + 1]? = some (.cells #[.int .i64 0, .slice none 0 0] 25 (0, 0)) := by have := blk_new (w1.drew.alloc (.cells #[] 3)) (.cells #[.int .i64 0, .slice none 0 0] 25 (0, 0)); simpa using this
            have hO_0ba := hO_0b.alloc (.cells #[.int .i64 0, .slice none 0 0] 25 (0, 0))
            have hCG : w1.heap.size + 1 ≠ w1.heap.size := by omega
            refine wpAnyH_ready (rs := [5]) (by kernel_rfl) (by simp) ?_
            refine AllReadyH.cons (o := _) rfl (fun K hK => ?_) (AllReadyH.nil)
            have hsrc := SRow.newsY (h.next hB_0ba)
            rw [if_pos (by kernel_rfl)]
            refine wp_append_own _ (.tmp 29) (.tmp 31) _ rfl w.heap.size 3 i0 _ 1 8 Try.underlying23 HI.out.1 HI.out.2.1 HI.out.2.2.1 HI.out.2.2.2 rfl (by omega) (.slice (some ⟨w1.heap.size, 0, none⟩) 0 0) 0 [] rfl hO_0ba ⟨b, off, none⟩ n cap (encNum.flat xs) rfl (by rw [encNum.flat_len, HN.out]; rfl) hsrc (encNum.flat_one _) (by simp only [maxLen]; omega) (by omega) (by have := hB_0ba.size; simp at this ⊢; omega) ?_; intro v9 w9 hown9 hgr9 hnil9
            have hn9 : 0 + n = n := by omega
            rw [hn9] at hown9
            have hv9 : v9 ≠ .slice none 0 0 := fun e => by have := (hnil9.1 e).1; simp at this
            obtain ⟨g, cg, rfl⟩ : ∃ g cp, v9 = .slice (some ⟨g, 0, none⟩) n cp := by
              rcases hown9.2 with ⟨e, _⟩ | ⟨g, cap9, cur, e, _⟩
              · exact absurd e hv9
              · exact ⟨g, cap9, e⟩
            clear hnil9 hv9 hsrc
            have hz1 := hB1.size
            have hS_0bap : SOwn encNum w9 w.heap.size 3 (some ⟨g, 0, none⟩) cg xs := SOwn.of_raw hown9 (by simp) HN.out
            have hB9 := SOwn.below_grown (w0 := w) hO_0ba hB_0ba hgr9
            have zq9 := blk_lt hQ1
            have hP9 := (hgr9.block _ (blk_lt hP_0ba) (by simp [Value.ownBlock]; omega)).trans hP_0ba
            have hQ9 := (hgr9.block _ (blk_lt hQ_0ba) (by simp [Value.ownBlock]; omega)).trans hQ_0ba
            have hA_0bap := (hgr9.block _ (blk_lt hA_0ba) (by simp [Value.ownBlock] <;> omega)).trans hA_0ba
            have hsz9 := hgr9.size
            clear hown9 hgr9
            refine hK.out _ _ ⟨hP9, hQ9, hB9⟩ (fun hHeld => ?_)
            clear hK K
            try simp only [Act.put, List.getElem_toArray, List.getElem_cons_succ, List.getElem_cons_zero, List.setIfInBounds_toArray, List.set_cons_zero, List.set_cons_succ]
            obtain ⟨hP_0bap, hQ_0bap, hB_0bap⟩ := id hHeld
            clear hP9 hQ9 hB9
            refine wpAnyH_take (i := 6) (oi := _) (v := ?_) rfl (by kernel_rfl) (by kernel_rfl) (by kernel_rfl) (fun _ _ _ h => h) (Or.inl ⟨by rfl, ?_⟩) (by assumption) ?_
            (rotate_left); (focus (intro wv hSw; (obtain ⟨qP, qQ, qB⟩ := hSw); obtain ⟨_, _, _, _, _⟩ := blk2 qP; obtain ⟨_, _, _, _, _⟩ := blk2 qQ; go_simp; (try with_reducible rfl)))
            try simp only [Act.put, List.getElem_toArray, List.getElem_cons_succ, List.getElem_cons_zero, List.setIfInBounds_toArray, List.set_cons_zero, List.set_cons_succ]
            refine wpAnyH_ready (rs := [8]) (by kernel_rfl) (by simp) ?_
            refine AllReadyH.cons (o := _) rfl (fun K hK => ?_) (AllReadyH.nil)
            obtain ⟨_, _, _, _, _⟩ := blk2 hA_0bap
            go_simp
            have hzA := blk_lt hQ1
            have hAP : w.heap.size ≠ w1.heap.size + 1 := by omega
            have hAQ : w.heap.size + 1 ≠ w1.heap.size + 1 := by omega
            refine hK.out _ _ ⟨blk_store2 hP_0bap hAP _ _, blk_store2 hQ_0bap hAQ _ _, store2_bel hB_0bap (by omega) _ _⟩ (fun hHeld => ?_)
            clear hK K
            try simp only [Act.put, List.getElem_toArray, List.getElem_cons_succ, List.getElem_cons_zero, List.setIfInBounds_toArray, List.set_cons_zero, List.set_cons_succ]
            obtain ⟨hP_0baps, hQ_0baps, hB_0baps⟩ := id hHeld
            have hA_0baps := blk2_set (a := .int .i64 d) (b := .slice (some ⟨g, 0, none⟩) n cg) hA_0bap
            have hS1 := SOwn.farBox hS_0bap hA_0bap (by decide) (.int .i64 d) (.slice (some ⟨g, 0, none⟩) n cg)
            refine wpAnyH_done (by kernel_rfl) ?_ _
            have hzq := blk_lt hQ1
            have hP9 := hP_0baps
            have hQ9 := hQ_0baps
            have hA9 := hA_0baps
            have hB9 := hB_0baps
            have e1 := SOwn.neBox hS1 hP9 (by decide)
            have e2 := SOwn.neBox hS1 hQ9 (by decide)
            have e3 := SOwn.neBox hS1 hA9 (by decide)
            have hgb : w.heap.size ≤ g := by rcases hS1.form with ⟨e, _⟩ | ⟨g9, e, h9, _⟩; cases e; cases e; exact h9
            have s0 := ownNum hS1 hi
            have sf := hS1.frozen i
            obtain ⟨a0, a1, _, _, _⟩ := blk2 hA9
            obtain ⟨_, _, _, _, _⟩ := blk2 hQ9
            have hA8 := blk_far (C := g) (i := i) hA9 e3 (.int .i64 t)
            have hQ8 := blk_far (C := g) (i := i) hQ9 e2 (.int .i64 t)
            have hS8 := setNumO hS1 i hi t
            have hB8 := hB9.setCell (p := ⟨g, i, none⟩) (show w.heap.size ≤ g from hgb) (.int .i64 t)
            obtain ⟨_, _, _, _, _⟩ := blk2 hA8
            have hQ7 := blk2_set (a := .int .i64 d) (b := .slice (some ⟨g, 0, none⟩) n cg) hQ8
            have hS7 := SOwn.farBox hS8 hQ8 (by decide) (.int .i64 d) (.slice (some ⟨g, 0, none⟩) n cg)
            have hB7 := store2_bel (C := w.heap.size + 1) hB8 (by omega) (.int .i64 d) (.slice (some ⟨g, 0, none⟩) n cg)
            obtain ⟨u0, u1, _, _, _⟩ := blk2 hQ7
            clear hP9 hB9 hS1 hB8
            go_wp2
            exact bodyPost_ret (v := .tuple #[.agg #[.int .i64 d, .slice (some ⟨g, 0, none⟩) n cg], .bool true]) (by simp [results, Try.results34, go_sem, u0, u1]) rfl ⟨some ⟨g, 0, none⟩, cg, by rw [List.length_set, HN.out], hS7, hB7⟩
        · go_simp
          refine hK.out _ _ ⟨blk_old hP_0 _, blk_old hQ_0 _, hB_0.alloc (by have := hB_0.size; simp at this ⊢; omega) _⟩ (fun hHeld => ?_)
          clear hK K
          try simp only [Act.put, List.getElem_toArray, List.getElem_cons_succ, List.getElem_cons_zero, List.setIfInBounds_toArray, List.set_cons_zero, List.set_cons_succ]
          obtain ⟨hP_0a, hQ_0a, hB_0a⟩ := id hHeld
          have hA_0a : (w1.drew.alloc (.cells #[.int .i64 0, .slice none 0 0] 25 (0, 0))).heap[w1.heap.size]? = some (.cells #[.int .i64 0, .slice none 0 0] 25 (0, 0)) := by have := blk_new w1.drew (.cells #[.int .i64 0, .slice none 0 0] 25 (0, 0)); simpa using this
          refine wpAnyH_ready (rs := [2]) (by kernel_rfl) (by simp) ?_
          refine AllReadyH.cons (o := _) rfl (fun K hK => ?_) (AllReadyH.nil)
          go_simp
          refine hK.out _ _ ⟨blk_old hP_0a _, blk_old hQ_0a _, hB_0a.alloc (by have := hB_0a.size; simp at this ⊢; omega) _⟩ (fun hHeld => ?_)
          clear hK K
          try simp only [Act.put, List.getElem_toArray, List.getElem_cons_succ, List.getElem_cons_zero, List.setIfInBounds_toArray, List.set_cons_zero, List.set_cons_succ]
          obtain ⟨hP_0ab, hQ_0ab, hB_0ab⟩ := id hHeld
          have hO_0ab : SOwn encNum ((w1.drew.alloc (.cells #[.int .i64 0, .slice none 0 0] 25 (0, 0))).alloc (.cells #[] 3)) w.heap.size 3 (some ⟨w1.heap.size + 1, 0, none⟩) 0 [] := SOwn.empty (E := encNum) (by have := blk_new (w1.drew.alloc (.cells #[.int .i64 0, .slice none 0 0] 25 (0, 0))) (.cells #[] 3); simpa using this) (by have := hB_0a.size; simp at this ⊢; omega)
          have hA_0ab : ((w1.drew.alloc (.cells #[.int .i64 0, .slice none 0 0] 25 (0, 0))).alloc (.cells #[] 3)).heap[w1.heap.size]? = some (.cells #[.int .i64 0, .slice none 0 0] 25 (0, 0)) := blk_old hA_0a _
          have hCG : w1.heap.size ≠ w1.heap.size + 1 := by omega
          refine wpAnyH_ready (rs := [5]) (by kernel_rfl) (by simp) ?_
          refine AllReadyH.cons (o := _) rfl (fun K hK => ?_) (AllReadyH.nil)
          have hsrc := SRow.newsY (h.next hB_0ab)
          rw [if_pos (by kernel_rfl)]
          refine wp_append_own _ (.tmp 29) (.tmp 31) _ rfl w.heap.size 3 i0 _ 1 8 Try.underlying23 HI.out.1 HI.out.2.1 HI.out.2.2.1 HI.out.2.2.2 rfl (by omega) (.slice (some ⟨w1.heap.size + 1, 0, none⟩) 0 0) 0 [] rfl hO_0ab ⟨b, off, none⟩ n cap (encNum.flat xs) rfl (by rw [encNum.flat_len, HN.out]; rfl) hsrc (encNum.flat_one _) (by simp only [maxLen]; omega) (by omega) (by have := hB_0ab.size; simp at this ⊢; omega) ?_; intro v9 w9 hown9 hgr9 hnil9
          have hn9 : 0 + n = n := by omega
          rw [hn9] at hown9
          have hv9 : v9 ≠ .slice none 0 0 := fun e => by have := (hnil9.1 e).1; simp at this
          obtain ⟨g, cg, rfl⟩ : ∃ g cp, v9 = .slice (some ⟨g, 0, none⟩) n cp := by
            rcases hown9.2 with ⟨e, _⟩ | ⟨g, cap9, cur, e, _⟩
            · exact absurd e hv9
            · exact ⟨g, cap9, e⟩
          clear hnil9 hv9 hsrc
          have hz1 := hB1.size
          have hS_0abp : SOwn encNum w9 w.heap.size 3 (some ⟨g, 0, none⟩) cg xs := SOwn.of_raw hown9 (by simp) HN.out
          have hB9 := SOwn.below_grown (w0 := w) hO_0ab hB_0ab hgr9
          have zq9 := blk_lt hQ1
          have hP9 := (hgr9.block _ (blk_lt hP_0ab) (by simp [Value.ownBlock]; omega)).trans hP_0ab
          have hQ9 := (hgr9.block _ (blk_lt hQ_0ab) (by simp [Value.ownBlock]; omega)).trans hQ_0ab
          have hA_0abp := (hgr9.block _ (blk_lt hA_0ab) (by simp [Value.ownBlock] <;> omega)).trans hA_0ab
          have hsz9 := hgr9.size
          clear hown9 hgr9
          refine hK.out _ _ ⟨hP9, hQ9, hB9⟩ (fun hHeld => ?_)
          clear hK K
          try simp only [Act.put, List.getElem_toArray, List.getElem_cons_succ, List.getElem_cons_zero, List.setIfInBounds_toArray, List.set_cons_zero, List.set_cons_succ]
          obtain ⟨hP_0abp, hQ_0abp, hB_0abp⟩ := id hHeld
          clear hP9 hQ9 hB9
          refine wpAnyH_take (i := 6) (oi := _) (v := ?_) rfl (by kernel_rfl) (by kernel_rfl) (by kernel_rfl) (fun _ _ _ h => h) (Or.inl ⟨by rfl, ?_⟩) (by assumption) ?_
          (rotate_left); (focus (intro wv hSw; (obtain ⟨qP, qQ, qB⟩ := hSw); obtain ⟨_, _, _, _, _⟩ := blk2 qP; obtain ⟨_, _, _, _, _⟩ := blk2 qQ; go_simp; (try with_reducible rfl)))
          try simp only [Act.put, List.getElem_toArray, List.getElem_cons_succ, List.getElem_cons_zero, List.setIfInBounds_toArray, List.set_cons_zero, List.set_cons_succ]
          refine wpAnyH_ready (rs := [8]) (by kernel_rfl) (by simp) ?_
          refine AllReadyH.cons (o := _) rfl (fun K hK => ?_) (AllReadyH.nil)
          obtain ⟨_, _, _, _, _⟩ := blk2 hA_0abp
          go_simp
          have hzA := blk_lt hQ1
          have hAP : w.heap.size ≠ w1.heap.size := by omega
          have hAQ : w.heap.size + 1 ≠ w1.heap.size := by omega
          refine hK.out _ _ ⟨blk_store2 hP_0abp hAP _ _, blk_store2 hQ_0abp hAQ _ _, store2_bel hB_0abp (by omega) _ _⟩ (fun hHeld => ?_)
          clear hK K
          try simp only [Act.put, List.getElem_toArray, List.getElem_cons_succ, List.getElem_cons_zero, List.setIfInBounds_toArray, List.set_cons_zero, List.set_cons_succ]
          obtain ⟨hP_0abps, hQ_0abps, hB_0abps⟩ := id hHeld
          have hA_0abps := blk2_set (a := .int .i64 d) (b := .slice (some ⟨g, 0, none⟩) n cg) hA_0abp
          have hS1 := SOwn.farBox hS_0abp hA_0abp (by decide) (.int .i64 d) (.slice (some ⟨g, 0, none⟩) n cg)
          refine wpAnyH_done (by kernel_rfl) ?_ _
          have hzq := blk_lt hQ1
          have hP9 := hP_0abps
          have hQ9 := hQ_0abps
          have hA9 := hA_0abps
          have hB9 := hB_0abps
          have e1 := SOwn.neBox hS1 hP9 (by decide)
          have e2 := SOwn.neBox hS1 hQ9 (by decide)
          have e3 := SOwn.neBox hS1 hA9 (by decide)
          have hgb : w.heap.size ≤ g := by rcases hS1.form with ⟨e, _⟩ | ⟨g9, e, h9, _⟩; cases e; cases e; exact h9
          have s0 := ownNum hS1 hi
          have sf := hS1.frozen i
          obtain ⟨a0, a1, _, _, _⟩ := blk2 hA9
          obtain ⟨_, _, _, _, _⟩ := blk2 hQ9
          have hA8 := blk_far (C := g) (i := i) hA9 e3 (.int .i64 t)
          have hQ8 := blk_far (C := g) (i := i) hQ9 e2 (.int .i64 t)
          have hS8 := setNumO hS1 i hi t
          have hB8 := hB9.setCell (p := ⟨g, i, none⟩) (show w.heap.size ≤ g from hgb) (.int .i64 t)
          obtain ⟨_, _, _, _, _⟩ := blk2 hA8
          have hQ7 := blk2_set (a := .int .i64 d) (b := .slice (some ⟨g, 0, none⟩) n cg) hQ8
          have hS7 := SOwn.farBox hS8 hQ8 (by decide) (.int .i64 d) (.slice (some ⟨g, 0, none⟩) n cg)
          have hB7 := store2_bel (C := w.heap.size + 1) hB8 (by omega) (.int .i64 d) (.slice (some ⟨g, 0, none⟩) n cg)
          obtain ⟨u0, u1, _, _, _⟩ := blk2 hQ7
          clear hP9 hB9 hS1 hB8
          go_wp2
          exact bodyPost_ret (v := .tuple #[.agg #[.int .i64 d, .slice (some ⟨g, 0, none⟩) n cg], .bool true]) (by simp [results, Try.results34, go_sem, u0, u1]) rfl ⟨some ⟨g, 0, none⟩, cg, by rw [List.length_set, HN.out], hS7, hB7⟩
theorem csL_len (d : Int) (xs : List Int) (c t : Int) : (csL d xs c t).length ≤ xs.length := by unfold csL; split; rw [List.length_set]; exact Nat.le_refl _; simp
theorem iCset_is (d : Int) (A : Option Addr) (cap : Nat) (xs : List Int) (c t : Int) {b : Bool} {r : Int} {l : List Int} {n : Nat} (w : World) (hn : xs.length = n) (h : SRow encNum w A xs) (hl : n ≤ 2000000) (hb : csB d xs c t = b) (hr : csD d xs c t = r) (hl2 : csL d xs c t = l) : Calls Try.prog 23 #[.agg #[.int .i64 d, .slice A n cap], .int .i64 c, .int .i64 t] w (CSRet b r l w) := by subst hb; subst hr; subst hl2; exact iCset_any d A cap xs c t w hn h hl
theorem sCset_is (d : Int) (A : Option Addr) (cap : Nat) (xs : List Int) (c t : Int) {b : Bool} {r : Int} {l : List Int} {n : Nat} (w : World) (hn : xs.length = n) (h : SRow encNum w A xs) (hl : n ≤ 2000000) (hb : csB d xs c t = b) (hr : csD d xs c t = r) (hl2 : csL d xs c t = l) : Calls Try.prog 34 #[.agg #[.int .i64 d, .slice A n cap], .int .i64 c, .int .i64 t] w (CSRet b r l w) := by subst hb; subst hr; subst hl2; exact sCset_any d A cap xs c t w hn h hl
end Go.Proofs.Ytidppabconifkaa
