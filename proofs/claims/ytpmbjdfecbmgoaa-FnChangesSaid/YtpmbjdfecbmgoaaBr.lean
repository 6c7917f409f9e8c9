/- Contracts of chapter 8: what blinds do with light. -/
import Derived.Test.YtpmbjdfecbmgoaaBa
import Derived.Test.YtpmbjdfecbmgoaaGBool
import Derived.Laws.AppendOwn
namespace Go.Proofs.Ytpmbjdfecbmgoaa
open Go Go.ChangeShapes Go.WideShapes Go.ChangeAt Go.RowKit
set_option linter.unusedSimpArgs false
set_option linter.unusedVariables false

def BoolsRet8 (l : List Bool) (w : World) (e : Ending) (w' : World) : Prop := ∃ (A : Option Addr) (cap : Nat), e = .returned (.slice A l.length cap) ∧ SOwn encBool w' w.heap.size 4 A cap l ∧ Below w.heap.size w w'
theorem ret_sliceB {A : Option Addr} {n m c : Nat} (h : n = m) : Ending.returned (.slice A n c) = .returned (.slice A m c) := by rw [h]
theorem blk_grownS {α : Type} {E : Enc α} {w w' : World} {b base cv m : Nat} {o : Obj} {V : Option Addr} {T : TypeId} {us : List α} (h : w.heap[b]? = some o) (hO : SOwn E w base T V cv us) (hg : w.grownBy w' (Value.ownBlock (.slice V m cv))) (hb : b < base) : w'.heap[b]? = some o := by
  rw [hg.block b (blk_lt h) ?_]
  · exact h
  · rcases hO.form with ⟨rfl, _⟩ | ⟨g, rfl, hg2, _⟩
    · simp [Value.ownBlock]
    · simp [Value.ownBlock]; omega
theorem blk_grown1 {w w' : World} {b : Nat} {o : Obj} {row : Option Nat} (h : w.heap[b]? = some o) (hg : w.grownBy w' row) (hne : row ≠ some b) : w'.heap[b]? = some o := by
  rw [hg.block b (blk_lt h) (fun e => hne e.symm)]; exact h
theorem brL_60 (s : Bool) (lo hi : Int) (xs : List Int) : (brL s lo hi xs).length ≤ 60 := by
  cases h : brB lo hi xs
  · rw [brL_no h]; simp
  · rw [brL_yes h, brR_len]; exact (ltB_iff.1 (brB_iff.1 h).2).1
theorem cx_t1 {lo hi x : Int} (h : lo < hi) (h1 : x ≤ lo) : sgB true lo hi x = false := sgB_lo (by omega) h1
theorem cx_t0 {lo hi x : Int} (h1 : ¬ x ≤ lo) : sgB true lo hi x = true := by
  unfold sgB; split
  · rfl
  · first | rfl | rw [if_neg h1]
theorem cx_f1 {lo hi x : Int} (h1 : hi ≤ x) : sgB false lo hi x = true := sgB_hi h1
theorem cx_f0 {lo hi x : Int} (h1 : ¬ hi ≤ x) : sgB false lo hi x = false := by
  unfold sgB; rw [if_neg h1]; split <;> rfl
theorem cnt_y {a b : Bool} {c d : Int} (h : c = d + (if a = b then 0 else 1)) (e : a = b) : c = d := by rw [h, if_pos e]; omega
theorem cnt_n {a b : Bool} {c d : Int} (h : c = d + (if a = b then 0 else 1)) (e : a ≠ b) : c = d + 1 := by rw [h, if_neg e]
set_option maxRecDepth 100000 in
set_option maxHeartbeats 4000000 in
theorem iBr_is (A : Option Addr) (cap : Nat) (xs : List Int) {n : Nat} (s : Bool) {l : List Bool} {lo hi : Int} (w : World) (hn : xs.length = n) (h : SRow encNum w A xs) (hl : n ≤ 2000000) (hr : brL s lo hi xs = l) :
    Calls Try.prog 23 #[.bool s, .agg #[.int .i64 lo, .int .i64 hi], .slice A n cap] w fun E w' => BoolsRet8 l w E w' := by
  obtain ⟨i0, hi0, hz0, hz1, hz2⟩ := info_parts infoBool
  have HI := Lib.hid (And.intro hi0 (And.intro hz0 (And.intro hz1 hz2)))
  clear hi0 hz0 hz1 hz2
  subst hr
  cases hb9 : brB lo hi xs
  · rw [brL_no hb9]
    rcases brB_false hb9 with hb | ⟨hb, hv⟩
    · have HB := Lib.hid hb
      clear hb hb9
      go_enter Try.func23, Try.ntmps23
      go_wp2_with fail
      refine (iBd_is _ HB.out).mono ?_; rintro E w1 ⟨rfl, hw1⟩
      obtain ⟨hP1, hB1⟩ := ownb hw1
      go_wp2
      go_ret
      exact ⟨none, 0, rfl, SOwn.nil _ _ _, hB1⟩
    · have HB := Lib.hid hb
      have HV := Lib.hid hv
      have HN := Lib.hid hn
      clear hb hv hn hb9
      go_enter Try.func23, Try.ntmps23
      go_wp2_with fail
      refine (iBd_is _ HB.out).mono ?_; rintro E w1 ⟨rfl, hw1⟩
      obtain ⟨hP1, hB1⟩ := ownb hw1
      go_wp2_with fail
      refine (iLt_is A cap xs _ HN.out (h.next hB1) hl HV.out).mono ?_; rintro E w2 ⟨rfl, hw2⟩
      have hP2 := blk_next hP1 hw2
      have hB2 := bel_next hB1 hw2
      go_wp2
      go_ret
      exact ⟨none, 0, rfl, SOwn.nil _ _ _, hB2⟩
  · rw [brL_yes hb9]
    obtain ⟨hb, hv⟩ := brB_iff.1 hb9
    have hn60 : n ≤ 60 := by have := (ltB_iff.1 hv).1; omega
    have hlh := (bdB_iff.1 hb).2.1
    have HB := Lib.hid hb
    have HV := Lib.hid hv
    have HN := Lib.hid hn
    clear hb hv hn hb9
    go_enter Try.func23, Try.ntmps23
    go_wp2_with fail
    refine (iBd_is _ HB.out).mono ?_; rintro E w1 ⟨rfl, hw1⟩
    obtain ⟨hP1, hB1⟩ := ownb hw1
    go_wp2_with fail
    refine (iLt_is A cap xs _ HN.out (h.next hB1) hl HV.out).mono ?_; rintro E w2 ⟨rfl, hw2⟩
    have hP2 := blk_next hP1 hw2
    have hB2 := bel_next hB1 hw2
    go_wp2_with fail
    go_loopw [0, 7, 20] (fun sv rv iv wr => ∃ (k m cv : Nat) (V : Option Addr) (us : List Bool) (s1 : Bool), k ≤ n ∧ m = k ∧ iv = .int .i64 k ∧ rv = .slice V m cv ∧ sv = .bool s1 ∧ Hid (brE lo hi s (xs.take k) = s1) ∧ Hid (us.length = m) ∧ Hid (us = brR lo hi s (xs.take k)) ∧ SOwn encBool wr (w.heap.size + 1) 4 V cv us ∧ wr.heap[w.heap.size]? = some (.cells #[.int .i64 lo, .int .i64 hi] 24) ∧ Below w.heap.size w wr) (fun _ _ iv _ => (n - intOf iv).toNat)
    case atStart => exact ⟨0, 0, 0, none, [], s, by omega, rfl, rfl, rfl, rfl, (by show _ = _; rfl), (by show _ = _; rfl), (by show _ = _; rfl), SOwn.nil _ _ _, hP2, hB2⟩
    case round =>
      obtain ⟨k, m, cv, V, us, s1, k1, mk, rfl, rfl, rfl, HS, HM, HU, hO, hP, hB⟩ := hrel
      have MK := Lib.hid mk
      have hm60 : m ≤ 60 := by omega
      by_cases hlt : k < n
      · clear mk
        have hk : k < xs.length := by rw [HN.out]; exact hlt
        have hki : (k : Int) < (n : Int) := by omega
        obtain ⟨b, off, rfl, hb, c0⟩ := rowNum (h.next hB) hk
        obtain ⟨p0, p1, _, _, zp⟩ := blk2 hP
        have hs1 := brE_step hk lo hi s
        have hs2 := brR_step hk lo hi s
        rw [HS.out] at hs1
        generalize xs[k] = x at c0 hs1
        obtain ⟨v, hv⟩ : ∃ v, sgB s1 lo hi x = v := ⟨_, rfl⟩
        rw [hv] at hs1
        have HX : Hid (bqB s1 lo hi x = v) := Lib.hid ((bqB_yes HB.out).trans hv)
        rw [hs1] at hs2
        have H1 := Lib.hid hs1
        have H2 := Lib.hid hs2
        clear hs1 hs2 hv
        go_wp2_with fail
        refine (iBs_is _ HX.out).mono ?_; rintro E w3 ⟨rfl, hw3⟩
        have hP3 := blk_next hP hw3
        have hB3 := bel_next hB hw3
        have hO3 := hO.next hw3
        have hcp := hB3.size
        have hOa := hO3.alloc (.cells (encBool.enc (v)).toArray 4)
        have hPa := blk_old hP3 (.cells (encBool.enc (v)).toArray 4)
        go_wp2_with (at_builtin; refine wpList_append_lies _ rfl (.tmp 28) (.tmp 30) _ rfl (w.heap.size + 1) 4 i0 _ 1 1 Try.underlying37 HI.out.1 HI.out.2.1 HI.out.2.2.1 HI.out.2.2.2 rfl (by omega) (.slice V m cv) m (encBool.flat us) rfl (by unfold SOwn at hOa; rw [HM.out] at hOa; exact hOa) ⟨w3.heap.size, 0, none⟩ 1 1 (encBool.enc (v)) rfl rfl (new_enc (E := encBool) w3 (v) _) (encBool.one _) (by omega) (by simp only [maxLen]; omega) (by omega) (by simp; omega) _ rfl ?_; intro g5 cap5 w5 hown5 hgr5 hat5 hlt5)
        have hB5 := SOwn.below_grown (n := m) (hOa.mono (Nat.le_succ _)) (hB3.alloc hB3.size _) hgr5
        have hP5 := blk_grownS hPa hOa hgr5 (Nat.lt_succ_self _)
        have hsn := SOwn.snoc (E := encBool) (xs := us) (x := v) (by rw [HM.out]; exact hown5)
        go_wp2_with fail
        go_roundw
        case rel =>
          exact ⟨k + 1, m + 1, cap5, some ⟨g5, 0, none⟩, us ++ [v], v, by omega, by rw [MK.out], by go_num, rfl, rfl, H1, Lib.hid (by rw [List.length_append, HM.out]; rfl), Lib.hid (by rw [H2.out, HU.out]), hsn, hP5, hB5⟩
        case measure => simp [intOf]; omega
      · obtain rfl : k = n := by omega
        have hki : ¬ (k : Int) < (k : Int) := by omega
        have e9 : xs.take k = xs := List.take_of_length_le (by rw [HN.out]; omega)
        have HE9 := Lib.hid e9
        clear e9 mk
        go_wp2_with fail
        go_ret
        exact ⟨V, cv, ret_sliceB (by rw [brR_len, HN.out, MK.out]), by rw [← HE9.out, ← HU.out]; exact hO.mono (Nat.le_succ _), hB⟩
set_option maxRecDepth 100000 in
set_option maxHeartbeats 4000000 in
theorem sBr_is (A : Option Addr) (cap : Nat) (xs : List Int) {n : Nat} (s : Bool) {l : List Bool} {lo hi : Int} (w : World) (hn : xs.length = n) (h : SRow encNum w A xs) (hl : n ≤ 2000000) (hr : brL s lo hi xs = l) :
    Calls Try.prog 25 #[.bool s, .agg #[.int .i64 lo, .int .i64 hi], .slice A n cap] w fun E w' => BoolsRet8 l w E w' := by
  obtain ⟨i0, hi0, hz0, hz1, hz2⟩ := info_parts infoBool
  have HI := Lib.hid (And.intro hi0 (And.intro hz0 (And.intro hz1 hz2)))
  clear hi0 hz0 hz1 hz2
  subst hr
  cases hb9 : brB lo hi xs
  · rw [brL_no hb9]
    rcases brB_false hb9 with hb | ⟨hb, hv⟩
    · have HB := Lib.hid hb
      have HN := Lib.hid hn
      clear hb hn hb9
      go_enter Try.func25, Try.ntmps25
      go_wp2_with fail
      go_loopw [7, 8] (fun rv iv wr => ∃ (g : Nat), iv = .int .i64 0 ∧ rv = .slice (some ⟨g, 0, none⟩) 0 0 ∧ SOwn encBool wr w.heap.size 4 (some ⟨g, 0, none⟩) 0 [] ∧ wr.heap[w.heap.size]? = some (.cells #[.int .i64 lo, .int .i64 hi] 24) ∧ Below w.heap.size w wr) (fun _ iv _ => (n - intOf iv).toNat)
      case atStart => exact ⟨_, rfl, rfl, SOwn.empty (new2 w _ _) (by simp), blk_old (blk_new w _) _, bel2 w _ _⟩
      case round =>
        obtain ⟨g, rfl, rfl, hO, hP, hB⟩ := hrel
        obtain ⟨p0, p1, _, _, zp⟩ := blk2 hP
        by_cases hlt : 0 < n
        · have hki : (0 : Int) < (n : Int) := by omega
          go_wp2_with fail
          refine (sBd_is _ HB.out).mono ?_; rintro E w1 ⟨rfl, hw1⟩
          have hB1 := bel_next hB hw1
          go_wp2_with fail
          go_ret
          exact ⟨_, 0, rfl, hO.next hw1, hB1⟩
        · have hki : ¬ (0 : Int) < (n : Int) := by omega
          go_wp2_with fail
          go_ret
          exact ⟨_, 0, rfl, hO, hB⟩
    · have HB := Lib.hid hb
      have HV := Lib.hid hv
      have HN := Lib.hid hn
      clear hb hv hn hb9
      go_enter Try.func25, Try.ntmps25
      go_wp2_with fail
      go_loopw [7, 8] (fun rv iv wr => ∃ (g : Nat), iv = .int .i64 0 ∧ rv = .slice (some ⟨g, 0, none⟩) 0 0 ∧ SOwn encBool wr w.heap.size 4 (some ⟨g, 0, none⟩) 0 [] ∧ wr.heap[w.heap.size]? = some (.cells #[.int .i64 lo, .int .i64 hi] 24) ∧ Below w.heap.size w wr) (fun _ iv _ => (n - intOf iv).toNat)
      case atStart => exact ⟨_, rfl, rfl, SOwn.empty (new2 w _ _) (by simp), blk_old (blk_new w _) _, bel2 w _ _⟩
      case round =>
        obtain ⟨g, rfl, rfl, hO, hP, hB⟩ := hrel
        obtain ⟨p0, p1, _, _, zp⟩ := blk2 hP
        by_cases hlt : 0 < n
        · have hki : (0 : Int) < (n : Int) := by omega
          go_wp2_with fail
          refine (sBd_is _ HB.out).mono ?_; rintro E w1 ⟨rfl, hw1⟩
          have hB1 := bel_next hB hw1
          go_wp2_with fail
          refine (sLt_is A cap xs _ HN.out (h.next hB1) hl HV.out).mono ?_; rintro E w2 ⟨rfl, hw2⟩
          have hB2 := bel_next hB1 hw2
          go_wp2_with fail
          go_ret
          exact ⟨_, 0, rfl, (hO.next hw1).next hw2, hB2⟩
        · have hki : ¬ (0 : Int) < (n : Int) := by omega
          go_wp2_with fail
          go_ret
          exact ⟨_, 0, rfl, hO, hB⟩
  · rw [brL_yes hb9]
    obtain ⟨hb, hv⟩ := brB_iff.1 hb9
    have hn60 : n ≤ 60 := by have := (ltB_iff.1 hv).1; omega
    have hlh := (bdB_iff.1 hb).2.1
    have HB := Lib.hid hb
    have HV := Lib.hid hv
    have HN := Lib.hid hn
    clear hb hv hn hb9
    go_enter Try.func25, Try.ntmps25
    go_wp2_with fail
    go_loopw [0, 7, 8] (fun sv rv iv wr => ∃ (k m cv : Nat) (V : Option Addr) (us : List Bool) (s1 : Bool), k ≤ n ∧ m = k ∧ iv = .int .i64 k ∧ rv = .slice V m cv ∧ sv = .bool s1 ∧ Hid (brE lo hi s (xs.take k) = s1) ∧ Hid (us.length = m) ∧ Hid (us = brR lo hi s (xs.take k)) ∧ SOwn encBool wr (w.heap.size + 1) 4 V cv us ∧ wr.heap[w.heap.size]? = some (.cells #[.int .i64 lo, .int .i64 hi] 24) ∧ Below w.heap.size w wr) (fun _ _ iv _ => (n - intOf iv).toNat)
    case atStart => exact ⟨0, 0, 0, _, [], s, by omega, rfl, rfl, rfl, rfl, (by show _ = _; rfl), (by show _ = _; rfl), (by show _ = _; rfl), SOwn.empty (new2 w _ _) (by simp), blk_old (blk_new w _) _, bel2 w _ _⟩
    case round =>
      obtain ⟨k, m, cv, V, us, s1, k1, mk, rfl, rfl, rfl, HS, HM, HU, hO, hP, hB⟩ := hrel
      have MK := Lib.hid mk
      have hm60 : m ≤ 60 := by omega
      by_cases hlt : k < n
      · clear mk
        have hki : (k : Int) < (n : Int) := by omega
        obtain ⟨p0, p1, _, _, zp⟩ := blk2 hP
        go_wp2_with fail
        refine (sBd_is _ HB.out).mono ?_; rintro E w1 ⟨rfl, hw1⟩
        have hB1 := bel_next hB hw1
        have hPa1 := blk_next hP hw1
        have hO1 := hO.next hw1
        go_wp2_with fail
        refine (sLt_is A cap xs _ HN.out (h.next hB1) hl HV.out).mono ?_; rintro E w2 ⟨rfl, hw2⟩
        have hB2 := bel_next hB1 hw2
        have hP2 := blk_next hPa1 hw2
        have hO2 := hO1.next hw2
        clear hP hO hB p0 p1 hPa1 hO1 hB1
        have hP := hP2
        have hO := hO2
        have hB := hB2
        clear hP2 hO2 hB2
        have hk : k < xs.length := by rw [HN.out]; exact hlt
        have hki : (k : Int) < (n : Int) := by omega
        obtain ⟨b, off, rfl, hb, c0⟩ := rowNum (h.next hB) hk
        obtain ⟨p0, p1, _, _, zp⟩ := blk2 hP
        have hs1 := brE_step hk lo hi s
        have hs2 := brR_step hk lo hi s
        rw [HS.out] at hs1
        generalize xs[k] = x at c0 hs1
        obtain ⟨v, hv⟩ : ∃ v, sgB s1 lo hi x = v := ⟨_, rfl⟩
        rw [hv] at hs1
        have HX : Hid (bqB s1 lo hi x = v) := Lib.hid ((bqB_yes HB.out).trans hv)
        rw [hs1] at hs2
        have H1 := Lib.hid hs1
        have H2 := Lib.hid hs2
        clear hs1 hs2 hv
        go_wp2_with fail
        refine wp_region_held_drew (S := (fun w' => w'.heap[w.heap.size]? = some (.cells #[.int .i64 lo, .int .i64 hi] 24) ∧ w'.cell? ⟨b, off + k, none⟩ = some (.int .i64 x) ∧ SOwn encBool w' (w.heap.size + 1) 4 V cv us ∧ Below w.heap.size w w')) (by kernel_rfl) ⟨hP, c0, hO.drew, hB.drew⟩ (fun hHeld => ?_)
        obtain ⟨hP_0, hC_0, hO_0, hB_0⟩ := id hHeld
        refine wpAnyH_take (i := 0) (oi := _) (v := ?_) rfl (by kernel_rfl) (by kernel_rfl) (by kernel_rfl) (fun _ _ _ h => h) (Or.inl ⟨by rfl, ?_⟩) (by assumption) ?_
        (rotate_left); (focus (intro wv hSw; (obtain ⟨qP, qC, qO, qB⟩ := hSw);  go_simp; (try with_reducible rfl)))
        try simp only [Act.put, List.getElem_toArray, List.getElem_cons_succ, List.getElem_cons_zero, List.setIfInBounds_toArray, List.set_cons_zero, List.set_cons_succ]
        refine wpAnyH_take (i := 1) (oi := _) (v := ?_) rfl (by kernel_rfl) (by kernel_rfl) (by kernel_rfl) (fun _ _ _ h => h) (Or.inl ⟨by rfl, ?_⟩) (by assumption) ?_
        (rotate_left); (focus (intro wv hSw; (obtain ⟨qP, qC, qO, qB⟩ := hSw); obtain ⟨u0, u1, _, _, _⟩ := blk2 qP; go_simp; (try with_reducible rfl)))
        try simp only [Act.put, List.getElem_toArray, List.getElem_cons_succ, List.getElem_cons_zero, List.setIfInBounds_toArray, List.set_cons_zero, List.set_cons_succ]
        refine wpAnyH_take (i := 2) (oi := _) (v := ?_) rfl (by kernel_rfl) (by kernel_rfl) (by kernel_rfl) (fun _ _ _ h => h) (Or.inl ⟨by rfl, ?_⟩) (by assumption) ?_
        (rotate_left); (focus (intro wv hSw; (obtain ⟨qP, qC, qO, qB⟩ := hSw);  go_simp; (try with_reducible rfl)))
        try simp only [Act.put, List.getElem_toArray, List.getElem_cons_succ, List.getElem_cons_zero, List.setIfInBounds_toArray, List.set_cons_zero, List.set_cons_succ]
        refine wpAnyH_take (i := 3) (oi := _) (v := ?_) rfl (by kernel_rfl) (by kernel_rfl) (by kernel_rfl) (fun _ _ _ h => h) (Or.inl ⟨by rfl, ?_⟩) (by assumption) ?_
        (rotate_left); (focus (intro wv hSw; (obtain ⟨qP, qC, qO, qB⟩ := hSw);  go_simp; (try with_reducible rfl)))
        try simp only [Act.put, List.getElem_toArray, List.getElem_cons_succ, List.getElem_cons_zero, List.setIfInBounds_toArray, List.set_cons_zero, List.set_cons_succ]
        refine wpAnyH_take (i := 4) (oi := _) (v := ?_) rfl (by kernel_rfl) (by kernel_rfl) (by kernel_rfl) (fun _ _ _ h => h) (Or.inl ⟨by rfl, ?_⟩) (by assumption) ?_
        (rotate_left); (focus (intro wv hSw; (obtain ⟨qP, qC, qO, qB⟩ := hSw);  go_simp; (try with_reducible rfl)))
        try simp only [Act.put, List.getElem_toArray, List.getElem_cons_succ, List.getElem_cons_zero, List.setIfInBounds_toArray, List.set_cons_zero, List.set_cons_succ]
        refine wpAnyH_take (i := 5) (oi := _) (v := ?_) rfl (by kernel_rfl) (by kernel_rfl) (by kernel_rfl) (fun _ _ _ h => h) (Or.inl ⟨by rfl, ?_⟩) (by assumption) ?_
        (rotate_left); (focus (intro wv hSw; (obtain ⟨qP, qC, qO, qB⟩ := hSw);  go_simp; (try with_reducible rfl)))
        try simp only [Act.put, List.getElem_toArray, List.getElem_cons_succ, List.getElem_cons_zero, List.setIfInBounds_toArray, List.set_cons_zero, List.set_cons_succ]
        refine wpAnyH_ready (rs := [6]) (by kernel_rfl) (by simp) ?_
        refine AllReadyH.cons (o := _) rfl (fun K hK => ?_) AllReadyH.nil
        go_simp
        (go_at_call 21; refine (sBs_is _ HX.out).mono ?_; rintro e x0c ⟨rfl, hw_0c⟩)
        refine hK.out _ _ ⟨blk_next hP_0 hw_0c, celS_next hC_0 hw_0c, hO_0.next hw_0c, bel_next hB_0 hw_0c⟩ (fun hHeld => ?_)
        clear hK K
        try simp only [Act.put, List.getElem_toArray, List.getElem_cons_succ, List.getElem_cons_zero, List.setIfInBounds_toArray, List.set_cons_zero, List.set_cons_succ]
        obtain ⟨hP_0c, hC_0c, hO_0c, hB_0c⟩ := id hHeld
        refine wpAnyH_take (i := 7) (oi := _) (v := ?_) rfl (by kernel_rfl) (by kernel_rfl) (by kernel_rfl) (fun _ _ _ h => h) (Or.inl ⟨by rfl, ?_⟩) (by assumption) ?_
        (rotate_left); (focus (intro wv hSw; (obtain ⟨qP, qC, qO, qB⟩ := hSw);  go_simp; (try with_reducible rfl)))
        try simp only [Act.put, List.getElem_toArray, List.getElem_cons_succ, List.getElem_cons_zero, List.setIfInBounds_toArray, List.set_cons_zero, List.set_cons_succ]
        refine wpAnyH_done (by kernel_rfl) ?_ _
        have hcp := hB_0c.size
        have hOa := hO_0c.alloc (.cells (encBool.enc (v)).toArray 4)
        have hPa := blk_old hP_0c (.cells (encBool.enc (v)).toArray 4)
        go_wp2_with (at_builtin; refine wpList_append_lies _ rfl (.tmp 31) (.tmp 33) _ rfl (w.heap.size + 1) 4 i0 _ 1 1 Try.underlying37 HI.out.1 HI.out.2.1 HI.out.2.2.1 HI.out.2.2.2 rfl (by omega) (.slice V m cv) m (encBool.flat us) rfl (by unfold SOwn at hOa; rw [HM.out] at hOa; exact hOa) ⟨x0c.heap.size, 0, none⟩ 1 1 (encBool.enc (v)) rfl rfl (new_enc (E := encBool) x0c (v) _) (encBool.one _) (by omega) (by simp only [maxLen]; omega) (by omega) (by simp; omega) _ rfl ?_; intro g5 cap5 w5 hown5 hgr5 hat5 hlt5)
        have hB5 := SOwn.below_grown (n := m) (hOa.mono (Nat.le_succ _)) (hB_0c.alloc hB_0c.size _) hgr5
        have hP5 := blk_grownS hPa hOa hgr5 (Nat.lt_succ_self _)
        have hsn := SOwn.snoc (E := encBool) (xs := us) (x := v) (by rw [HM.out]; exact hown5)
        go_wp2_with fail
        go_roundw
        case rel =>
          exact ⟨k + 1, m + 1, cap5, some ⟨g5, 0, none⟩, us ++ [v], v, by omega, by rw [MK.out], by go_num, rfl, rfl, H1, Lib.hid (by rw [List.length_append, HM.out]; rfl), Lib.hid (by rw [H2.out, HU.out]), hsn, hP5, hB5⟩
        case measure => simp [intOf]; omega
      · obtain rfl : k = n := by omega
        have hki : ¬ (k : Int) < (k : Int) := by omega
        have e9 : xs.take k = xs := List.take_of_length_le (by rw [HN.out]; omega)
        have HE9 := Lib.hid e9
        clear e9 mk
        go_wp2_with fail
        go_ret
        exact ⟨V, cv, ret_sliceB (by rw [brR_len, HN.out, MK.out]), by rw [← HE9.out, ← HU.out]; exact hO.mono (Nat.le_succ _), hB⟩
set_option maxHeartbeats 4000000 in
theorem iCh_is (A : Option Addr) (cap : Nat) (xs : List Bool) {n : Nat} (p : Bool) {r : Int} (w : World) (hn : xs.length = n) (h : SRow encBool w A xs) (hl : n ≤ 2000000) (hr : chR p xs = r) :
    Calls Try.prog 26 #[.bool p, .slice A n cap] w fun E w' => E = .returned (.int .i64 r) ∧ Below w.heap.size w w' := by
  have HR := Lib.hid hr
  have HN := Lib.hid hn
  clear hr hn
  go_enter Try.func26, Try.ntmps26
  go_wp2_with fail
  go_loopw [5, 6, 12] (fun cv pv iv wr => ∃ (k : Nat) (q : Bool) (c : Int), iv = .int .i64 k ∧ k ≤ n ∧ pv = .bool q ∧ cv = .int .i64 c ∧ Hid (lqB p (xs.take k) = q) ∧ Hid (chR p (xs.take k) = c) ∧ (0 ≤ c ∧ c ≤ k) ∧ Below w.heap.size w wr) (fun _ _ iv _ => (n - intOf iv).toNat)
  case atStart => exact ⟨0, p, 0, rfl, by omega, rfl, rfl, (by show _ = _; rfl), (by show _ = _; rfl), by omega, Below.refl _ _⟩
  case round =>
    obtain ⟨k, q, c, rfl, k1, rfl, rfl, HQ, HC, ⟨c0_, c1_⟩, hB⟩ := hrel
    by_cases hlt : k < n
    · have hk : k < xs.length := by rw [HN.out]; exact hlt
      have hki : (k : Int) < (n : Int) := by omega
      obtain ⟨b, off, rfl, hb, d0⟩ := rowBool (h.next hB) hk
      have hs1 := lqB_step hk p
      have hs2 := chR_step hk p
      rw [HQ.out, HC.out] at hs2
      generalize xs[k] = u at d0 hs1 hs2
      have H1 := Lib.hid hs1
      have H2 := Lib.hid hs2
      clear hs1 hs2 HQ HC
      cases u <;> cases q
      · have H3 := Lib.hid (cnt_y H2.out rfl)
        go_wp2_with fail
        go_roundw
        case rel => exact ⟨k + 1, false, c, by go_num, by omega, rfl, rfl, H1, H3, ⟨by omega, by omega⟩, hB⟩
        case measure => simp [intOf]; omega
      · have H3 := Lib.hid (cnt_n H2.out (by decide))
        go_wp2_with fail
        go_roundw
        case rel => exact ⟨k + 1, false, c + 1, by go_num, by omega, rfl, rfl, H1, H3, ⟨by omega, by omega⟩, hB⟩
        case measure => simp [intOf]; omega
      · have H3 := Lib.hid (cnt_n H2.out (by decide))
        go_wp2_with fail
        go_roundw
        case rel => exact ⟨k + 1, true, c + 1, by go_num, by omega, rfl, rfl, H1, H3, ⟨by omega, by omega⟩, hB⟩
        case measure => simp [intOf]; omega
      · have H3 := Lib.hid (cnt_y H2.out rfl)
        go_wp2_with fail
        go_roundw
        case rel => exact ⟨k + 1, true, c, by go_num, by omega, rfl, rfl, H1, H3, ⟨by omega, by omega⟩, hB⟩
        case measure => simp [intOf]; omega
    · have hki : ¬ (k : Int) < (n : Int) := by omega
      go_wp2_with fail
      go_ret
      exact ⟨ret_int (by rw [← HC.out, ← HR.out, List.take_of_length_le (by rw [HN.out]; omega)]), hB⟩
set_option maxHeartbeats 4000000 in
theorem sCh_is (A : Option Addr) (cap : Nat) (xs : List Bool) {n : Nat} (p : Bool) {r : Int} (w : World) (hn : xs.length = n) (h : SRow encBool w A xs) (hl : n ≤ 2000000) (hr : chR p xs = r) :
    Calls Try.prog 29 #[.bool p, .slice A n cap] w fun E w' => E = .returned (.int .i64 r) ∧ Below w.heap.size w w' := by
  have HR := Lib.hid hr
  have HN := Lib.hid hn
  clear hr hn
  go_enter Try.func29, Try.ntmps29
  go_wp2_with fail
  go_loopw [0, 5, 6] (fun pv cv iv wr => ∃ (k : Nat) (q : Bool) (c : Int), iv = .int .i64 k ∧ k ≤ n ∧ pv = .bool q ∧ cv = .int .i64 c ∧ Hid (lqB p (xs.take k) = q) ∧ Hid (chR p (xs.take k) = c) ∧ (0 ≤ c ∧ c ≤ k) ∧ Below w.heap.size w wr) (fun _ _ iv _ => (n - intOf iv).toNat)
  case atStart => exact ⟨0, p, 0, rfl, by omega, rfl, rfl, (by show _ = _; rfl), (by show _ = _; rfl), by omega, Below.refl _ _⟩
  case round =>
    obtain ⟨k, q, c, rfl, k1, rfl, rfl, HQ, HC, ⟨c0_, c1_⟩, hB⟩ := hrel
    by_cases hlt : k < n
    · have hk : k < xs.length := by rw [HN.out]; exact hlt
      have hki : (k : Int) < (n : Int) := by omega
      obtain ⟨b, off, rfl, hb, d0⟩ := rowBool (h.next hB) hk
      have hs1 := lqB_step hk p
      have hs2 := chR_step hk p
      rw [HQ.out, HC.out] at hs2
      generalize xs[k] = u at d0 hs1 hs2
      have H1 := Lib.hid hs1
      have H2 := Lib.hid hs2
      clear hs1 hs2 HQ HC
      cases u <;> cases q
      · have H3 := Lib.hid (cnt_y H2.out rfl)
        go_wp2_with fail
        go_roundw
        case rel => exact ⟨k + 1, false, c, by go_num, by omega, rfl, rfl, H1, H3, ⟨by omega, by omega⟩, hB⟩
        case measure => simp [intOf]; omega
      · have H3 := Lib.hid (cnt_n H2.out (by decide))
        go_wp2_with fail
        go_roundw
        case rel => exact ⟨k + 1, false, c + 1, by go_num, by omega, rfl, rfl, H1, H3, ⟨by omega, by omega⟩, hB⟩
        case measure => simp [intOf]; omega
      · have H3 := Lib.hid (cnt_n H2.out (by decide))
        go_wp2_with fail
        go_roundw
        case rel => exact ⟨k + 1, true, c + 1, by go_num, by omega, rfl, rfl, H1, H3, ⟨by omega, by omega⟩, hB⟩
        case measure => simp [intOf]; omega
      · have H3 := Lib.hid (cnt_y H2.out rfl)
        go_wp2_with fail
        go_roundw
        case rel => exact ⟨k + 1, true, c, by go_num, by omega, rfl, rfl, H1, H3, ⟨by omega, by omega⟩, hB⟩
        case measure => simp [intOf]; omega
    · have hki : ¬ (k : Int) < (n : Int) := by omega
      go_wp2_with fail
      go_ret
      exact ⟨ret_int (by rw [← HC.out, ← HR.out, List.take_of_length_le (by rw [HN.out]; omega)]), hB⟩
set_option maxRecDepth 100000 in
set_option maxHeartbeats 4000000 in
theorem iBc_is (A : Option Addr) (cap : Nat) (xs : List Int) {n : Nat} (s : Bool) {r : Int} {lo hi : Int} (w : World) (hn : xs.length = n) (h : SRow encNum w A xs) (hl : n ≤ 2000000) (hr : bcI s lo hi xs = r) :
    Calls Try.prog 27 #[.bool s, .agg #[.int .i64 lo, .int .i64 hi], .slice A n cap] w fun E w' => E = .returned (.int .i64 r) ∧ Below w.heap.size w w' := by
  subst hr
  cases hb9 : brB lo hi xs
  · rw [bcI_no hb9]
    rcases brB_false hb9 with hb | ⟨hb, hv⟩
    · have HB := Lib.hid hb
      clear hb hb9
      go_enter Try.func27, Try.ntmps27
      go_wp2_with fail
      refine (iBd_is _ HB.out).mono ?_; rintro E w1 ⟨rfl, hw1⟩
      obtain ⟨hP1, hB1⟩ := ownb hw1
      go_wp2
      go_ret
      exact ⟨rfl, hB1⟩
    · have HB := Lib.hid hb
      have HV := Lib.hid hv
      have HN := Lib.hid hn
      clear hb hv hn hb9
      go_enter Try.func27, Try.ntmps27
      go_wp2_with fail
      refine (iBd_is _ HB.out).mono ?_; rintro E w1 ⟨rfl, hw1⟩
      obtain ⟨hP1, hB1⟩ := ownb hw1
      go_wp2_with fail
      refine (iLt_is A cap xs _ HN.out (h.next hB1) hl HV.out).mono ?_; rintro E w2 ⟨rfl, hw2⟩
      have hP2 := blk_next hP1 hw2
      have hB2 := bel_next hB1 hw2
      go_wp2
      go_ret
      exact ⟨rfl, hB2⟩
  · rw [bcI_yes hb9]
    obtain ⟨r, hr⟩ : ∃ r, bcR lo hi s xs = r := ⟨_, rfl⟩
    rw [hr]
    have HR := Lib.hid hr
    clear hr
    obtain ⟨hb, hv⟩ := brB_iff.1 hb9
    have hn60 : n ≤ 60 := by have := (ltB_iff.1 hv).1; omega
    have hlh := (bdB_iff.1 hb).2.1
    have HB := Lib.hid hb
    have HV := Lib.hid hv
    have HN := Lib.hid hn
    clear hb hv hn hb9
    go_enter Try.func27, Try.ntmps27
    go_wp2_with fail
    refine (iBd_is _ HB.out).mono ?_; rintro E w1 ⟨rfl, hw1⟩
    obtain ⟨hP1, hB1⟩ := ownb hw1
    go_wp2_with fail
    refine (iLt_is A cap xs _ HN.out (h.next hB1) hl HV.out).mono ?_; rintro E w2 ⟨rfl, hw2⟩
    have hP2 := blk_next hP1 hw2
    have hB2 := bel_next hB1 hw2
    go_wp2_with fail
    go_loopw [7, 8, 22] (fun cv sv iv wr => ∃ (k : Nat) (q : Bool) (c : Int), iv = .int .i64 k ∧ k ≤ n ∧ sv = .bool q ∧ cv = .int .i64 c ∧ Hid (brE lo hi s (xs.take k) = q) ∧ Hid (bcR lo hi s (xs.take k) = c) ∧ (0 ≤ c ∧ c ≤ k) ∧ wr.heap[w.heap.size]? = some (.cells #[.int .i64 lo, .int .i64 hi] 24) ∧ Below w.heap.size w wr) (fun _ _ iv _ => (n - intOf iv).toNat)
    case atStart => exact ⟨0, s, 0, rfl, by omega, rfl, rfl, (by show _ = _; rfl), (by show _ = _; rfl), by omega, hP2, hB2⟩
    case round =>
      obtain ⟨k, q, c, rfl, k1, rfl, rfl, HQ, HC, ⟨cc0, cc1⟩, hP, hB⟩ := hrel
      by_cases hlt : k < n
      · have hk : k < xs.length := by rw [HN.out]; exact hlt
        have hki : (k : Int) < (n : Int) := by omega
        obtain ⟨b, off, rfl, hb, c0⟩ := rowNum (h.next hB) hk
        obtain ⟨p0, p1, _, _, zp⟩ := blk2 hP
        have hs1 := brE_step hk lo hi s
        have hs2 := bcR_step hk lo hi s
        rw [HQ.out] at hs1 hs2
        rw [HC.out] at hs2
        generalize xs[k] = x at c0 hs1 hs2
        have H1 := Lib.hid hs1
        have H2 := Lib.hid hs2
        clear hs1 hs2 HQ HC
        cases q
        · by_cases h1 : hi ≤ x
          · have H3 := Lib.hid (H1.out.trans (cx_f1 (by omega)))
            have H4 := Lib.hid (cnt_n H2.out (by rw [cx_f1 (by omega)]; decide))
            go_wp2_with fail
            go_roundw
            case rel => exact ⟨k + 1, true, c + 1, by go_num, by omega, rfl, rfl, H3, H4, ⟨by omega, by omega⟩, hP, hB⟩
            case measure => simp [intOf]; omega
          · by_cases h2 : x ≤ lo
            · have H3 := Lib.hid (H1.out.trans (cx_f0 (by omega)))
              have H4 := Lib.hid (cnt_y H2.out (cx_f0 (by omega)))
              go_wp2_with fail
              go_roundw
              case rel => exact ⟨k + 1, false, c, by go_num, by omega, rfl, rfl, H3, H4, ⟨by omega, by omega⟩, hP, hB⟩
              case measure => simp [intOf]; omega
            · have H3 := Lib.hid (H1.out.trans (cx_f0 (by omega)))
              have H4 := Lib.hid (cnt_y H2.out (cx_f0 (by omega)))
              go_wp2_with fail
              go_roundw
              case rel => exact ⟨k + 1, false, c, by go_num, by omega, rfl, rfl, H3, H4, ⟨by omega, by omega⟩, hP, hB⟩
              case measure => simp [intOf]; omega
        · by_cases h1 : hi ≤ x
          · have H3 := Lib.hid (H1.out.trans (cx_t0 (by omega)))
            have H4 := Lib.hid (cnt_y H2.out (cx_t0 (by omega)))
            go_wp2_with fail
            go_roundw
            case rel => exact ⟨k + 1, true, c, by go_num, by omega, rfl, rfl, H3, H4, ⟨by omega, by omega⟩, hP, hB⟩
            case measure => simp [intOf]; omega
          · by_cases h2 : x ≤ lo
            · have H3 := Lib.hid (H1.out.trans (cx_t1 (by omega) (by omega)))
              have H4 := Lib.hid (cnt_n H2.out (by rw [cx_t1 (by omega) (by omega)]; decide))
              go_wp2_with fail
              go_roundw
              case rel => exact ⟨k + 1, false, c + 1, by go_num, by omega, rfl, rfl, H3, H4, ⟨by omega, by omega⟩, hP, hB⟩
              case measure => simp [intOf]; omega
            · have H3 := Lib.hid (H1.out.trans (cx_t0 (by omega)))
              have H4 := Lib.hid (cnt_y H2.out (cx_t0 (by omega)))
              go_wp2_with fail
              go_roundw
              case rel => exact ⟨k + 1, true, c, by go_num, by omega, rfl, rfl, H3, H4, ⟨by omega, by omega⟩, hP, hB⟩
              case measure => simp [intOf]; omega
      · have hki : ¬ (k : Int) < (n : Int) := by omega
        go_wp2_with fail
        go_ret
        exact ⟨ret_int (by rw [← HC.out, ← HR.out, List.take_of_length_le (by rw [HN.out]; omega)]), hB⟩
set_option maxRecDepth 100000 in
set_option maxHeartbeats 4000000 in
theorem sBc_is (A : Option Addr) (cap : Nat) (xs : List Int) {n : Nat} (s : Bool) {r : Int} {lo hi : Int} (w : World) (hn : xs.length = n) (h : SRow encNum w A xs) (hl : n ≤ 2000000) (hr : bcI s lo hi xs = r) :
    Calls Try.prog 31 #[.bool s, .agg #[.int .i64 lo, .int .i64 hi], .slice A n cap] w fun E w' => E = .returned (.int .i64 r) ∧ Below w.heap.size w w' := by
  subst hr
  cases hb9 : brB lo hi xs
  · rw [bcI_no hb9]
    rcases brB_false hb9 with hb | ⟨hb, hv⟩
    · have HB := Lib.hid hb
      clear hb hb9
      go_enter Try.func31, Try.ntmps31
      go_wp2_with fail
      refine (sBd_is _ HB.out).mono ?_; rintro E w1 ⟨rfl, hw1⟩
      obtain ⟨hP1, hB1⟩ := ownb hw1
      go_wp2
      go_ret
      exact ⟨rfl, hB1⟩
    · have HB := Lib.hid hb
      have HV := Lib.hid hv
      have HN := Lib.hid hn
      clear hb hv hn hb9
      go_enter Try.func31, Try.ntmps31
      go_wp2_with fail
      refine (sBd_is _ HB.out).mono ?_; rintro E w1 ⟨rfl, hw1⟩
      obtain ⟨hP1, hB1⟩ := ownb hw1
      go_wp2_with fail
      refine (sLt_is A cap xs _ HN.out (h.next hB1) hl HV.out).mono ?_; rintro E w2 ⟨rfl, hw2⟩
      have hP2 := blk_next hP1 hw2
      have hB2 := bel_next hB1 hw2
      go_wp2
      go_ret
      exact ⟨rfl, hB2⟩
  · rw [bcI_yes hb9]
    obtain ⟨r, hr⟩ : ∃ r, bcR lo hi s xs = r := ⟨_, rfl⟩
    rw [hr]
    have HR := Lib.hid hr
    clear hr
    obtain ⟨hb, hv⟩ := brB_iff.1 hb9
    have hn60 : n ≤ 60 := by have := (ltB_iff.1 hv).1; omega
    have hlh := (bdB_iff.1 hb).2.1
    have HB := Lib.hid hb
    have HV := Lib.hid hv
    have HN := Lib.hid hn
    clear hb hv hn hb9
    go_enter Try.func31, Try.ntmps31
    go_wp2_with fail
    refine (sBd_is _ HB.out).mono ?_; rintro E w1 ⟨rfl, hw1⟩
    obtain ⟨hP1, hB1⟩ := ownb hw1
    go_wp2_with fail
    refine (sLt_is A cap xs _ HN.out (h.next hB1) hl HV.out).mono ?_; rintro E w2 ⟨rfl, hw2⟩
    have hP2 := blk_next hP1 hw2
    have hB2 := bel_next hB1 hw2
    go_wp2_with fail
    go_loopw [0, 7, 8] (fun sv cv iv wr => ∃ (k : Nat) (q : Bool) (c : Int), iv = .int .i64 k ∧ k ≤ n ∧ sv = .bool q ∧ cv = .int .i64 c ∧ Hid (brE lo hi s (xs.take k) = q) ∧ Hid (bcR lo hi s (xs.take k) = c) ∧ (0 ≤ c ∧ c ≤ k) ∧ wr.heap[w.heap.size]? = some (.cells #[.int .i64 lo, .int .i64 hi] 24) ∧ Below w.heap.size w wr) (fun _ _ iv _ => (n - intOf iv).toNat)
    case atStart => exact ⟨0, s, 0, rfl, by omega, rfl, rfl, (by show _ = _; rfl), (by show _ = _; rfl), by omega, hP2, hB2⟩
    case round =>
      obtain ⟨k, q, c, rfl, k1, rfl, rfl, HQ, HC, ⟨cc0, cc1⟩, hP, hB⟩ := hrel
      by_cases hlt : k < n
      · have hk : k < xs.length := by rw [HN.out]; exact hlt
        have hki : (k : Int) < (n : Int) := by omega
        obtain ⟨b, off, rfl, hb, c0⟩ := rowNum (h.next hB) hk
        obtain ⟨p0, p1, _, _, zp⟩ := blk2 hP
        have hs1 := brE_step hk lo hi s
        have hs2 := bcR_step hk lo hi s
        rw [HQ.out] at hs1 hs2
        rw [HC.out] at hs2
        generalize xs[k] = x at c0 hs1 hs2
        have H1 := Lib.hid hs1
        have H2 := Lib.hid hs2
        clear hs1 hs2 HQ HC
        cases q
        · by_cases h1 : hi ≤ x
          · have H3 := Lib.hid (H1.out.trans (cx_f1 (by omega)))
            have H4 := Lib.hid (cnt_n H2.out (by rw [cx_f1 (by omega)]; decide))
            have hu : undef = Value.tuple #[] := rfl
            have d1 : decide (hi ≤ x) = true := decide_eq_true (by omega)
            have d2 : decide (x ≤ lo) = false := decide_eq_false (by omega)
            go_wp2_with fail
            refine wp_region_held_drew (S := (fun w' => w'.heap[w.heap.size]? = some (.cells #[.int .i64 lo, .int .i64 hi] 24) ∧ w'.cell? ⟨b, off + k, none⟩ = some (.int .i64 x) ∧ Below w.heap.size w w')) (by kernel_rfl) ⟨hP, c0, hB.drew⟩ (fun hHeld => ?_)
            obtain ⟨hP_0, hC_0, hB_0⟩ := id hHeld
            refine wpAnyH_take (i := 0) (oi := _) (v := ?_) rfl (by kernel_rfl) (by kernel_rfl) (by kernel_rfl) (fun _ _ _ h => h) (Or.inl ⟨by rfl, ?_⟩) (by assumption) ?_
            (rotate_left); (focus (intro wv hSw; (obtain ⟨qP, qC, qB⟩ := hSw);  go_simp; (try with_reducible rfl)))
            try simp only [Act.put, List.getElem_toArray, List.getElem_cons_succ, List.getElem_cons_zero, List.setIfInBounds_toArray, List.set_cons_zero, List.set_cons_succ]
            refine wpAnyH_take (i := 1) (oi := _) (v := ?_) rfl (by kernel_rfl) (by kernel_rfl) (by kernel_rfl) (fun _ _ _ h => h) (Or.inl ⟨by rfl, ?_⟩) (by assumption) ?_
            (rotate_left); (focus (intro wv hSw; (obtain ⟨qP, qC, qB⟩ := hSw);  go_simp; (try with_reducible rfl)))
            try simp only [Act.put, List.getElem_toArray, List.getElem_cons_succ, List.getElem_cons_zero, List.setIfInBounds_toArray, List.set_cons_zero, List.set_cons_succ]
            refine wpAnyH_take (i := 2) (oi := _) (v := ?_) rfl (by kernel_rfl) (by kernel_rfl) (by kernel_rfl) (fun _ _ _ h => h) (Or.inl ⟨by rfl, ?_⟩) (by assumption) ?_
            (rotate_left); (focus (intro wv hSw; (obtain ⟨qP, qC, qB⟩ := hSw);  go_simp; (try with_reducible rfl)))
            try simp only [Act.put, List.getElem_toArray, List.getElem_cons_succ, List.getElem_cons_zero, List.setIfInBounds_toArray, List.set_cons_zero, List.set_cons_succ]
            refine wpAnyH_take (i := 3) (oi := _) (v := ?_) rfl (by kernel_rfl) (by kernel_rfl) (by kernel_rfl) (fun _ _ _ h => h) (Or.inl ⟨by rfl, ?_⟩) (by assumption) ?_
            (rotate_left); (focus (intro wv hSw; (obtain ⟨qP, qC, qB⟩ := hSw);  go_simp; (try with_reducible rfl)))
            try simp only [Act.put, List.getElem_toArray, List.getElem_cons_succ, List.getElem_cons_zero, List.setIfInBounds_toArray, List.set_cons_zero, List.set_cons_succ]
            refine wpAnyH_take (i := 4) (oi := _) (v := ?_) rfl (by kernel_rfl) (by kernel_rfl) (by kernel_rfl) (fun _ _ _ h => h) (Or.inl ⟨by rfl, ?_⟩) (by assumption) ?_
            (rotate_left); (focus (intro wv hSw; (obtain ⟨qP, qC, qB⟩ := hSw);  go_simp; (try with_reducible rfl)))
            try simp only [Act.put, List.getElem_toArray, List.getElem_cons_succ, List.getElem_cons_zero, List.setIfInBounds_toArray, List.set_cons_zero, List.set_cons_succ]
            refine wpAnyH_take (i := 5) (oi := _) (v := ?_) rfl (by kernel_rfl) (by kernel_rfl) (by kernel_rfl) (fun _ _ _ h => h) (Or.inl ⟨by rfl, ?_⟩) (by assumption) ?_
            (rotate_left); (focus (intro wv hSw; (obtain ⟨qP, qC, qB⟩ := hSw); obtain ⟨u0, u1, _, _, _⟩ := blk2 qP; go_simp; (try with_reducible rfl)))
            try simp only [Act.put, List.getElem_toArray, List.getElem_cons_succ, List.getElem_cons_zero, List.setIfInBounds_toArray, List.set_cons_zero, List.set_cons_succ]
            refine wpAnyH_take (i := 6) (oi := _) (v := ?_) rfl (by kernel_rfl) (by kernel_rfl) (by kernel_rfl) (fun _ _ _ h => h) (Or.inl ⟨by rfl, ?_⟩) (by assumption) ?_
            (rotate_left); (focus (intro wv hSw; (obtain ⟨qP, qC, qB⟩ := hSw);  go_simp; (try with_reducible rfl)))
            try simp only [Act.put, List.getElem_toArray, List.getElem_cons_succ, List.getElem_cons_zero, List.setIfInBounds_toArray, List.set_cons_zero, List.set_cons_succ]
            refine wpAnyH_take (i := 7) (oi := _) (v := ?_) rfl (by kernel_rfl) (by kernel_rfl) (by kernel_rfl) (fun _ _ _ h => h) (Or.inl ⟨by rfl, ?_⟩) (by assumption) ?_
            (rotate_left); (focus (intro wv hSw; (obtain ⟨qP, qC, qB⟩ := hSw);  go_simp; (try with_reducible rfl)))
            try simp only [Act.put, List.getElem_toArray, List.getElem_cons_succ, List.getElem_cons_zero, List.setIfInBounds_toArray, List.set_cons_zero, List.set_cons_succ]
            refine wpAnyH_take (i := 8) (oi := _) (v := ?_) rfl (by kernel_rfl) (by kernel_rfl) (by kernel_rfl) (fun _ _ _ h => h) (Or.inl ⟨by rfl, ?_⟩) (by assumption) ?_
            (rotate_left); (focus (intro wv hSw; (obtain ⟨qP, qC, qB⟩ := hSw);  go_simp; (try with_reducible rfl)))
            try simp only [Act.put, List.getElem_toArray, List.getElem_cons_succ, List.getElem_cons_zero, List.setIfInBounds_toArray, List.set_cons_zero, List.set_cons_succ]
            refine wpAnyH_take (i := 9) (oi := _) (v := ?_) rfl (by kernel_rfl) (by kernel_rfl) (by kernel_rfl) (fun _ _ _ h => h) (Or.inl ⟨by rfl, ?_⟩) (by assumption) ?_
            (rotate_left); (focus (intro wv hSw; (obtain ⟨qP, qC, qB⟩ := hSw);  go_simp; (try with_reducible rfl)))
            try simp only [Act.put, List.getElem_toArray, List.getElem_cons_succ, List.getElem_cons_zero, List.setIfInBounds_toArray, List.set_cons_zero, List.set_cons_succ]
            refine wpAnyH_take (i := 10) (oi := _) (v := ?_) rfl (by kernel_rfl) (by kernel_rfl) (by kernel_rfl) (fun _ _ _ h => h) (Or.inl ⟨by rfl, ?_⟩) (by assumption) ?_
            (rotate_left); (focus (intro wv hSw; (obtain ⟨qP, qC, qB⟩ := hSw);  go_simp; (try with_reducible rfl)))
            try simp only [Act.put, List.getElem_toArray, List.getElem_cons_succ, List.getElem_cons_zero, List.setIfInBounds_toArray, List.set_cons_zero, List.set_cons_succ]
            refine wpAnyH_take (i := 11) (oi := _) (v := ?_) rfl (by kernel_rfl) (by kernel_rfl) (by kernel_rfl) (fun _ _ _ h => h) (Or.inl ⟨by rfl, ?_⟩) (by assumption) ?_
            (rotate_left); (focus (intro wv hSw; (obtain ⟨qP, qC, qB⟩ := hSw);  go_simp; (try with_reducible rfl)))
            try simp only [Act.put, List.getElem_toArray, List.getElem_cons_succ, List.getElem_cons_zero, List.setIfInBounds_toArray, List.set_cons_zero, List.set_cons_succ]
            refine wpAnyH_take (i := 12) (oi := _) (v := undef) rfl (by kernel_rfl) (by kernel_rfl) (by kernel_rfl) (fun _ _ _ h => h) (Or.inr ⟨by kernel_rfl, rfl⟩) (by assumption) ?_
            try simp only [Act.put, List.getElem_toArray, List.getElem_cons_succ, List.getElem_cons_zero, List.setIfInBounds_toArray, List.set_cons_zero, List.set_cons_succ]
            refine wpAnyH_take (i := 13) (oi := _) (v := undef) rfl (by kernel_rfl) (by kernel_rfl) (by kernel_rfl) (fun _ _ _ h => h) (Or.inr ⟨by kernel_rfl, rfl⟩) (by assumption) ?_
            try simp only [Act.put, List.getElem_toArray, List.getElem_cons_succ, List.getElem_cons_zero, List.setIfInBounds_toArray, List.set_cons_zero, List.set_cons_succ]
            refine wpAnyH_take (i := 14) (oi := _) (v := undef) rfl (by kernel_rfl) (by kernel_rfl) (by kernel_rfl) (fun _ _ _ h => h) (Or.inr ⟨by kernel_rfl, rfl⟩) (by assumption) ?_
            try simp only [Act.put, List.getElem_toArray, List.getElem_cons_succ, List.getElem_cons_zero, List.setIfInBounds_toArray, List.set_cons_zero, List.set_cons_succ]
            refine wpAnyH_take (i := 15) (oi := _) (v := undef) rfl (by kernel_rfl) (by kernel_rfl) (by kernel_rfl) (fun _ _ _ h => h) (Or.inr ⟨by kernel_rfl, rfl⟩) (by assumption) ?_
            try simp only [Act.put, List.getElem_toArray, List.getElem_cons_succ, List.getElem_cons_zero, List.setIfInBounds_toArray, List.set_cons_zero, List.set_cons_succ]
            refine wpAnyH_take (i := 16) (oi := _) (v := undef) rfl (by kernel_rfl) (by kernel_rfl) (by kernel_rfl) (fun _ _ _ h => h) (Or.inr ⟨by kernel_rfl, rfl⟩) (by assumption) ?_
            try simp only [Act.put, List.getElem_toArray, List.getElem_cons_succ, List.getElem_cons_zero, List.setIfInBounds_toArray, List.set_cons_zero, List.set_cons_succ]
            refine wpAnyH_take (i := 17) (oi := _) (v := undef) rfl (by kernel_rfl) (by kernel_rfl) (by kernel_rfl) (fun _ _ _ h => h) (Or.inr ⟨by kernel_rfl, rfl⟩) (by assumption) ?_
            try simp only [Act.put, List.getElem_toArray, List.getElem_cons_succ, List.getElem_cons_zero, List.setIfInBounds_toArray, List.set_cons_zero, List.set_cons_succ]
            refine wpAnyH_take (i := 18) (oi := _) (v := undef) rfl (by kernel_rfl) (by kernel_rfl) (by kernel_rfl) (fun _ _ _ h => h) (Or.inr ⟨by kernel_rfl, rfl⟩) (by assumption) ?_
            try simp only [Act.put, List.getElem_toArray, List.getElem_cons_succ, List.getElem_cons_zero, List.setIfInBounds_toArray, List.set_cons_zero, List.set_cons_succ]
            refine wpAnyH_take (i := 19) (oi := _) (v := undef) rfl (by kernel_rfl) (by kernel_rfl) (by kernel_rfl) (fun _ _ _ h => h) (Or.inr ⟨by kernel_rfl, rfl⟩) (by assumption) ?_
            try simp only [Act.put, List.getElem_toArray, List.getElem_cons_succ, List.getElem_cons_zero, List.setIfInBounds_toArray, List.set_cons_zero, List.set_cons_succ]
            refine wpAnyH_take (i := 20) (oi := _) (v := undef) rfl (by kernel_rfl) (by kernel_rfl) (by kernel_rfl) (fun _ _ _ h => h) (Or.inr ⟨by kernel_rfl, rfl⟩) (by assumption) ?_
            try simp only [Act.put, List.getElem_toArray, List.getElem_cons_succ, List.getElem_cons_zero, List.setIfInBounds_toArray, List.set_cons_zero, List.set_cons_succ]
            refine wpAnyH_take (i := 21) (oi := _) (v := undef) rfl (by kernel_rfl) (by kernel_rfl) (by kernel_rfl) (fun _ _ _ h => h) (Or.inr ⟨by kernel_rfl, rfl⟩) (by assumption) ?_
            try simp only [Act.put, List.getElem_toArray, List.getElem_cons_succ, List.getElem_cons_zero, List.setIfInBounds_toArray, List.set_cons_zero, List.set_cons_succ]
            refine wpAnyH_take (i := 22) (oi := _) (v := ?_) rfl (by kernel_rfl) (by kernel_rfl) (by kernel_rfl) (fun _ _ _ h => h) (Or.inl ⟨by rfl, ?_⟩) (by assumption) ?_
            (rotate_left); (focus (intro wv hSw; (obtain ⟨qP, qC, qB⟩ := hSw);  go_simp; (try with_reducible rfl)))
            try simp only [Act.put, List.getElem_toArray, List.getElem_cons_succ, List.getElem_cons_zero, List.setIfInBounds_toArray, List.set_cons_zero, List.set_cons_succ]
            refine wpAnyH_done (by kernel_rfl) ?_ _
            go_wp2_with fail
            go_roundw
            case rel => exact ⟨k + 1, true, c + 1, by go_num, by omega, rfl, rfl, H3, H4, ⟨by omega, by omega⟩, hP_0, hB_0⟩
            case measure => simp [intOf]; omega
          · by_cases h2 : x ≤ lo
            · have H3 := Lib.hid (H1.out.trans (cx_f0 (by omega)))
              have H4 := Lib.hid (cnt_y H2.out (cx_f0 (by omega)))
              have d1 : decide (hi ≤ x) = false := decide_eq_false (by omega)
              have d2 : decide (x ≤ lo) = true := decide_eq_true (by omega)
              go_wp2_with fail
              refine wp_region_held_drew (S := (fun w' => w'.heap[w.heap.size]? = some (.cells #[.int .i64 lo, .int .i64 hi] 24) ∧ w'.cell? ⟨b, off + k, none⟩ = some (.int .i64 x) ∧ Below w.heap.size w w')) (by kernel_rfl) ⟨hP, c0, hB.drew⟩ (fun hHeld => ?_)
              obtain ⟨hP_0, hC_0, hB_0⟩ := id hHeld
              refine wpAnyH_take (i := 0) (oi := _) (v := ?_) rfl (by kernel_rfl) (by kernel_rfl) (by kernel_rfl) (fun _ _ _ h => h) (Or.inl ⟨by rfl, ?_⟩) (by assumption) ?_
              (rotate_left); (focus (intro wv hSw; (obtain ⟨qP, qC, qB⟩ := hSw);  go_simp; (try with_reducible rfl)))
              try simp only [Act.put, List.getElem_toArray, List.getElem_cons_succ, List.getElem_cons_zero, List.setIfInBounds_toArray, List.set_cons_zero, List.set_cons_succ]
              refine wpAnyH_take (i := 1) (oi := _) (v := ?_) rfl (by kernel_rfl) (by kernel_rfl) (by kernel_rfl) (fun _ _ _ h => h) (Or.inl ⟨by rfl, ?_⟩) (by assumption) ?_
              (rotate_left); (focus (intro wv hSw; (obtain ⟨qP, qC, qB⟩ := hSw);  go_simp; (try with_reducible rfl)))
              try simp only [Act.put, List.getElem_toArray, List.getElem_cons_succ, List.getElem_cons_zero, List.setIfInBounds_toArray, List.set_cons_zero, List.set_cons_succ]
              refine wpAnyH_take (i := 2) (oi := _) (v := ?_) rfl (by kernel_rfl) (by kernel_rfl) (by kernel_rfl) (fun _ _ _ h => h) (Or.inl ⟨by rfl, ?_⟩) (by assumption) ?_
              (rotate_left); (focus (intro wv hSw; (obtain ⟨qP, qC, qB⟩ := hSw);  go_simp; (try with_reducible rfl)))
              try simp only [Act.put, List.getElem_toArray, List.getElem_cons_succ, List.getElem_cons_zero, List.setIfInBounds_toArray, List.set_cons_zero, List.set_cons_succ]
              refine wpAnyH_take (i := 3) (oi := _) (v := ?_) rfl (by kernel_rfl) (by kernel_rfl) (by kernel_rfl) (fun _ _ _ h => h) (Or.inl ⟨by rfl, ?_⟩) (by assumption) ?_
              (rotate_left); (focus (intro wv hSw; (obtain ⟨qP, qC, qB⟩ := hSw);  go_simp; (try with_reducible rfl)))
              try simp only [Act.put, List.getElem_toArray, List.getElem_cons_succ, List.getElem_cons_zero, List.setIfInBounds_toArray, List.set_cons_zero, List.set_cons_succ]
              refine wpAnyH_take (i := 4) (oi := _) (v := ?_) rfl (by kernel_rfl) (by kernel_rfl) (by kernel_rfl) (fun _ _ _ h => h) (Or.inl ⟨by rfl, ?_⟩) (by assumption) ?_
              (rotate_left); (focus (intro wv hSw; (obtain ⟨qP, qC, qB⟩ := hSw);  go_simp; (try with_reducible rfl)))
              try simp only [Act.put, List.getElem_toArray, List.getElem_cons_succ, List.getElem_cons_zero, List.setIfInBounds_toArray, List.set_cons_zero, List.set_cons_succ]
              refine wpAnyH_take (i := 5) (oi := _) (v := ?_) rfl (by kernel_rfl) (by kernel_rfl) (by kernel_rfl) (fun _ _ _ h => h) (Or.inl ⟨by rfl, ?_⟩) (by assumption) ?_
              (rotate_left); (focus (intro wv hSw; (obtain ⟨qP, qC, qB⟩ := hSw); obtain ⟨u0, u1, _, _, _⟩ := blk2 qP; go_simp; (try with_reducible rfl)))
              try simp only [Act.put, List.getElem_toArray, List.getElem_cons_succ, List.getElem_cons_zero, List.setIfInBounds_toArray, List.set_cons_zero, List.set_cons_succ]
              refine wpAnyH_take (i := 6) (oi := _) (v := ?_) rfl (by kernel_rfl) (by kernel_rfl) (by kernel_rfl) (fun _ _ _ h => h) (Or.inl ⟨by rfl, ?_⟩) (by assumption) ?_
              (rotate_left); (focus (intro wv hSw; (obtain ⟨qP, qC, qB⟩ := hSw);  go_simp; (try with_reducible rfl)))
              try simp only [Act.put, List.getElem_toArray, List.getElem_cons_succ, List.getElem_cons_zero, List.setIfInBounds_toArray, List.set_cons_zero, List.set_cons_succ]
              refine wpAnyH_take (i := 7) (oi := _) (v := ?_) rfl (by kernel_rfl) (by kernel_rfl) (by kernel_rfl) (fun _ _ _ h => h) (Or.inl ⟨by rfl, ?_⟩) (by assumption) ?_
              (rotate_left); (focus (intro wv hSw; (obtain ⟨qP, qC, qB⟩ := hSw);  go_simp; (try with_reducible rfl)))
              try simp only [Act.put, List.getElem_toArray, List.getElem_cons_succ, List.getElem_cons_zero, List.setIfInBounds_toArray, List.set_cons_zero, List.set_cons_succ]
              refine wpAnyH_take (i := 8) (oi := _) (v := undef) rfl (by kernel_rfl) (by kernel_rfl) (by kernel_rfl) (fun _ _ _ h => h) (Or.inr ⟨by kernel_rfl, rfl⟩) (by assumption) ?_
              try simp only [Act.put, List.getElem_toArray, List.getElem_cons_succ, List.getElem_cons_zero, List.setIfInBounds_toArray, List.set_cons_zero, List.set_cons_succ]
              refine wpAnyH_take (i := 9) (oi := _) (v := undef) rfl (by kernel_rfl) (by kernel_rfl) (by kernel_rfl) (fun _ _ _ h => h) (Or.inr ⟨by kernel_rfl, rfl⟩) (by assumption) ?_
              try simp only [Act.put, List.getElem_toArray, List.getElem_cons_succ, List.getElem_cons_zero, List.setIfInBounds_toArray, List.set_cons_zero, List.set_cons_succ]
              refine wpAnyH_take (i := 10) (oi := _) (v := ?_) rfl (by kernel_rfl) (by kernel_rfl) (by kernel_rfl) (fun _ _ _ h => h) (Or.inl ⟨by rfl, ?_⟩) (by assumption) ?_
              (rotate_left); (focus (intro wv hSw; (obtain ⟨qP, qC, qB⟩ := hSw);  go_simp; (try with_reducible rfl)))
              try simp only [Act.put, List.getElem_toArray, List.getElem_cons_succ, List.getElem_cons_zero, List.setIfInBounds_toArray, List.set_cons_zero, List.set_cons_succ]
              refine wpAnyH_take (i := 11) (oi := _) (v := ?_) rfl (by kernel_rfl) (by kernel_rfl) (by kernel_rfl) (fun _ _ _ h => h) (Or.inl ⟨by rfl, ?_⟩) (by assumption) ?_
              (rotate_left); (focus (intro wv hSw; (obtain ⟨qP, qC, qB⟩ := hSw);  go_simp; (try with_reducible rfl)))
              try simp only [Act.put, List.getElem_toArray, List.getElem_cons_succ, List.getElem_cons_zero, List.setIfInBounds_toArray, List.set_cons_zero, List.set_cons_succ]
              refine wpAnyH_take (i := 12) (oi := _) (v := ?_) rfl (by kernel_rfl) (by kernel_rfl) (by kernel_rfl) (fun _ _ _ h => h) (Or.inl ⟨by rfl, ?_⟩) (by assumption) ?_
              (rotate_left); (focus (intro wv hSw; (obtain ⟨qP, qC, qB⟩ := hSw);  go_simp; (try with_reducible rfl)))
              try simp only [Act.put, List.getElem_toArray, List.getElem_cons_succ, List.getElem_cons_zero, List.setIfInBounds_toArray, List.set_cons_zero, List.set_cons_succ]
              refine wpAnyH_take (i := 13) (oi := _) (v := ?_) rfl (by kernel_rfl) (by kernel_rfl) (by kernel_rfl) (fun _ _ _ h => h) (Or.inl ⟨by rfl, ?_⟩) (by assumption) ?_
              (rotate_left); (focus (intro wv hSw; (obtain ⟨qP, qC, qB⟩ := hSw);  go_simp; (try with_reducible rfl)))
              try simp only [Act.put, List.getElem_toArray, List.getElem_cons_succ, List.getElem_cons_zero, List.setIfInBounds_toArray, List.set_cons_zero, List.set_cons_succ]
              refine wpAnyH_take (i := 14) (oi := _) (v := ?_) rfl (by kernel_rfl) (by kernel_rfl) (by kernel_rfl) (fun _ _ _ h => h) (Or.inl ⟨by rfl, ?_⟩) (by assumption) ?_
              (rotate_left); (focus (intro wv hSw; (obtain ⟨qP, qC, qB⟩ := hSw);  go_simp; (try with_reducible rfl)))
              try simp only [Act.put, List.getElem_toArray, List.getElem_cons_succ, List.getElem_cons_zero, List.setIfInBounds_toArray, List.set_cons_zero, List.set_cons_succ]
              refine wpAnyH_take (i := 15) (oi := _) (v := ?_) rfl (by kernel_rfl) (by kernel_rfl) (by kernel_rfl) (fun _ _ _ h => h) (Or.inl ⟨by rfl, ?_⟩) (by assumption) ?_
              (rotate_left); (focus (intro wv hSw; (obtain ⟨qP, qC, qB⟩ := hSw);  go_simp; (try with_reducible rfl)))
              try simp only [Act.put, List.getElem_toArray, List.getElem_cons_succ, List.getElem_cons_zero, List.setIfInBounds_toArray, List.set_cons_zero, List.set_cons_succ]
              refine wpAnyH_take (i := 16) (oi := _) (v := ?_) rfl (by kernel_rfl) (by kernel_rfl) (by kernel_rfl) (fun _ _ _ h => h) (Or.inl ⟨by rfl, ?_⟩) (by assumption) ?_
              (rotate_left); (focus (intro wv hSw; (obtain ⟨qP, qC, qB⟩ := hSw);  go_simp; (try with_reducible rfl)))
              try simp only [Act.put, List.getElem_toArray, List.getElem_cons_succ, List.getElem_cons_zero, List.setIfInBounds_toArray, List.set_cons_zero, List.set_cons_succ]
              refine wpAnyH_take (i := 17) (oi := _) (v := ?_) rfl (by kernel_rfl) (by kernel_rfl) (by kernel_rfl) (fun _ _ _ h => h) (Or.inl ⟨by rfl, ?_⟩) (by assumption) ?_
              (rotate_left); (focus (intro wv hSw; (obtain ⟨qP, qC, qB⟩ := hSw); obtain ⟨u0, u1, _, _, _⟩ := blk2 qP; go_simp; (try with_reducible rfl)))
              try simp only [Act.put, List.getElem_toArray, List.getElem_cons_succ, List.getElem_cons_zero, List.setIfInBounds_toArray, List.set_cons_zero, List.set_cons_succ]
              refine wpAnyH_take (i := 18) (oi := _) (v := ?_) rfl (by kernel_rfl) (by kernel_rfl) (by kernel_rfl) (fun _ _ _ h => h) (Or.inl ⟨by rfl, ?_⟩) (by assumption) ?_
              (rotate_left); (focus (intro wv hSw; (obtain ⟨qP, qC, qB⟩ := hSw);  go_simp; (try with_reducible rfl)))
              try simp only [Act.put, List.getElem_toArray, List.getElem_cons_succ, List.getElem_cons_zero, List.setIfInBounds_toArray, List.set_cons_zero, List.set_cons_succ]
              refine wpAnyH_take (i := 19) (oi := _) (v := ?_) rfl (by kernel_rfl) (by kernel_rfl) (by kernel_rfl) (fun _ _ _ h => h) (Or.inl ⟨by rfl, ?_⟩) (by assumption) ?_
              (rotate_left); (focus (intro wv hSw; (obtain ⟨qP, qC, qB⟩ := hSw);  go_simp; (try with_reducible rfl)))
              try simp only [Act.put, List.getElem_toArray, List.getElem_cons_succ, List.getElem_cons_zero, List.setIfInBounds_toArray, List.set_cons_zero, List.set_cons_succ]
              refine wpAnyH_take (i := 20) (oi := _) (v := ?_) rfl (by kernel_rfl) (by kernel_rfl) (by kernel_rfl) (fun _ _ _ h => h) (Or.inl ⟨by rfl, ?_⟩) (by assumption) ?_
              (rotate_left); (focus (intro wv hSw; (obtain ⟨qP, qC, qB⟩ := hSw);  go_simp; (try with_reducible rfl)))
              try simp only [Act.put, List.getElem_toArray, List.getElem_cons_succ, List.getElem_cons_zero, List.setIfInBounds_toArray, List.set_cons_zero, List.set_cons_succ]
              refine wpAnyH_take (i := 21) (oi := _) (v := ?_) rfl (by kernel_rfl) (by kernel_rfl) (by kernel_rfl) (fun _ _ _ h => h) (Or.inl ⟨by rfl, ?_⟩) (by assumption) ?_
              (rotate_left); (focus (intro wv hSw; (obtain ⟨qP, qC, qB⟩ := hSw);  go_simp; (try with_reducible rfl)))
              try simp only [Act.put, List.getElem_toArray, List.getElem_cons_succ, List.getElem_cons_zero, List.setIfInBounds_toArray, List.set_cons_zero, List.set_cons_succ]
              refine wpAnyH_take (i := 22) (oi := _) (v := ?_) rfl (by kernel_rfl) (by kernel_rfl) (by kernel_rfl) (fun _ _ _ h => h) (Or.inl ⟨by rfl, ?_⟩) (by assumption) ?_
              (rotate_left); (focus (intro wv hSw; (obtain ⟨qP, qC, qB⟩ := hSw);  go_simp; (try with_reducible rfl)))
              try simp only [Act.put, List.getElem_toArray, List.getElem_cons_succ, List.getElem_cons_zero, List.setIfInBounds_toArray, List.set_cons_zero, List.set_cons_succ]
              refine wpAnyH_done (by kernel_rfl) ?_ _
              go_wp2_with fail
              go_roundw
              case rel => exact ⟨k + 1, false, c, by go_num, by omega, rfl, rfl, H3, H4, ⟨by omega, by omega⟩, hP_0, hB_0⟩
              case measure => simp [intOf]; omega
            · have H3 := Lib.hid (H1.out.trans (cx_f0 (by omega)))
              have H4 := Lib.hid (cnt_y H2.out (cx_f0 (by omega)))
              have d1 : decide (hi ≤ x) = false := decide_eq_false (by omega)
              have d2 : decide (x ≤ lo) = false := decide_eq_false (by omega)
              go_wp2_with fail
              refine wp_region_held_drew (S := (fun w' => w'.heap[w.heap.size]? = some (.cells #[.int .i64 lo, .int .i64 hi] 24) ∧ w'.cell? ⟨b, off + k, none⟩ = some (.int .i64 x) ∧ Below w.heap.size w w')) (by kernel_rfl) ⟨hP, c0, hB.drew⟩ (fun hHeld => ?_)
              obtain ⟨hP_0, hC_0, hB_0⟩ := id hHeld
              refine wpAnyH_take (i := 0) (oi := _) (v := ?_) rfl (by kernel_rfl) (by kernel_rfl) (by kernel_rfl) (fun _ _ _ h => h) (Or.inl ⟨by rfl, ?_⟩) (by assumption) ?_
              (rotate_left); (focus (intro wv hSw; (obtain ⟨qP, qC, qB⟩ := hSw);  go_simp; (try with_reducible rfl)))
              try simp only [Act.put, List.getElem_toArray, List.getElem_cons_succ, List.getElem_cons_zero, List.setIfInBounds_toArray, List.set_cons_zero, List.set_cons_succ]
              refine wpAnyH_take (i := 1) (oi := _) (v := ?_) rfl (by kernel_rfl) (by kernel_rfl) (by kernel_rfl) (fun _ _ _ h => h) (Or.inl ⟨by rfl, ?_⟩) (by assumption) ?_
              (rotate_left); (focus (intro wv hSw; (obtain ⟨qP, qC, qB⟩ := hSw);  go_simp; (try with_reducible rfl)))
              try simp only [Act.put, List.getElem_toArray, List.getElem_cons_succ, List.getElem_cons_zero, List.setIfInBounds_toArray, List.set_cons_zero, List.set_cons_succ]
              refine wpAnyH_take (i := 2) (oi := _) (v := ?_) rfl (by kernel_rfl) (by kernel_rfl) (by kernel_rfl) (fun _ _ _ h => h) (Or.inl ⟨by rfl, ?_⟩) (by assumption) ?_
              (rotate_left); (focus (intro wv hSw; (obtain ⟨qP, qC, qB⟩ := hSw);  go_simp; (try with_reducible rfl)))
              try simp only [Act.put, List.getElem_toArray, List.getElem_cons_succ, List.getElem_cons_zero, List.setIfInBounds_toArray, List.set_cons_zero, List.set_cons_succ]
              refine wpAnyH_take (i := 3) (oi := _) (v := ?_) rfl (by kernel_rfl) (by kernel_rfl) (by kernel_rfl) (fun _ _ _ h => h) (Or.inl ⟨by rfl, ?_⟩) (by assumption) ?_
              (rotate_left); (focus (intro wv hSw; (obtain ⟨qP, qC, qB⟩ := hSw);  go_simp; (try with_reducible rfl)))
              try simp only [Act.put, List.getElem_toArray, List.getElem_cons_succ, List.getElem_cons_zero, List.setIfInBounds_toArray, List.set_cons_zero, List.set_cons_succ]
              refine wpAnyH_take (i := 4) (oi := _) (v := ?_) rfl (by kernel_rfl) (by kernel_rfl) (by kernel_rfl) (fun _ _ _ h => h) (Or.inl ⟨by rfl, ?_⟩) (by assumption) ?_
              (rotate_left); (focus (intro wv hSw; (obtain ⟨qP, qC, qB⟩ := hSw);  go_simp; (try with_reducible rfl)))
              try simp only [Act.put, List.getElem_toArray, List.getElem_cons_succ, List.getElem_cons_zero, List.setIfInBounds_toArray, List.set_cons_zero, List.set_cons_succ]
              refine wpAnyH_take (i := 5) (oi := _) (v := ?_) rfl (by kernel_rfl) (by kernel_rfl) (by kernel_rfl) (fun _ _ _ h => h) (Or.inl ⟨by rfl, ?_⟩) (by assumption) ?_
              (rotate_left); (focus (intro wv hSw; (obtain ⟨qP, qC, qB⟩ := hSw); obtain ⟨u0, u1, _, _, _⟩ := blk2 qP; go_simp; (try with_reducible rfl)))
              try simp only [Act.put, List.getElem_toArray, List.getElem_cons_succ, List.getElem_cons_zero, List.setIfInBounds_toArray, List.set_cons_zero, List.set_cons_succ]
              refine wpAnyH_take (i := 6) (oi := _) (v := ?_) rfl (by kernel_rfl) (by kernel_rfl) (by kernel_rfl) (fun _ _ _ h => h) (Or.inl ⟨by rfl, ?_⟩) (by assumption) ?_
              (rotate_left); (focus (intro wv hSw; (obtain ⟨qP, qC, qB⟩ := hSw);  go_simp; (try with_reducible rfl)))
              try simp only [Act.put, List.getElem_toArray, List.getElem_cons_succ, List.getElem_cons_zero, List.setIfInBounds_toArray, List.set_cons_zero, List.set_cons_succ]
              refine wpAnyH_take (i := 7) (oi := _) (v := ?_) rfl (by kernel_rfl) (by kernel_rfl) (by kernel_rfl) (fun _ _ _ h => h) (Or.inl ⟨by rfl, ?_⟩) (by assumption) ?_
              (rotate_left); (focus (intro wv hSw; (obtain ⟨qP, qC, qB⟩ := hSw);  go_simp; (try with_reducible rfl)))
              try simp only [Act.put, List.getElem_toArray, List.getElem_cons_succ, List.getElem_cons_zero, List.setIfInBounds_toArray, List.set_cons_zero, List.set_cons_succ]
              refine wpAnyH_take (i := 8) (oi := _) (v := undef) rfl (by kernel_rfl) (by kernel_rfl) (by kernel_rfl) (fun _ _ _ h => h) (Or.inr ⟨by kernel_rfl, rfl⟩) (by assumption) ?_
              try simp only [Act.put, List.getElem_toArray, List.getElem_cons_succ, List.getElem_cons_zero, List.setIfInBounds_toArray, List.set_cons_zero, List.set_cons_succ]
              refine wpAnyH_take (i := 9) (oi := _) (v := undef) rfl (by kernel_rfl) (by kernel_rfl) (by kernel_rfl) (fun _ _ _ h => h) (Or.inr ⟨by kernel_rfl, rfl⟩) (by assumption) ?_
              try simp only [Act.put, List.getElem_toArray, List.getElem_cons_succ, List.getElem_cons_zero, List.setIfInBounds_toArray, List.set_cons_zero, List.set_cons_succ]
              refine wpAnyH_take (i := 10) (oi := _) (v := ?_) rfl (by kernel_rfl) (by kernel_rfl) (by kernel_rfl) (fun _ _ _ h => h) (Or.inl ⟨by rfl, ?_⟩) (by assumption) ?_
              (rotate_left); (focus (intro wv hSw; (obtain ⟨qP, qC, qB⟩ := hSw);  go_simp; (try with_reducible rfl)))
              try simp only [Act.put, List.getElem_toArray, List.getElem_cons_succ, List.getElem_cons_zero, List.setIfInBounds_toArray, List.set_cons_zero, List.set_cons_succ]
              refine wpAnyH_take (i := 11) (oi := _) (v := ?_) rfl (by kernel_rfl) (by kernel_rfl) (by kernel_rfl) (fun _ _ _ h => h) (Or.inl ⟨by rfl, ?_⟩) (by assumption) ?_
              (rotate_left); (focus (intro wv hSw; (obtain ⟨qP, qC, qB⟩ := hSw);  go_simp; (try with_reducible rfl)))
              try simp only [Act.put, List.getElem_toArray, List.getElem_cons_succ, List.getElem_cons_zero, List.setIfInBounds_toArray, List.set_cons_zero, List.set_cons_succ]
              refine wpAnyH_take (i := 12) (oi := _) (v := ?_) rfl (by kernel_rfl) (by kernel_rfl) (by kernel_rfl) (fun _ _ _ h => h) (Or.inl ⟨by rfl, ?_⟩) (by assumption) ?_
              (rotate_left); (focus (intro wv hSw; (obtain ⟨qP, qC, qB⟩ := hSw);  go_simp; (try with_reducible rfl)))
              try simp only [Act.put, List.getElem_toArray, List.getElem_cons_succ, List.getElem_cons_zero, List.setIfInBounds_toArray, List.set_cons_zero, List.set_cons_succ]
              refine wpAnyH_take (i := 13) (oi := _) (v := ?_) rfl (by kernel_rfl) (by kernel_rfl) (by kernel_rfl) (fun _ _ _ h => h) (Or.inl ⟨by rfl, ?_⟩) (by assumption) ?_
              (rotate_left); (focus (intro wv hSw; (obtain ⟨qP, qC, qB⟩ := hSw);  go_simp; (try with_reducible rfl)))
              try simp only [Act.put, List.getElem_toArray, List.getElem_cons_succ, List.getElem_cons_zero, List.setIfInBounds_toArray, List.set_cons_zero, List.set_cons_succ]
              refine wpAnyH_take (i := 14) (oi := _) (v := ?_) rfl (by kernel_rfl) (by kernel_rfl) (by kernel_rfl) (fun _ _ _ h => h) (Or.inl ⟨by rfl, ?_⟩) (by assumption) ?_
              (rotate_left); (focus (intro wv hSw; (obtain ⟨qP, qC, qB⟩ := hSw);  go_simp; (try with_reducible rfl)))
              try simp only [Act.put, List.getElem_toArray, List.getElem_cons_succ, List.getElem_cons_zero, List.setIfInBounds_toArray, List.set_cons_zero, List.set_cons_succ]
              refine wpAnyH_take (i := 15) (oi := _) (v := ?_) rfl (by kernel_rfl) (by kernel_rfl) (by kernel_rfl) (fun _ _ _ h => h) (Or.inl ⟨by rfl, ?_⟩) (by assumption) ?_
              (rotate_left); (focus (intro wv hSw; (obtain ⟨qP, qC, qB⟩ := hSw);  go_simp; (try with_reducible rfl)))
              try simp only [Act.put, List.getElem_toArray, List.getElem_cons_succ, List.getElem_cons_zero, List.setIfInBounds_toArray, List.set_cons_zero, List.set_cons_succ]
              refine wpAnyH_take (i := 16) (oi := _) (v := ?_) rfl (by kernel_rfl) (by kernel_rfl) (by kernel_rfl) (fun _ _ _ h => h) (Or.inl ⟨by rfl, ?_⟩) (by assumption) ?_
              (rotate_left); (focus (intro wv hSw; (obtain ⟨qP, qC, qB⟩ := hSw);  go_simp; (try with_reducible rfl)))
              try simp only [Act.put, List.getElem_toArray, List.getElem_cons_succ, List.getElem_cons_zero, List.setIfInBounds_toArray, List.set_cons_zero, List.set_cons_succ]
              refine wpAnyH_take (i := 17) (oi := _) (v := ?_) rfl (by kernel_rfl) (by kernel_rfl) (by kernel_rfl) (fun _ _ _ h => h) (Or.inl ⟨by rfl, ?_⟩) (by assumption) ?_
              (rotate_left); (focus (intro wv hSw; (obtain ⟨qP, qC, qB⟩ := hSw); obtain ⟨u0, u1, _, _, _⟩ := blk2 qP; go_simp; (try with_reducible rfl)))
              try simp only [Act.put, List.getElem_toArray, List.getElem_cons_succ, List.getElem_cons_zero, List.setIfInBounds_toArray, List.set_cons_zero, List.set_cons_succ]
              refine wpAnyH_take (i := 18) (oi := _) (v := ?_) rfl (by kernel_rfl) (by kernel_rfl) (by kernel_rfl) (fun _ _ _ h => h) (Or.inl ⟨by rfl, ?_⟩) (by assumption) ?_
              (rotate_left); (focus (intro wv hSw; (obtain ⟨qP, qC, qB⟩ := hSw);  go_simp; (try with_reducible rfl)))
              try simp only [Act.put, List.getElem_toArray, List.getElem_cons_succ, List.getElem_cons_zero, List.setIfInBounds_toArray, List.set_cons_zero, List.set_cons_succ]
              refine wpAnyH_take (i := 19) (oi := _) (v := ?_) rfl (by kernel_rfl) (by kernel_rfl) (by kernel_rfl) (fun _ _ _ h => h) (Or.inl ⟨by rfl, ?_⟩) (by assumption) ?_
              (rotate_left); (focus (intro wv hSw; (obtain ⟨qP, qC, qB⟩ := hSw);  go_simp; (try with_reducible rfl)))
              try simp only [Act.put, List.getElem_toArray, List.getElem_cons_succ, List.getElem_cons_zero, List.setIfInBounds_toArray, List.set_cons_zero, List.set_cons_succ]
              refine wpAnyH_take (i := 20) (oi := _) (v := undef) rfl (by kernel_rfl) (by kernel_rfl) (by kernel_rfl) (fun _ _ _ h => h) (Or.inr ⟨by kernel_rfl, rfl⟩) (by assumption) ?_
              try simp only [Act.put, List.getElem_toArray, List.getElem_cons_succ, List.getElem_cons_zero, List.setIfInBounds_toArray, List.set_cons_zero, List.set_cons_succ]
              refine wpAnyH_take (i := 21) (oi := _) (v := ?_) rfl (by kernel_rfl) (by kernel_rfl) (by kernel_rfl) (fun _ _ _ h => h) (Or.inl ⟨by rfl, ?_⟩) (by assumption) ?_
              (rotate_left); (focus (intro wv hSw; (obtain ⟨qP, qC, qB⟩ := hSw);  go_simp; (try with_reducible rfl)))
              try simp only [Act.put, List.getElem_toArray, List.getElem_cons_succ, List.getElem_cons_zero, List.setIfInBounds_toArray, List.set_cons_zero, List.set_cons_succ]
              refine wpAnyH_take (i := 22) (oi := _) (v := ?_) rfl (by kernel_rfl) (by kernel_rfl) (by kernel_rfl) (fun _ _ _ h => h) (Or.inl ⟨by rfl, ?_⟩) (by assumption) ?_
              (rotate_left); (focus (intro wv hSw; (obtain ⟨qP, qC, qB⟩ := hSw);  go_simp; (try with_reducible rfl)))
              try simp only [Act.put, List.getElem_toArray, List.getElem_cons_succ, List.getElem_cons_zero, List.setIfInBounds_toArray, List.set_cons_zero, List.set_cons_succ]
              refine wpAnyH_done (by kernel_rfl) ?_ _
              go_wp2_with fail
              go_roundw
              case rel => exact ⟨k + 1, false, c, by go_num, by omega, rfl, rfl, H3, H4, ⟨by omega, by omega⟩, hP_0, hB_0⟩
              case measure => simp [intOf]; omega
        · by_cases h1 : hi ≤ x
          · have H3 := Lib.hid (H1.out.trans (cx_t0 (by omega)))
            have H4 := Lib.hid (cnt_y H2.out (cx_t0 (by omega)))
            have d1 : decide (hi ≤ x) = true := decide_eq_true (by omega)
            have d2 : decide (x ≤ lo) = false := decide_eq_false (by omega)
            go_wp2_with fail
            refine wp_region_held_drew (S := (fun w' => w'.heap[w.heap.size]? = some (.cells #[.int .i64 lo, .int .i64 hi] 24) ∧ w'.cell? ⟨b, off + k, none⟩ = some (.int .i64 x) ∧ Below w.heap.size w w')) (by kernel_rfl) ⟨hP, c0, hB.drew⟩ (fun hHeld => ?_)
            obtain ⟨hP_0, hC_0, hB_0⟩ := id hHeld
            refine wpAnyH_take (i := 0) (oi := _) (v := ?_) rfl (by kernel_rfl) (by kernel_rfl) (by kernel_rfl) (fun _ _ _ h => h) (Or.inl ⟨by rfl, ?_⟩) (by assumption) ?_
            (rotate_left); (focus (intro wv hSw; (obtain ⟨qP, qC, qB⟩ := hSw);  go_simp; (try with_reducible rfl)))
            try simp only [Act.put, List.getElem_toArray, List.getElem_cons_succ, List.getElem_cons_zero, List.setIfInBounds_toArray, List.set_cons_zero, List.set_cons_succ]
            refine wpAnyH_take (i := 1) (oi := _) (v := ?_) rfl (by kernel_rfl) (by kernel_rfl) (by kernel_rfl) (fun _ _ _ h => h) (Or.inl ⟨by rfl, ?_⟩) (by assumption) ?_
            (rotate_left); (focus (intro wv hSw; (obtain ⟨qP, qC, qB⟩ := hSw);  go_simp; (try with_reducible rfl)))
            try simp only [Act.put, List.getElem_toArray, List.getElem_cons_succ, List.getElem_cons_zero, List.setIfInBounds_toArray, List.set_cons_zero, List.set_cons_succ]
            refine wpAnyH_take (i := 2) (oi := _) (v := ?_) rfl (by kernel_rfl) (by kernel_rfl) (by kernel_rfl) (fun _ _ _ h => h) (Or.inl ⟨by rfl, ?_⟩) (by assumption) ?_
            (rotate_left); (focus (intro wv hSw; (obtain ⟨qP, qC, qB⟩ := hSw);  go_simp; (try with_reducible rfl)))
            try simp only [Act.put, List.getElem_toArray, List.getElem_cons_succ, List.getElem_cons_zero, List.setIfInBounds_toArray, List.set_cons_zero, List.set_cons_succ]
            refine wpAnyH_take (i := 3) (oi := _) (v := ?_) rfl (by kernel_rfl) (by kernel_rfl) (by kernel_rfl) (fun _ _ _ h => h) (Or.inl ⟨by rfl, ?_⟩) (by assumption) ?_
            (rotate_left); (focus (intro wv hSw; (obtain ⟨qP, qC, qB⟩ := hSw);  go_simp; (try with_reducible rfl)))
            try simp only [Act.put, List.getElem_toArray, List.getElem_cons_succ, List.getElem_cons_zero, List.setIfInBounds_toArray, List.set_cons_zero, List.set_cons_succ]
            refine wpAnyH_take (i := 4) (oi := _) (v := ?_) rfl (by kernel_rfl) (by kernel_rfl) (by kernel_rfl) (fun _ _ _ h => h) (Or.inl ⟨by rfl, ?_⟩) (by assumption) ?_
            (rotate_left); (focus (intro wv hSw; (obtain ⟨qP, qC, qB⟩ := hSw);  go_simp; (try with_reducible rfl)))
            try simp only [Act.put, List.getElem_toArray, List.getElem_cons_succ, List.getElem_cons_zero, List.setIfInBounds_toArray, List.set_cons_zero, List.set_cons_succ]
            refine wpAnyH_take (i := 5) (oi := _) (v := ?_) rfl (by kernel_rfl) (by kernel_rfl) (by kernel_rfl) (fun _ _ _ h => h) (Or.inl ⟨by rfl, ?_⟩) (by assumption) ?_
            (rotate_left); (focus (intro wv hSw; (obtain ⟨qP, qC, qB⟩ := hSw); obtain ⟨u0, u1, _, _, _⟩ := blk2 qP; go_simp; (try with_reducible rfl)))
            try simp only [Act.put, List.getElem_toArray, List.getElem_cons_succ, List.getElem_cons_zero, List.setIfInBounds_toArray, List.set_cons_zero, List.set_cons_succ]
            refine wpAnyH_take (i := 6) (oi := _) (v := ?_) rfl (by kernel_rfl) (by kernel_rfl) (by kernel_rfl) (fun _ _ _ h => h) (Or.inl ⟨by rfl, ?_⟩) (by assumption) ?_
            (rotate_left); (focus (intro wv hSw; (obtain ⟨qP, qC, qB⟩ := hSw);  go_simp; (try with_reducible rfl)))
            try simp only [Act.put, List.getElem_toArray, List.getElem_cons_succ, List.getElem_cons_zero, List.setIfInBounds_toArray, List.set_cons_zero, List.set_cons_succ]
            refine wpAnyH_take (i := 7) (oi := _) (v := ?_) rfl (by kernel_rfl) (by kernel_rfl) (by kernel_rfl) (fun _ _ _ h => h) (Or.inl ⟨by rfl, ?_⟩) (by assumption) ?_
            (rotate_left); (focus (intro wv hSw; (obtain ⟨qP, qC, qB⟩ := hSw);  go_simp; (try with_reducible rfl)))
            try simp only [Act.put, List.getElem_toArray, List.getElem_cons_succ, List.getElem_cons_zero, List.setIfInBounds_toArray, List.set_cons_zero, List.set_cons_succ]
            refine wpAnyH_take (i := 8) (oi := _) (v := ?_) rfl (by kernel_rfl) (by kernel_rfl) (by kernel_rfl) (fun _ _ _ h => h) (Or.inl ⟨by rfl, ?_⟩) (by assumption) ?_
            (rotate_left); (focus (intro wv hSw; (obtain ⟨qP, qC, qB⟩ := hSw);  go_simp; (try with_reducible rfl)))
            try simp only [Act.put, List.getElem_toArray, List.getElem_cons_succ, List.getElem_cons_zero, List.setIfInBounds_toArray, List.set_cons_zero, List.set_cons_succ]
            refine wpAnyH_take (i := 9) (oi := _) (v := ?_) rfl (by kernel_rfl) (by kernel_rfl) (by kernel_rfl) (fun _ _ _ h => h) (Or.inl ⟨by rfl, ?_⟩) (by assumption) ?_
            (rotate_left); (focus (intro wv hSw; (obtain ⟨qP, qC, qB⟩ := hSw);  go_simp; (try with_reducible rfl)))
            try simp only [Act.put, List.getElem_toArray, List.getElem_cons_succ, List.getElem_cons_zero, List.setIfInBounds_toArray, List.set_cons_zero, List.set_cons_succ]
            refine wpAnyH_take (i := 10) (oi := _) (v := ?_) rfl (by kernel_rfl) (by kernel_rfl) (by kernel_rfl) (fun _ _ _ h => h) (Or.inl ⟨by rfl, ?_⟩) (by assumption) ?_
            (rotate_left); (focus (intro wv hSw; (obtain ⟨qP, qC, qB⟩ := hSw);  go_simp; (try with_reducible rfl)))
            try simp only [Act.put, List.getElem_toArray, List.getElem_cons_succ, List.getElem_cons_zero, List.setIfInBounds_toArray, List.set_cons_zero, List.set_cons_succ]
            refine wpAnyH_take (i := 11) (oi := _) (v := ?_) rfl (by kernel_rfl) (by kernel_rfl) (by kernel_rfl) (fun _ _ _ h => h) (Or.inl ⟨by rfl, ?_⟩) (by assumption) ?_
            (rotate_left); (focus (intro wv hSw; (obtain ⟨qP, qC, qB⟩ := hSw);  go_simp; (try with_reducible rfl)))
            try simp only [Act.put, List.getElem_toArray, List.getElem_cons_succ, List.getElem_cons_zero, List.setIfInBounds_toArray, List.set_cons_zero, List.set_cons_succ]
            refine wpAnyH_take (i := 12) (oi := _) (v := ?_) rfl (by kernel_rfl) (by kernel_rfl) (by kernel_rfl) (fun _ _ _ h => h) (Or.inl ⟨by rfl, ?_⟩) (by assumption) ?_
            (rotate_left); (focus (intro wv hSw; (obtain ⟨qP, qC, qB⟩ := hSw);  go_simp; (try with_reducible rfl)))
            try simp only [Act.put, List.getElem_toArray, List.getElem_cons_succ, List.getElem_cons_zero, List.setIfInBounds_toArray, List.set_cons_zero, List.set_cons_succ]
            refine wpAnyH_take (i := 13) (oi := _) (v := ?_) rfl (by kernel_rfl) (by kernel_rfl) (by kernel_rfl) (fun _ _ _ h => h) (Or.inl ⟨by rfl, ?_⟩) (by assumption) ?_
            (rotate_left); (focus (intro wv hSw; (obtain ⟨qP, qC, qB⟩ := hSw);  go_simp; (try with_reducible rfl)))
            try simp only [Act.put, List.getElem_toArray, List.getElem_cons_succ, List.getElem_cons_zero, List.setIfInBounds_toArray, List.set_cons_zero, List.set_cons_succ]
            refine wpAnyH_take (i := 14) (oi := _) (v := ?_) rfl (by kernel_rfl) (by kernel_rfl) (by kernel_rfl) (fun _ _ _ h => h) (Or.inl ⟨by rfl, ?_⟩) (by assumption) ?_
            (rotate_left); (focus (intro wv hSw; (obtain ⟨qP, qC, qB⟩ := hSw);  go_simp; (try with_reducible rfl)))
            try simp only [Act.put, List.getElem_toArray, List.getElem_cons_succ, List.getElem_cons_zero, List.setIfInBounds_toArray, List.set_cons_zero, List.set_cons_succ]
            refine wpAnyH_take (i := 15) (oi := _) (v := ?_) rfl (by kernel_rfl) (by kernel_rfl) (by kernel_rfl) (fun _ _ _ h => h) (Or.inl ⟨by rfl, ?_⟩) (by assumption) ?_
            (rotate_left); (focus (intro wv hSw; (obtain ⟨qP, qC, qB⟩ := hSw);  go_simp; (try with_reducible rfl)))
            try simp only [Act.put, List.getElem_toArray, List.getElem_cons_succ, List.getElem_cons_zero, List.setIfInBounds_toArray, List.set_cons_zero, List.set_cons_succ]
            refine wpAnyH_take (i := 16) (oi := _) (v := ?_) rfl (by kernel_rfl) (by kernel_rfl) (by kernel_rfl) (fun _ _ _ h => h) (Or.inl ⟨by rfl, ?_⟩) (by assumption) ?_
            (rotate_left); (focus (intro wv hSw; (obtain ⟨qP, qC, qB⟩ := hSw);  go_simp; (try with_reducible rfl)))
            try simp only [Act.put, List.getElem_toArray, List.getElem_cons_succ, List.getElem_cons_zero, List.setIfInBounds_toArray, List.set_cons_zero, List.set_cons_succ]
            refine wpAnyH_take (i := 17) (oi := _) (v := ?_) rfl (by kernel_rfl) (by kernel_rfl) (by kernel_rfl) (fun _ _ _ h => h) (Or.inl ⟨by rfl, ?_⟩) (by assumption) ?_
            (rotate_left); (focus (intro wv hSw; (obtain ⟨qP, qC, qB⟩ := hSw); obtain ⟨u0, u1, _, _, _⟩ := blk2 qP; go_simp; (try with_reducible rfl)))
            try simp only [Act.put, List.getElem_toArray, List.getElem_cons_succ, List.getElem_cons_zero, List.setIfInBounds_toArray, List.set_cons_zero, List.set_cons_succ]
            refine wpAnyH_take (i := 18) (oi := _) (v := ?_) rfl (by kernel_rfl) (by kernel_rfl) (by kernel_rfl) (fun _ _ _ h => h) (Or.inl ⟨by rfl, ?_⟩) (by assumption) ?_
            (rotate_left); (focus (intro wv hSw; (obtain ⟨qP, qC, qB⟩ := hSw);  go_simp; (try with_reducible rfl)))
            try simp only [Act.put, List.getElem_toArray, List.getElem_cons_succ, List.getElem_cons_zero, List.setIfInBounds_toArray, List.set_cons_zero, List.set_cons_succ]
            refine wpAnyH_take (i := 19) (oi := _) (v := ?_) rfl (by kernel_rfl) (by kernel_rfl) (by kernel_rfl) (fun _ _ _ h => h) (Or.inl ⟨by rfl, ?_⟩) (by assumption) ?_
            (rotate_left); (focus (intro wv hSw; (obtain ⟨qP, qC, qB⟩ := hSw);  go_simp; (try with_reducible rfl)))
            try simp only [Act.put, List.getElem_toArray, List.getElem_cons_succ, List.getElem_cons_zero, List.setIfInBounds_toArray, List.set_cons_zero, List.set_cons_succ]
            refine wpAnyH_take (i := 20) (oi := _) (v := undef) rfl (by kernel_rfl) (by kernel_rfl) (by kernel_rfl) (fun _ _ _ h => h) (Or.inr ⟨by kernel_rfl, rfl⟩) (by assumption) ?_
            try simp only [Act.put, List.getElem_toArray, List.getElem_cons_succ, List.getElem_cons_zero, List.setIfInBounds_toArray, List.set_cons_zero, List.set_cons_succ]
            refine wpAnyH_take (i := 21) (oi := _) (v := ?_) rfl (by kernel_rfl) (by kernel_rfl) (by kernel_rfl) (fun _ _ _ h => h) (Or.inl ⟨by rfl, ?_⟩) (by assumption) ?_
            (rotate_left); (focus (intro wv hSw; (obtain ⟨qP, qC, qB⟩ := hSw);  go_simp; (try with_reducible rfl)))
            try simp only [Act.put, List.getElem_toArray, List.getElem_cons_succ, List.getElem_cons_zero, List.setIfInBounds_toArray, List.set_cons_zero, List.set_cons_succ]
            refine wpAnyH_take (i := 22) (oi := _) (v := ?_) rfl (by kernel_rfl) (by kernel_rfl) (by kernel_rfl) (fun _ _ _ h => h) (Or.inl ⟨by rfl, ?_⟩) (by assumption) ?_
            (rotate_left); (focus (intro wv hSw; (obtain ⟨qP, qC, qB⟩ := hSw);  go_simp; (try with_reducible rfl)))
            try simp only [Act.put, List.getElem_toArray, List.getElem_cons_succ, List.getElem_cons_zero, List.setIfInBounds_toArray, List.set_cons_zero, List.set_cons_succ]
            refine wpAnyH_done (by kernel_rfl) ?_ _
            go_wp2_with fail
            go_roundw
            case rel => exact ⟨k + 1, true, c, by go_num, by omega, rfl, rfl, H3, H4, ⟨by omega, by omega⟩, hP_0, hB_0⟩
            case measure => simp [intOf]; omega
          · by_cases h2 : x ≤ lo
            · have H3 := Lib.hid (H1.out.trans (cx_t1 (by omega) (by omega)))
              have H4 := Lib.hid (cnt_n H2.out (by rw [cx_t1 (by omega) (by omega)]; decide))
              have d1 : decide (hi ≤ x) = false := decide_eq_false (by omega)
              have d2 : decide (x ≤ lo) = true := decide_eq_true (by omega)
              go_wp2_with fail
              refine wp_region_held_drew (S := (fun w' => w'.heap[w.heap.size]? = some (.cells #[.int .i64 lo, .int .i64 hi] 24) ∧ w'.cell? ⟨b, off + k, none⟩ = some (.int .i64 x) ∧ Below w.heap.size w w')) (by kernel_rfl) ⟨hP, c0, hB.drew⟩ (fun hHeld => ?_)
              obtain ⟨hP_0, hC_0, hB_0⟩ := id hHeld
              refine wpAnyH_take (i := 0) (oi := _) (v := ?_) rfl (by kernel_rfl) (by kernel_rfl) (by kernel_rfl) (fun _ _ _ h => h) (Or.inl ⟨by rfl, ?_⟩) (by assumption) ?_
              (rotate_left); (focus (intro wv hSw; (obtain ⟨qP, qC, qB⟩ := hSw);  go_simp; (try with_reducible rfl)))
              try simp only [Act.put, List.getElem_toArray, List.getElem_cons_succ, List.getElem_cons_zero, List.setIfInBounds_toArray, List.set_cons_zero, List.set_cons_succ]
              refine wpAnyH_take (i := 1) (oi := _) (v := ?_) rfl (by kernel_rfl) (by kernel_rfl) (by kernel_rfl) (fun _ _ _ h => h) (Or.inl ⟨by rfl, ?_⟩) (by assumption) ?_
              (rotate_left); (focus (intro wv hSw; (obtain ⟨qP, qC, qB⟩ := hSw);  go_simp; (try with_reducible rfl)))
              try simp only [Act.put, List.getElem_toArray, List.getElem_cons_succ, List.getElem_cons_zero, List.setIfInBounds_toArray, List.set_cons_zero, List.set_cons_succ]
              refine wpAnyH_take (i := 2) (oi := _) (v := ?_) rfl (by kernel_rfl) (by kernel_rfl) (by kernel_rfl) (fun _ _ _ h => h) (Or.inl ⟨by rfl, ?_⟩) (by assumption) ?_
              (rotate_left); (focus (intro wv hSw; (obtain ⟨qP, qC, qB⟩ := hSw);  go_simp; (try with_reducible rfl)))
              try simp only [Act.put, List.getElem_toArray, List.getElem_cons_succ, List.getElem_cons_zero, List.setIfInBounds_toArray, List.set_cons_zero, List.set_cons_succ]
              refine wpAnyH_take (i := 3) (oi := _) (v := ?_) rfl (by kernel_rfl) (by kernel_rfl) (by kernel_rfl) (fun _ _ _ h => h) (Or.inl ⟨by rfl, ?_⟩) (by assumption) ?_
              (rotate_left); (focus (intro wv hSw; (obtain ⟨qP, qC, qB⟩ := hSw);  go_simp; (try with_reducible rfl)))
              try simp only [Act.put, List.getElem_toArray, List.getElem_cons_succ, List.getElem_cons_zero, List.setIfInBounds_toArray, List.set_cons_zero, List.set_cons_succ]
              refine wpAnyH_take (i := 4) (oi := _) (v := ?_) rfl (by kernel_rfl) (by kernel_rfl) (by kernel_rfl) (fun _ _ _ h => h) (Or.inl ⟨by rfl, ?_⟩) (by assumption) ?_
              (rotate_left); (focus (intro wv hSw; (obtain ⟨qP, qC, qB⟩ := hSw);  go_simp; (try with_reducible rfl)))
              try simp only [Act.put, List.getElem_toArray, List.getElem_cons_succ, List.getElem_cons_zero, List.setIfInBounds_toArray, List.set_cons_zero, List.set_cons_succ]
              refine wpAnyH_take (i := 5) (oi := _) (v := ?_) rfl (by kernel_rfl) (by kernel_rfl) (by kernel_rfl) (fun _ _ _ h => h) (Or.inl ⟨by rfl, ?_⟩) (by assumption) ?_
              (rotate_left); (focus (intro wv hSw; (obtain ⟨qP, qC, qB⟩ := hSw); obtain ⟨u0, u1, _, _, _⟩ := blk2 qP; go_simp; (try with_reducible rfl)))
              try simp only [Act.put, List.getElem_toArray, List.getElem_cons_succ, List.getElem_cons_zero, List.setIfInBounds_toArray, List.set_cons_zero, List.set_cons_succ]
              refine wpAnyH_take (i := 6) (oi := _) (v := ?_) rfl (by kernel_rfl) (by kernel_rfl) (by kernel_rfl) (fun _ _ _ h => h) (Or.inl ⟨by rfl, ?_⟩) (by assumption) ?_
              (rotate_left); (focus (intro wv hSw; (obtain ⟨qP, qC, qB⟩ := hSw);  go_simp; (try with_reducible rfl)))
              try simp only [Act.put, List.getElem_toArray, List.getElem_cons_succ, List.getElem_cons_zero, List.setIfInBounds_toArray, List.set_cons_zero, List.set_cons_succ]
              refine wpAnyH_take (i := 7) (oi := _) (v := ?_) rfl (by kernel_rfl) (by kernel_rfl) (by kernel_rfl) (fun _ _ _ h => h) (Or.inl ⟨by rfl, ?_⟩) (by assumption) ?_
              (rotate_left); (focus (intro wv hSw; (obtain ⟨qP, qC, qB⟩ := hSw);  go_simp; (try with_reducible rfl)))
              try simp only [Act.put, List.getElem_toArray, List.getElem_cons_succ, List.getElem_cons_zero, List.setIfInBounds_toArray, List.set_cons_zero, List.set_cons_succ]
              refine wpAnyH_take (i := 8) (oi := _) (v := undef) rfl (by kernel_rfl) (by kernel_rfl) (by kernel_rfl) (fun _ _ _ h => h) (Or.inr ⟨by kernel_rfl, rfl⟩) (by assumption) ?_
              try simp only [Act.put, List.getElem_toArray, List.getElem_cons_succ, List.getElem_cons_zero, List.setIfInBounds_toArray, List.set_cons_zero, List.set_cons_succ]
              refine wpAnyH_take (i := 9) (oi := _) (v := undef) rfl (by kernel_rfl) (by kernel_rfl) (by kernel_rfl) (fun _ _ _ h => h) (Or.inr ⟨by kernel_rfl, rfl⟩) (by assumption) ?_
              try simp only [Act.put, List.getElem_toArray, List.getElem_cons_succ, List.getElem_cons_zero, List.setIfInBounds_toArray, List.set_cons_zero, List.set_cons_succ]
              refine wpAnyH_take (i := 10) (oi := _) (v := ?_) rfl (by kernel_rfl) (by kernel_rfl) (by kernel_rfl) (fun _ _ _ h => h) (Or.inl ⟨by rfl, ?_⟩) (by assumption) ?_
              (rotate_left); (focus (intro wv hSw; (obtain ⟨qP, qC, qB⟩ := hSw);  go_simp; (try with_reducible rfl)))
              try simp only [Act.put, List.getElem_toArray, List.getElem_cons_succ, List.getElem_cons_zero, List.setIfInBounds_toArray, List.set_cons_zero, List.set_cons_succ]
              refine wpAnyH_take (i := 11) (oi := _) (v := ?_) rfl (by kernel_rfl) (by kernel_rfl) (by kernel_rfl) (fun _ _ _ h => h) (Or.inl ⟨by rfl, ?_⟩) (by assumption) ?_
              (rotate_left); (focus (intro wv hSw; (obtain ⟨qP, qC, qB⟩ := hSw);  go_simp; (try with_reducible rfl)))
              try simp only [Act.put, List.getElem_toArray, List.getElem_cons_succ, List.getElem_cons_zero, List.setIfInBounds_toArray, List.set_cons_zero, List.set_cons_succ]
              refine wpAnyH_take (i := 12) (oi := _) (v := ?_) rfl (by kernel_rfl) (by kernel_rfl) (by kernel_rfl) (fun _ _ _ h => h) (Or.inl ⟨by rfl, ?_⟩) (by assumption) ?_
              (rotate_left); (focus (intro wv hSw; (obtain ⟨qP, qC, qB⟩ := hSw);  go_simp; (try with_reducible rfl)))
              try simp only [Act.put, List.getElem_toArray, List.getElem_cons_succ, List.getElem_cons_zero, List.setIfInBounds_toArray, List.set_cons_zero, List.set_cons_succ]
              refine wpAnyH_take (i := 13) (oi := _) (v := ?_) rfl (by kernel_rfl) (by kernel_rfl) (by kernel_rfl) (fun _ _ _ h => h) (Or.inl ⟨by rfl, ?_⟩) (by assumption) ?_
              (rotate_left); (focus (intro wv hSw; (obtain ⟨qP, qC, qB⟩ := hSw);  go_simp; (try with_reducible rfl)))
              try simp only [Act.put, List.getElem_toArray, List.getElem_cons_succ, List.getElem_cons_zero, List.setIfInBounds_toArray, List.set_cons_zero, List.set_cons_succ]
              refine wpAnyH_take (i := 14) (oi := _) (v := ?_) rfl (by kernel_rfl) (by kernel_rfl) (by kernel_rfl) (fun _ _ _ h => h) (Or.inl ⟨by rfl, ?_⟩) (by assumption) ?_
              (rotate_left); (focus (intro wv hSw; (obtain ⟨qP, qC, qB⟩ := hSw);  go_simp; (try with_reducible rfl)))
              try simp only [Act.put, List.getElem_toArray, List.getElem_cons_succ, List.getElem_cons_zero, List.setIfInBounds_toArray, List.set_cons_zero, List.set_cons_succ]
              refine wpAnyH_take (i := 15) (oi := _) (v := ?_) rfl (by kernel_rfl) (by kernel_rfl) (by kernel_rfl) (fun _ _ _ h => h) (Or.inl ⟨by rfl, ?_⟩) (by assumption) ?_
              (rotate_left); (focus (intro wv hSw; (obtain ⟨qP, qC, qB⟩ := hSw);  go_simp; (try with_reducible rfl)))
              try simp only [Act.put, List.getElem_toArray, List.getElem_cons_succ, List.getElem_cons_zero, List.setIfInBounds_toArray, List.set_cons_zero, List.set_cons_succ]
              refine wpAnyH_take (i := 16) (oi := _) (v := ?_) rfl (by kernel_rfl) (by kernel_rfl) (by kernel_rfl) (fun _ _ _ h => h) (Or.inl ⟨by rfl, ?_⟩) (by assumption) ?_
              (rotate_left); (focus (intro wv hSw; (obtain ⟨qP, qC, qB⟩ := hSw);  go_simp; (try with_reducible rfl)))
              try simp only [Act.put, List.getElem_toArray, List.getElem_cons_succ, List.getElem_cons_zero, List.setIfInBounds_toArray, List.set_cons_zero, List.set_cons_succ]
              refine wpAnyH_take (i := 17) (oi := _) (v := ?_) rfl (by kernel_rfl) (by kernel_rfl) (by kernel_rfl) (fun _ _ _ h => h) (Or.inl ⟨by rfl, ?_⟩) (by assumption) ?_
              (rotate_left); (focus (intro wv hSw; (obtain ⟨qP, qC, qB⟩ := hSw); obtain ⟨u0, u1, _, _, _⟩ := blk2 qP; go_simp; (try with_reducible rfl)))
              try simp only [Act.put, List.getElem_toArray, List.getElem_cons_succ, List.getElem_cons_zero, List.setIfInBounds_toArray, List.set_cons_zero, List.set_cons_succ]
              refine wpAnyH_take (i := 18) (oi := _) (v := ?_) rfl (by kernel_rfl) (by kernel_rfl) (by kernel_rfl) (fun _ _ _ h => h) (Or.inl ⟨by rfl, ?_⟩) (by assumption) ?_
              (rotate_left); (focus (intro wv hSw; (obtain ⟨qP, qC, qB⟩ := hSw);  go_simp; (try with_reducible rfl)))
              try simp only [Act.put, List.getElem_toArray, List.getElem_cons_succ, List.getElem_cons_zero, List.setIfInBounds_toArray, List.set_cons_zero, List.set_cons_succ]
              refine wpAnyH_take (i := 19) (oi := _) (v := ?_) rfl (by kernel_rfl) (by kernel_rfl) (by kernel_rfl) (fun _ _ _ h => h) (Or.inl ⟨by rfl, ?_⟩) (by assumption) ?_
              (rotate_left); (focus (intro wv hSw; (obtain ⟨qP, qC, qB⟩ := hSw);  go_simp; (try with_reducible rfl)))
              try simp only [Act.put, List.getElem_toArray, List.getElem_cons_succ, List.getElem_cons_zero, List.setIfInBounds_toArray, List.set_cons_zero, List.set_cons_succ]
              refine wpAnyH_take (i := 20) (oi := _) (v := ?_) rfl (by kernel_rfl) (by kernel_rfl) (by kernel_rfl) (fun _ _ _ h => h) (Or.inl ⟨by rfl, ?_⟩) (by assumption) ?_
              (rotate_left); (focus (intro wv hSw; (obtain ⟨qP, qC, qB⟩ := hSw);  go_simp; (try with_reducible rfl)))
              try simp only [Act.put, List.getElem_toArray, List.getElem_cons_succ, List.getElem_cons_zero, List.setIfInBounds_toArray, List.set_cons_zero, List.set_cons_succ]
              refine wpAnyH_take (i := 21) (oi := _) (v := ?_) rfl (by kernel_rfl) (by kernel_rfl) (by kernel_rfl) (fun _ _ _ h => h) (Or.inl ⟨by rfl, ?_⟩) (by assumption) ?_
              (rotate_left); (focus (intro wv hSw; (obtain ⟨qP, qC, qB⟩ := hSw);  go_simp; (try with_reducible rfl)))
              try simp only [Act.put, List.getElem_toArray, List.getElem_cons_succ, List.getElem_cons_zero, List.setIfInBounds_toArray, List.set_cons_zero, List.set_cons_succ]
              refine wpAnyH_take (i := 22) (oi := _) (v := ?_) rfl (by kernel_rfl) (by kernel_rfl) (by kernel_rfl) (fun _ _ _ h => h) (Or.inl ⟨by rfl, ?_⟩) (by assumption) ?_
              (rotate_left); (focus (intro wv hSw; (obtain ⟨qP, qC, qB⟩ := hSw);  go_simp; (try with_reducible rfl)))
              try simp only [Act.put, List.getElem_toArray, List.getElem_cons_succ, List.getElem_cons_zero, List.setIfInBounds_toArray, List.set_cons_zero, List.set_cons_succ]
              refine wpAnyH_done (by kernel_rfl) ?_ _
              go_wp2_with fail
              go_roundw
              case rel => exact ⟨k + 1, false, c + 1, by go_num, by omega, rfl, rfl, H3, H4, ⟨by omega, by omega⟩, hP_0, hB_0⟩
              case measure => simp [intOf]; omega
            · have H3 := Lib.hid (H1.out.trans (cx_t0 (by omega)))
              have H4 := Lib.hid (cnt_y H2.out (cx_t0 (by omega)))
              have d1 : decide (hi ≤ x) = false := decide_eq_false (by omega)
              have d2 : decide (x ≤ lo) = false := decide_eq_false (by omega)
              go_wp2_with fail
              refine wp_region_held_drew (S := (fun w' => w'.heap[w.heap.size]? = some (.cells #[.int .i64 lo, .int .i64 hi] 24) ∧ w'.cell? ⟨b, off + k, none⟩ = some (.int .i64 x) ∧ Below w.heap.size w w')) (by kernel_rfl) ⟨hP, c0, hB.drew⟩ (fun hHeld => ?_)
              obtain ⟨hP_0, hC_0, hB_0⟩ := id hHeld
              refine wpAnyH_take (i := 0) (oi := _) (v := ?_) rfl (by kernel_rfl) (by kernel_rfl) (by kernel_rfl) (fun _ _ _ h => h) (Or.inl ⟨by rfl, ?_⟩) (by assumption) ?_
              (rotate_left); (focus (intro wv hSw; (obtain ⟨qP, qC, qB⟩ := hSw);  go_simp; (try with_reducible rfl)))
              try simp only [Act.put, List.getElem_toArray, List.getElem_cons_succ, List.getElem_cons_zero, List.setIfInBounds_toArray, List.set_cons_zero, List.set_cons_succ]
              refine wpAnyH_take (i := 1) (oi := _) (v := ?_) rfl (by kernel_rfl) (by kernel_rfl) (by kernel_rfl) (fun _ _ _ h => h) (Or.inl ⟨by rfl, ?_⟩) (by assumption) ?_
              (rotate_left); (focus (intro wv hSw; (obtain ⟨qP, qC, qB⟩ := hSw);  go_simp; (try with_reducible rfl)))
              try simp only [Act.put, List.getElem_toArray, List.getElem_cons_succ, List.getElem_cons_zero, List.setIfInBounds_toArray, List.set_cons_zero, List.set_cons_succ]
              refine wpAnyH_take (i := 2) (oi := _) (v := ?_) rfl (by kernel_rfl) (by kernel_rfl) (by kernel_rfl) (fun _ _ _ h => h) (Or.inl ⟨by rfl, ?_⟩) (by assumption) ?_
              (rotate_left); (focus (intro wv hSw; (obtain ⟨qP, qC, qB⟩ := hSw);  go_simp; (try with_reducible rfl)))
              try simp only [Act.put, List.getElem_toArray, List.getElem_cons_succ, List.getElem_cons_zero, List.setIfInBounds_toArray, List.set_cons_zero, List.set_cons_succ]
              refine wpAnyH_take (i := 3) (oi := _) (v := ?_) rfl (by kernel_rfl) (by kernel_rfl) (by kernel_rfl) (fun _ _ _ h => h) (Or.inl ⟨by rfl, ?_⟩) (by assumption) ?_
              (rotate_left); (focus (intro wv hSw; (obtain ⟨qP, qC, qB⟩ := hSw);  go_simp; (try with_reducible rfl)))
              try simp only [Act.put, List.getElem_toArray, List.getElem_cons_succ, List.getElem_cons_zero, List.setIfInBounds_toArray, List.set_cons_zero, List.set_cons_succ]
              refine wpAnyH_take (i := 4) (oi := _) (v := ?_) rfl (by kernel_rfl) (by kernel_rfl) (by kernel_rfl) (fun _ _ _ h => h) (Or.inl ⟨by rfl, ?_⟩) (by assumption) ?_
              (rotate_left); (focus (intro wv hSw; (obtain ⟨qP, qC, qB⟩ := hSw);  go_simp; (try with_reducible rfl)))
              try simp only [Act.put, List.getElem_toArray, List.getElem_cons_succ, List.getElem_cons_zero, List.setIfInBounds_toArray, List.set_cons_zero, List.set_cons_succ]
              refine wpAnyH_take (i := 5) (oi := _) (v := ?_) rfl (by kernel_rfl) (by kernel_rfl) (by kernel_rfl) (fun _ _ _ h => h) (Or.inl ⟨by rfl, ?_⟩) (by assumption) ?_
              (rotate_left); (focus (intro wv hSw; (obtain ⟨qP, qC, qB⟩ := hSw); obtain ⟨u0, u1, _, _, _⟩ := blk2 qP; go_simp; (try with_reducible rfl)))
              try simp only [Act.put, List.getElem_toArray, List.getElem_cons_succ, List.getElem_cons_zero, List.setIfInBounds_toArray, List.set_cons_zero, List.set_cons_succ]
              refine wpAnyH_take (i := 6) (oi := _) (v := ?_) rfl (by kernel_rfl) (by kernel_rfl) (by kernel_rfl) (fun _ _ _ h => h) (Or.inl ⟨by rfl, ?_⟩) (by assumption) ?_
              (rotate_left); (focus (intro wv hSw; (obtain ⟨qP, qC, qB⟩ := hSw);  go_simp; (try with_reducible rfl)))
              try simp only [Act.put, List.getElem_toArray, List.getElem_cons_succ, List.getElem_cons_zero, List.setIfInBounds_toArray, List.set_cons_zero, List.set_cons_succ]
              refine wpAnyH_take (i := 7) (oi := _) (v := ?_) rfl (by kernel_rfl) (by kernel_rfl) (by kernel_rfl) (fun _ _ _ h => h) (Or.inl ⟨by rfl, ?_⟩) (by assumption) ?_
              (rotate_left); (focus (intro wv hSw; (obtain ⟨qP, qC, qB⟩ := hSw);  go_simp; (try with_reducible rfl)))
              try simp only [Act.put, List.getElem_toArray, List.getElem_cons_succ, List.getElem_cons_zero, List.setIfInBounds_toArray, List.set_cons_zero, List.set_cons_succ]
              refine wpAnyH_take (i := 8) (oi := _) (v := undef) rfl (by kernel_rfl) (by kernel_rfl) (by kernel_rfl) (fun _ _ _ h => h) (Or.inr ⟨by kernel_rfl, rfl⟩) (by assumption) ?_
              try simp only [Act.put, List.getElem_toArray, List.getElem_cons_succ, List.getElem_cons_zero, List.setIfInBounds_toArray, List.set_cons_zero, List.set_cons_succ]
              refine wpAnyH_take (i := 9) (oi := _) (v := undef) rfl (by kernel_rfl) (by kernel_rfl) (by kernel_rfl) (fun _ _ _ h => h) (Or.inr ⟨by kernel_rfl, rfl⟩) (by assumption) ?_
              try simp only [Act.put, List.getElem_toArray, List.getElem_cons_succ, List.getElem_cons_zero, List.setIfInBounds_toArray, List.set_cons_zero, List.set_cons_succ]
              refine wpAnyH_take (i := 10) (oi := _) (v := ?_) rfl (by kernel_rfl) (by kernel_rfl) (by kernel_rfl) (fun _ _ _ h => h) (Or.inl ⟨by rfl, ?_⟩) (by assumption) ?_
              (rotate_left); (focus (intro wv hSw; (obtain ⟨qP, qC, qB⟩ := hSw);  go_simp; (try with_reducible rfl)))
              try simp only [Act.put, List.getElem_toArray, List.getElem_cons_succ, List.getElem_cons_zero, List.setIfInBounds_toArray, List.set_cons_zero, List.set_cons_succ]
              refine wpAnyH_take (i := 11) (oi := _) (v := ?_) rfl (by kernel_rfl) (by kernel_rfl) (by kernel_rfl) (fun _ _ _ h => h) (Or.inl ⟨by rfl, ?_⟩) (by assumption) ?_
              (rotate_left); (focus (intro wv hSw; (obtain ⟨qP, qC, qB⟩ := hSw);  go_simp; (try with_reducible rfl)))
              try simp only [Act.put, List.getElem_toArray, List.getElem_cons_succ, List.getElem_cons_zero, List.setIfInBounds_toArray, List.set_cons_zero, List.set_cons_succ]
              refine wpAnyH_take (i := 12) (oi := _) (v := ?_) rfl (by kernel_rfl) (by kernel_rfl) (by kernel_rfl) (fun _ _ _ h => h) (Or.inl ⟨by rfl, ?_⟩) (by assumption) ?_
              (rotate_left); (focus (intro wv hSw; (obtain ⟨qP, qC, qB⟩ := hSw);  go_simp; (try with_reducible rfl)))
              try simp only [Act.put, List.getElem_toArray, List.getElem_cons_succ, List.getElem_cons_zero, List.setIfInBounds_toArray, List.set_cons_zero, List.set_cons_succ]
              refine wpAnyH_take (i := 13) (oi := _) (v := ?_) rfl (by kernel_rfl) (by kernel_rfl) (by kernel_rfl) (fun _ _ _ h => h) (Or.inl ⟨by rfl, ?_⟩) (by assumption) ?_
              (rotate_left); (focus (intro wv hSw; (obtain ⟨qP, qC, qB⟩ := hSw);  go_simp; (try with_reducible rfl)))
              try simp only [Act.put, List.getElem_toArray, List.getElem_cons_succ, List.getElem_cons_zero, List.setIfInBounds_toArray, List.set_cons_zero, List.set_cons_succ]
              refine wpAnyH_take (i := 14) (oi := _) (v := ?_) rfl (by kernel_rfl) (by kernel_rfl) (by kernel_rfl) (fun _ _ _ h => h) (Or.inl ⟨by rfl, ?_⟩) (by assumption) ?_
              (rotate_left); (focus (intro wv hSw; (obtain ⟨qP, qC, qB⟩ := hSw);  go_simp; (try with_reducible rfl)))
              try simp only [Act.put, List.getElem_toArray, List.getElem_cons_succ, List.getElem_cons_zero, List.setIfInBounds_toArray, List.set_cons_zero, List.set_cons_succ]
              refine wpAnyH_take (i := 15) (oi := _) (v := ?_) rfl (by kernel_rfl) (by kernel_rfl) (by kernel_rfl) (fun _ _ _ h => h) (Or.inl ⟨by rfl, ?_⟩) (by assumption) ?_
              (rotate_left); (focus (intro wv hSw; (obtain ⟨qP, qC, qB⟩ := hSw);  go_simp; (try with_reducible rfl)))
              try simp only [Act.put, List.getElem_toArray, List.getElem_cons_succ, List.getElem_cons_zero, List.setIfInBounds_toArray, List.set_cons_zero, List.set_cons_succ]
              refine wpAnyH_take (i := 16) (oi := _) (v := ?_) rfl (by kernel_rfl) (by kernel_rfl) (by kernel_rfl) (fun _ _ _ h => h) (Or.inl ⟨by rfl, ?_⟩) (by assumption) ?_
              (rotate_left); (focus (intro wv hSw; (obtain ⟨qP, qC, qB⟩ := hSw);  go_simp; (try with_reducible rfl)))
              try simp only [Act.put, List.getElem_toArray, List.getElem_cons_succ, List.getElem_cons_zero, List.setIfInBounds_toArray, List.set_cons_zero, List.set_cons_succ]
              refine wpAnyH_take (i := 17) (oi := _) (v := ?_) rfl (by kernel_rfl) (by kernel_rfl) (by kernel_rfl) (fun _ _ _ h => h) (Or.inl ⟨by rfl, ?_⟩) (by assumption) ?_
              (rotate_left); (focus (intro wv hSw; (obtain ⟨qP, qC, qB⟩ := hSw); obtain ⟨u0, u1, _, _, _⟩ := blk2 qP; go_simp; (try with_reducible rfl)))
              try simp only [Act.put, List.getElem_toArray, List.getElem_cons_succ, List.getElem_cons_zero, List.setIfInBounds_toArray, List.set_cons_zero, List.set_cons_succ]
              refine wpAnyH_take (i := 18) (oi := _) (v := ?_) rfl (by kernel_rfl) (by kernel_rfl) (by kernel_rfl) (fun _ _ _ h => h) (Or.inl ⟨by rfl, ?_⟩) (by assumption) ?_
              (rotate_left); (focus (intro wv hSw; (obtain ⟨qP, qC, qB⟩ := hSw);  go_simp; (try with_reducible rfl)))
              try simp only [Act.put, List.getElem_toArray, List.getElem_cons_succ, List.getElem_cons_zero, List.setIfInBounds_toArray, List.set_cons_zero, List.set_cons_succ]
              refine wpAnyH_take (i := 19) (oi := _) (v := ?_) rfl (by kernel_rfl) (by kernel_rfl) (by kernel_rfl) (fun _ _ _ h => h) (Or.inl ⟨by rfl, ?_⟩) (by assumption) ?_
              (rotate_left); (focus (intro wv hSw; (obtain ⟨qP, qC, qB⟩ := hSw);  go_simp; (try with_reducible rfl)))
              try simp only [Act.put, List.getElem_toArray, List.getElem_cons_succ, List.getElem_cons_zero, List.setIfInBounds_toArray, List.set_cons_zero, List.set_cons_succ]
              refine wpAnyH_take (i := 20) (oi := _) (v := undef) rfl (by kernel_rfl) (by kernel_rfl) (by kernel_rfl) (fun _ _ _ h => h) (Or.inr ⟨by kernel_rfl, rfl⟩) (by assumption) ?_
              try simp only [Act.put, List.getElem_toArray, List.getElem_cons_succ, List.getElem_cons_zero, List.setIfInBounds_toArray, List.set_cons_zero, List.set_cons_succ]
              refine wpAnyH_take (i := 21) (oi := _) (v := ?_) rfl (by kernel_rfl) (by kernel_rfl) (by kernel_rfl) (fun _ _ _ h => h) (Or.inl ⟨by rfl, ?_⟩) (by assumption) ?_
              (rotate_left); (focus (intro wv hSw; (obtain ⟨qP, qC, qB⟩ := hSw);  go_simp; (try with_reducible rfl)))
              try simp only [Act.put, List.getElem_toArray, List.getElem_cons_succ, List.getElem_cons_zero, List.setIfInBounds_toArray, List.set_cons_zero, List.set_cons_succ]
              refine wpAnyH_take (i := 22) (oi := _) (v := ?_) rfl (by kernel_rfl) (by kernel_rfl) (by kernel_rfl) (fun _ _ _ h => h) (Or.inl ⟨by rfl, ?_⟩) (by assumption) ?_
              (rotate_left); (focus (intro wv hSw; (obtain ⟨qP, qC, qB⟩ := hSw);  go_simp; (try with_reducible rfl)))
              try simp only [Act.put, List.getElem_toArray, List.getElem_cons_succ, List.getElem_cons_zero, List.setIfInBounds_toArray, List.set_cons_zero, List.set_cons_succ]
              refine wpAnyH_done (by kernel_rfl) ?_ _
              go_wp2_with fail
              go_roundw
              case rel => exact ⟨k + 1, true, c, by go_num, by omega, rfl, rfl, H3, H4, ⟨by omega, by omega⟩, hP_0, hB_0⟩
              case measure => simp [intOf]; omega
      · have hki : ¬ (k : Int) < (n : Int) := by omega
        go_wp2_with fail
        go_ret
        exact ⟨ret_int (by rw [← HC.out, ← HR.out, List.take_of_length_le (by rw [HN.out]; omega)]), hB⟩
end Go.Proofs.Ytpmbjdfecbmgoaa
