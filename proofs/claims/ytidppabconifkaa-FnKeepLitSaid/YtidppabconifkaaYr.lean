/- Contracts of chapter 6: the cells that are lit. -/
import Derived.Test.YtidppabconifkaaYp
import Derived.Laws.AppendOwn
namespace Go.Proofs.Ytidppabconifkaa
open Go Go.ChangeShapes Go.WideShapes Go.ChangeAt Go.RowKit
set_option linter.unusedSimpArgs false
set_option linter.unusedVariables false

theorem li_no {d : Int} {xs : List Int} {e f : Int} (h : okB d xs e f = false) : liL d xs e f = [] := by unfold liL; rw [h]; rfl
theorem li_yes {d : Int} {xs : List Int} {e f : Int} (h : okB d xs e f = true) : liL d xs e f = ltL d xs e f xs.length := by unfold liL; rw [h]; rfl
theorem ltL_zero (d : Int) (xs : List Int) (e f : Int) : ltL d xs e f 0 = [] := rfl
theorem liL_len (d : Int) (xs : List Int) (e f : Int) : (liL d xs e f).length ≤ xs.length := by unfold liL; split; exact ltL_len _ _ _ _ _; simp
theorem SOwn.ne_lowY {α : Type} {E : Enc α} {w : World} {base : Nat} {T : TypeId} {A : Option Addr} {cap n k : Nat} {xs : List α} (h : SOwn E w base T A cap xs) (hk : k < base) : Value.ownBlock (.slice A n cap) ≠ some k := by
  rcases h.form with ⟨rfl, _⟩ | ⟨g, rfl, hb, _⟩
  · simp [Value.ownBlock]
  · simp [Value.ownBlock]; omega
set_option maxRecDepth 100000 in
set_option maxHeartbeats 4000000 in
theorem iLc_any (d : Int) (A : Option Addr) (cap : Nat) (xs : List Int) (e f : Int) {n : Nat} (w : World) (hn : xs.length = n) (h : SRow encNum w A xs) (hl : n ≤ 2000000) :
    Calls Try.prog 28 #[.agg #[.int .i64 d, .slice A n cap], .int .i64 e, .int .i64 f] w fun E w' => NumRetY (liL d xs e f) w E w' := by
  obtain ⟨i0, hi0, hz0, hz1, hz2⟩ := info_parts infoNum
  have HI := Lib.hid (And.intro hi0 (And.intro hz0 (And.intro hz1 hz2)))
  clear hi0 hz0 hz1 hz2
  cases hok : okB d xs e f
  · rw [li_no hok]
    have HOK := Lib.hid hok
    have HN := Lib.hid hn
    clear hok hn
    go_enter Try.func28, Try.ntmps28
    go_wp2_with fail
    refine (iSh_any d A cap xs e f _ HN.out (h.next (bel1 w (.cells #[.int .i64 d, .slice A n cap] 25 (0, 0)))) hl).mono ?_; rintro E w1 ⟨Z, cz, rfl, hZ, hzz, hw1⟩
    obtain ⟨hP1, hB1⟩ := ownb hw1
    rw [HOK.out] at hzz
    obtain ⟨_, rfl, rfl⟩ : false = false ∧ Z = none ∧ cz = 0 := by rcases hzz with ⟨h9, _⟩ | h9; cases h9; exact h9
    rw [shL_no HOK.out]
    go_wp2_with fail
    go_loopw [7, 15] (fun v i wr => v = .slice none 0 0 ∧ i = .int .i64 0 ∧ w1 = wr) (fun _ _ _ => 0)
    case atStart => exact ⟨rfl, rfl, rfl⟩
    case round =>
      obtain ⟨rfl, rfl, rfl⟩ := hrel
      go_wp2
      go_ret
      exact ⟨none, 0, rfl, SOwn.nil _ _ _, hB1⟩
  · rw [li_yes hok]
    have HNe := Lib.hid (shL_len hok)
    have h1 := (okB_iff.1 hok).1
    have hn36 : n ≤ 36 := by have := cv_len h1; omega
    have HAT := Lib.hid (fun (i : Nat) (hi : i < (shL d xs e f).length) => shL_at hok hi)
    have HOK := Lib.hid hok
    have HN := Lib.hid hn
    clear hok hn h1
    go_enter Try.func28, Try.ntmps28
    go_wp2_with fail
    refine (iSh_any d A cap xs e f _ HN.out (h.next (bel1 w (.cells #[.int .i64 d, .slice A n cap] 25 (0, 0)))) hl).mono ?_; rintro E w1 ⟨Z, cz, rfl, hZ, hzz, hw1⟩
    obtain ⟨hP1, hB1⟩ := ownb hw1
    rw [HOK.out] at hzz
    obtain ⟨g, rfl⟩ : ∃ g, Z = some ⟨g, 0, none⟩ := by rcases hzz with ⟨_, h9⟩ | ⟨h9, _⟩; exact h9; cases h9
    clear hzz
    rw [HNe.out, HN.out]
    have hzg : g < w1.heap.size := by rcases hZ.form with ⟨e9, _⟩ | ⟨g9, e9, _, h9⟩; cases e9; cases e9; exact h9
    have hzb := hB1.size
    have hzP := blk_lt hP1
    obtain ⟨nb, hnb⟩ : ∃ nb, w1.heap.size = nb := ⟨_, rfl⟩
    have hnb0 : w1.heap.size ≤ nb := by omega
    rw [hnb] at hzg hzb hzP
    have HNB := Lib.hid hnb
    have HZ1 := Lib.hid (hZ.mono (base' := w.heap.size) (by simp))
    clear hnb hZ
    go_wp2_with fail
    go_loopw [7, 15] (fun v i wr => ∃ (k m : Nat) (V : Option Addr) (cv : Nat), k ≤ n ∧ m ≤ k ∧ Hid ((ltL d xs e f k).length = m) ∧ i = .int .i64 k ∧ v = .slice V m cv ∧ SOwn encNum wr nb 3 V cv (ltL d xs e f k) ∧ SOwn encNum wr w.heap.size 3 (some ⟨g, 0, none⟩) cz (shL d xs e f) ∧ wr.heap[w.heap.size]? = some (.cells #[.int .i64 d, .slice A n cap] 25 (0, 0)) ∧ nb ≤ wr.heap.size ∧ Below w.heap.size w wr) (fun _ i _ => (n - intOf i).toNat)
    case atStart => exact ⟨0, 0, none, 0, by omega, by omega, (by show _ = _; rfl), rfl, rfl, SOwn.nil _ _ _, HZ1.out, hP1, by rw [HNB.out]; exact Nat.le_refl _, hB1⟩
    case round =>
      obtain ⟨k, m, V, cv, k1, mk, HM, rfl, rfl, hO, hZ, hP1, hnr, hB⟩ := hrel
      obtain ⟨p0, p1, f0, f1, zp⟩ := blk2 hP1
      by_cases hlt : k < n
      · have hk : k < xs.length := by rw [HN.out]; exact hlt
        have hkS : k < (shL d xs e f).length := by rw [HNe.out]; exact hk
        have hki : (k : Int) < (n : Int) := by omega
        obtain ⟨b, off, eA, hb, c0⟩ := rowNum (h.next hB) hk
        have s0 := ownNum hZ hkS
        rw [HAT.out k hkS] at s0
        have hdk : dkB d xs e f (k : Int) = decide (tlI xs (k : Int) < shI d xs e f (k : Int)) := rfl
        rw [tlI_at hk] at hdk
        have HDK := Lib.hid hdk
        clear hdk
        subst eA
        revert c0 HDK s0
        generalize xs[k] = t
        generalize shI d xs e f (k : Int) = s
        intro c0 s0 HDK
        by_cases hts : t < s
        · have he := ltL_no (HDK.out.trans (decide_eq_true hts))
          have HE := Lib.hid he
          clear he
          go_wp2_with fail
          go_roundw
          case rel => exact ⟨k + 1, m, V, cv, by omega, by omega, Lib.hid (by rw [HE.out]; exact HM.out), by go_num, rfl, by rw [HE.out]; exact hO, hZ, hP1, hnr, hB⟩
          case measure => simp [intOf]; omega
        · have he := ltL_yes (HDK.out.trans (decide_eq_false hts))
          have HE := Lib.hid he
          clear he
          have hOa := hO.alloc (.cells (encNum.enc (k : Int)).toArray 3)
          have hZa := hZ.alloc (.cells (encNum.enc (k : Int)).toArray 3)
          have hcp := hB.size
          go_wp2_with (at_builtin; refine wpList_append_lies _ rfl (.tmp 27) (.tmp 29) _ rfl nb 3 i0 _ 1 8 Try.underlying23 HI.out.1 HI.out.2.1 HI.out.2.2.1 HI.out.2.2.2 rfl (by omega) (.slice V m cv) m (encNum.flat (ltL d xs e f k)) rfl (by unfold SOwn at hOa; rw [HM.out] at hOa; exact hOa) ⟨wr.heap.size, 0, none⟩ 1 1 (encNum.enc (k : Int)) rfl rfl (new_enc _ (k : Int) _) (encNum.one _) (by omega) (by simp only [maxLen]; omega) (by omega) (by simp; omega) _ rfl ?_; intro g5 cap5 w5 hown5 hgr5 hat5 hlt5)
          have hB5 := SOwn.below_grown (n := m) (hOa.mono (base' := w.heap.size) (by omega)) (hB.alloc hB.size _) hgr5
          have hP5 := blk_grownY (blk_old hP1 _) hgr5 (SOwn.ne_lowY hOa (n := m) (by omega))
          have hZ5 := hZa.grown_far hgr5 (fun g9 e9 => by cases e9; exact SOwn.ne_lowY hOa (n := m) (by omega))
          have hn5 : nb ≤ w5.heap.size := Nat.le_trans (by simp; omega) hgr5.size
          go_wp2_with fail
          go_roundw
          case rel =>
            have hsn := SOwn.snoc (E := encNum) (xs := ltL d xs e f k) (x := (k : Int)) (by rw [HM.out]; exact hown5)
            rw [← HE.out] at hsn
            exact ⟨k + 1, m + 1, some ⟨g5, 0, none⟩, cap5, by omega, by omega, Lib.hid (by rw [HE.out]; simp [HM.out]), by go_num, rfl, hsn, hZ5, hP5, hn5, hB5⟩
          case measure => simp [intOf]; omega
      · obtain rfl : k = n := by omega
        go_wp2_with fail
        go_ret
        exact ⟨V, cv, ret_sliceY (by rw [HN.out]; exact HM.out.symm), by rw [HN.out]; exact hO.mono (by omega), hB⟩
set_option maxRecDepth 100000 in
set_option maxHeartbeats 4000000 in
theorem sLc_any (d : Int) (A : Option Addr) (cap : Nat) (xs : List Int) (e f : Int) {n : Nat} (w : World) (hn : xs.length = n) (h : SRow encNum w A xs) (hl : n ≤ 2000000) :
    Calls Try.prog 29 #[.agg #[.int .i64 d, .slice A n cap], .int .i64 e, .int .i64 f] w fun E w' => NumRetY (liL d xs e f) w E w' := by
  obtain ⟨i0, hi0, hz0, hz1, hz2⟩ := info_parts infoNum
  have HI := Lib.hid (And.intro hi0 (And.intro hz0 (And.intro hz1 hz2)))
  clear hi0 hz0 hz1 hz2
  cases hok : okB d xs e f
  · have HOK := Lib.hid hok
    rw [li_no hok]
    have HN := Lib.hid hn
    clear hn hok
    go_enter Try.func29, Try.ntmps29
    go_wp2_with fail
    go_loopw [7, 8] (fun v i wr => ∃ (k m : Nat) (V : Option Addr) (cv : Nat), k ≤ 0 ∧ m ≤ k ∧ Hid ((([] : List Int)).length = m) ∧ i = .int .i64 k ∧ v = .slice V m cv ∧ SOwn encNum wr (w.heap.size + 1) 3 V cv (([] : List Int)) ∧ wr.heap[w.heap.size]? = some (.cells #[.int .i64 d, .slice A n cap] 25 (0, 0)) ∧ Below w.heap.size w wr) (fun _ i _ => (n - intOf i).toNat)
    case atStart => exact ⟨0, 0, some ⟨w.heap.size + 1, 0, none⟩, 0, by omega, by omega, (by show _ = _; rfl), rfl, rfl, SOwn.empty (new2 w _ _) (Nat.le_refl _), blk_old (blk_new w _) _, bel2 w _ _⟩
    case round =>
      obtain ⟨k, m, V, cv, k1, mk, HM, rfl, rfl, hO, hP1, hB⟩ := hrel
      obtain ⟨p0, p1, f0, f1, zp⟩ := blk2 hP1
      obtain rfl : k = 0 := by omega
      obtain rfl : m = 0 := by omega
      by_cases hlt : 0 < n
      · have hki : (0 : Int) < (n : Int) := by omega
        go_wp2_with fail
        refine (sOk_is d A cap xs e f _ HN.out (h.next hB) hl HOK.out).mono ?_; rintro E w1 ⟨rfl, hw1⟩
        have hP2 := blk_next hP1 hw1
        have hO2 := hO.next hw1
        have hB2 := bel_next hB hw1
        clear p0 p1 f0 f1
        obtain ⟨p0, p1, f0, f1, _⟩ := blk2 hP2
        go_wp2
        go_ret
        exact ⟨V, cv, rfl, hO2.mono (by omega), hB2⟩
      · have hki : ¬ (0 : Int) < (n : Int) := by omega
        go_wp2_with fail
        go_ret
        exact ⟨V, cv, rfl, hO.mono (by omega), hB⟩
  · rw [li_yes hok]
    have h1 := (okB_iff.1 hok).1
    have hn36 : n ≤ 36 := by have := cv_len h1; omega
    have HDA := Lib.hid (fun (k : Nat) (hk : k < xs.length) => da_yes (c := (k : Int)) hok (by unfold ceB; simp; omega))
    have HOK := Lib.hid hok
    have HN := Lib.hid hn
    clear hok hn h1
    go_enter Try.func29, Try.ntmps29
    go_wp2_with fail
    go_loopw [7, 8] (fun v i wr => ∃ (k m : Nat) (V : Option Addr) (cv : Nat), k ≤ n ∧ m ≤ k ∧ Hid ((ltL d xs e f k).length = m) ∧ i = .int .i64 k ∧ v = .slice V m cv ∧ SOwn encNum wr (w.heap.size + 1) 3 V cv (ltL d xs e f k) ∧ wr.heap[w.heap.size]? = some (.cells #[.int .i64 d, .slice A n cap] 25 (0, 0)) ∧ Below w.heap.size w wr) (fun _ i _ => (n - intOf i).toNat)
    case atStart => exact ⟨0, 0, some ⟨w.heap.size + 1, 0, none⟩, 0, by omega, by omega, (by show _ = _; rfl), rfl, rfl, SOwn.empty (new2 w _ _) (Nat.le_refl _), blk_old (blk_new w _) _, bel2 w _ _⟩
    case round =>
      obtain ⟨k, m, V, cv, k1, mk, HM, rfl, rfl, hO, hP1, hB⟩ := hrel
      obtain ⟨p0, p1, f0, f1, zp⟩ := blk2 hP1
      by_cases hlt : k < n
      · have hk : k < xs.length := by rw [HN.out]; exact hlt
        have hki : (k : Int) < (n : Int) := by omega
        go_wp2_with fail
        refine (sOk_is d A cap xs e f _ HN.out (h.next hB) hl HOK.out).mono ?_; rintro E w1 ⟨rfl, hw1⟩
        have hP2 := blk_next hP1 hw1
        have hO2 := hO.next hw1
        have hB2 := bel_next hB hw1
        clear p0 p1 f0 f1
        obtain ⟨p0, p1, f0, f1, _⟩ := blk2 hP2
        obtain ⟨v, hv⟩ : ∃ v, dkB d xs e f (k : Int) = v := ⟨_, rfl⟩
        have HV := Lib.hid hv
        have HDV := Lib.hid ((HDA.out k hk).trans hv)
        clear hv
        go_wp2_with fail
        refine (sDk_is d A cap xs (k : Int) e f _ HN.out (h.next hB2) hl HDV.out).mono ?_; rintro E w3 ⟨rfl, hw3⟩
        have hO3 := hO2.next hw3
        have hP3 := blk_next hP2 hw3
        have hB3 := bel_next hB2 hw3
        cases v
        · have he := ltL_yes HV.out
          have HE := Lib.hid he
          clear he
          have hOa := hO3.alloc (.cells (encNum.enc (k : Int)).toArray 3)
          have hcp := hB3.size
          have hzP := blk_lt hP3
          go_wp2_with (at_builtin; refine wpList_append_lies _ rfl (.tmp 29) (.tmp 31) _ rfl (w.heap.size + 1) 3 i0 _ 1 8 Try.underlying23 HI.out.1 HI.out.2.1 HI.out.2.2.1 HI.out.2.2.2 rfl (by omega) (.slice V m cv) m (encNum.flat (ltL d xs e f k)) rfl (by unfold SOwn at hOa; rw [HM.out] at hOa; exact hOa) ⟨w3.heap.size, 0, none⟩ 1 1 (encNum.enc (k : Int)) rfl rfl (new_enc _ (k : Int) _) (encNum.one _) (by omega) (by simp only [maxLen]; omega) (by omega) (by simp; omega) _ rfl ?_; intro g5 cap5 w5 hown5 hgr5 hat5 hlt5)
          have hB5 := SOwn.below_grown (n := m) (hOa.mono (base' := w.heap.size) (by omega)) (hB3.alloc hB3.size _) hgr5
          have hP5 := blk_grownY (blk_old hP3 _) hgr5 (SOwn.ne_lowY hOa (n := m) (by omega))
          go_wp2_with fail
          go_roundw
          case rel =>
            have hsn := SOwn.snoc (E := encNum) (xs := ltL d xs e f k) (x := (k : Int)) (by rw [HM.out]; exact hown5)
            rw [← HE.out] at hsn
            exact ⟨k + 1, m + 1, some ⟨g5, 0, none⟩, cap5, by omega, by omega, Lib.hid (by rw [HE.out]; simp [HM.out]), by go_num, rfl, hsn, hP5, hB5⟩
          case measure => simp [intOf]; omega
        · have he := ltL_no HV.out
          have HE := Lib.hid he
          clear he
          go_wp2_with fail
          go_roundw
          case rel => exact ⟨k + 1, m, V, cv, by omega, by omega, Lib.hid (by rw [HE.out]; exact HM.out), by go_num, rfl, by rw [HE.out]; exact hO3, hP3, hB3⟩
          case measure => simp [intOf]; omega
      · obtain rfl : k = n := by omega
        go_wp2_with fail
        go_ret
        exact ⟨V, cv, ret_sliceY (by rw [HN.out]; exact HM.out.symm), by rw [HN.out]; exact hO.mono (by omega), hB⟩
theorem iLc_is (d : Int) (A : Option Addr) (cap : Nat) (xs : List Int) (e f : Int) {l : List Int} {n : Nat} (w : World) (hn : xs.length = n) (h : SRow encNum w A xs) (hl : n ≤ 2000000) (hr : liL d xs e f = l) : Calls Try.prog 28 #[.agg #[.int .i64 d, .slice A n cap], .int .i64 e, .int .i64 f] w (NumRetY l w) := by subst hr; exact iLc_any d A cap xs e f w hn h hl
theorem sLc_is (d : Int) (A : Option Addr) (cap : Nat) (xs : List Int) (e f : Int) {l : List Int} {n : Nat} (w : World) (hn : xs.length = n) (h : SRow encNum w A xs) (hl : n ≤ 2000000) (hr : liL d xs e f = l) : Calls Try.prog 29 #[.agg #[.int .i64 d, .slice A n cap], .int .i64 e, .int .i64 f] w (NumRetY l w) := by subst hr; exact sLc_any d A cap xs e f w hn h hl
theorem iSh_is (d : Int) (A : Option Addr) (cap : Nat) (xs : List Int) (e f : Int) {l : List Int} {n : Nat} (w : World) (hn : xs.length = n) (h : SRow encNum w A xs) (hl : n ≤ 2000000) (hr : shL d xs e f = l) : Calls Try.prog 22 #[.agg #[.int .i64 d, .slice A n cap], .int .i64 e, .int .i64 f] w (NumRetY l w) := by subst hr; exact (iSh_any d A cap xs e f w hn h hl).mono fun _ _ ⟨Z, c, he, h1, _, h2⟩ => ⟨Z, c, he, h1, h2⟩
theorem sSh_is (d : Int) (A : Option Addr) (cap : Nat) (xs : List Int) (e f : Int) {l : List Int} {n : Nat} (w : World) (hn : xs.length = n) (h : SRow encNum w A xs) (hl : n ≤ 2000000) (hr : shL d xs e f = l) : Calls Try.prog 26 #[.agg #[.int .i64 d, .slice A n cap], .int .i64 e, .int .i64 f] w (NumRetY l w) := by subst hr; exact sSh_any d A cap xs e f w hn h hl
theorem shL_le (d : Int) (xs : List Int) (e f : Int) : (shL d xs e f).length ≤ xs.length := by unfold shL; split; rw [mk_len]; exact Nat.le_refl _; simp
end Go.Proofs.Ytidppabconifkaa
