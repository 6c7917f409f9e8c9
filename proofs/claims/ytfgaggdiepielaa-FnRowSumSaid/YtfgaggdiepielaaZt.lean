/- Contracts of chapter 7: tables of rows, the greatest sum, the best places. -/
import Derived.Test.YtfgaggdiepielaaZr
import Derived.Laws.AppendOwn
namespace Go.Proofs.Ytfgaggdiepielaa
open Go Go.ChangeShapes Go.WideShapes Go.ChangeAt Go.RowKit
set_option linter.unusedSimpArgs false
set_option linter.unusedVariables false

def AnyW7 (w : World) : Prop := 0 ≤ w.heap.size
theorem AnyW7.mk {w : World} : AnyW7 w := Nat.zero_le _
/-- The table from the back. -/
def tbB (xs : List Int) (k : Nat) : List Int := (List.range (xs.length + 2)).map fun i => if i < k then 0 else bk (xs.drop i)
theorem tbB_len (xs : List Int) (k : Nat) : (tbB xs k).length = xs.length + 2 := by simp [tbB]
theorem tbB_at (xs : List Int) {k i : Nat} (h : i < (tbB xs k).length) (hk : k ≤ i) : (tbB xs k)[i] = bk (xs.drop i) := by simp [tbB]; omega
theorem tbB_start (xs : List Int) : tbB xs xs.length = List.replicate (xs.length + 2) 0 := by
  apply List.ext_getElem
  · simp [tbB]
  · intro i h1 h2
    simp only [tbB, List.getElem_map, List.getElem_range, List.getElem_replicate]
    split
    · rfl
    · exact bk_drop_end (by omega)
theorem tbB_step (xs : List Int) {k : Nat} (hk : k < xs.length) : (tbB xs (k + 1)).set k (bk (xs.drop k)) = tbB xs k := by
  apply List.ext_getElem
  · simp [tbB]
  · intro i h1 h2
    by_cases e : i = k
    · subst e; simp [tbB]
    · rw [List.getElem_set_ne (by omega)]
      simp only [tbB, List.getElem_map, List.getElem_range]
      by_cases h3 : i < k
      · rw [if_pos h3, if_pos (by omega)]
      · rw [if_neg h3, if_neg (by omega)]
/-- The table from the front. -/
def tbF (xs : List Int) (k : Nat) : List Int := (List.range (k + 1)).map fun i => bk (xs.take i)
theorem tbF_len (xs : List Int) (k : Nat) : (tbF xs k).length = k + 1 := by simp [tbF]
theorem tbF_at (xs : List Int) {k i : Nat} (h : i < (tbF xs k).length) : (tbF xs k)[i] = bk (xs.take i) := by simp [tbF]
theorem tbF_zero (xs : List Int) : tbF xs 0 = [0] := by simp [tbF, bk_nil]
theorem tbF_step (xs : List Int) (k : Nat) : tbF xs (k + 1) = tbF xs k ++ [bk (xs.take (k + 1))] := by
  unfold tbF; rw [List.range_succ (n := k + 1), List.map_append]; rfl
theorem bk_take_bd {xs : List Int} (h : rwB xs = true) (k : Nat) : 0 ≤ bk (xs.take k) ∧ bk (xs.take k) ≤ 500 := by
  have h1 := bk_bd (xs.take k) (fun x hx => (rwB_iff.1 h).2 x (List.mem_of_mem_take hx))
  have h2 := (rwB_iff.1 h).1
  have h3 := bk_nn (xs.take k)
  rw [List.length_take] at h1
  omega
theorem bk_drop_bd {xs : List Int} (h : rwB xs = true) (k : Nat) : 0 ≤ bk (xs.drop k) ∧ bk (xs.drop k) ≤ 500 := by
  have h1 := bk_bd (xs.drop k) (fun x hx => (rwB_iff.1 h).2 x (List.mem_of_mem_drop hx))
  have h2 := (rwB_iff.1 h).1
  have h3 := bk_nn (xs.drop k)
  rw [List.length_drop] at h1
  omega
theorem rwB_drop {xs : List Int} (h : rwB xs = true) (k : Nat) : rwB (xs.drop k) = true := by
  rw [rwB_iff] at h ⊢
  exact ⟨by rw [List.length_drop]; omega, fun x hx => h.2 x (List.mem_of_mem_drop hx)⟩
def NumsRet7 (l : List Int) (w : World) (e : Ending) (w' : World) : Prop := ∃ (A : Option Addr) (cap : Nat), e = .returned (.slice A l.length cap) ∧ SOwn encNum w' w.heap.size 3 A cap l ∧ Below w.heap.size w w'
def TabRet (l : List Int) (w : World) (e : Ending) (w' : World) : Prop := ∃ (g cap : Nat), e = .returned (.slice (some ⟨g, 0, none⟩) l.length cap) ∧ SOwn encNum w' w.heap.size 3 (some ⟨g, 0, none⟩) cap l ∧ Below w.heap.size w w'
theorem ret_slice7 {A : Option Addr} {n m c : Nat} (h : n = m) : Ending.returned (.slice A n c) = .returned (.slice A m c) := by rw [h]
theorem SRow.drop7 {α : Type} {E : Enc α} {w : World} {b off : Nat} {xs : List α} (h : SRow E w (some ⟨b, off, none⟩) xs) (k : Nat) : SRow E w (some ⟨b, off + k * E.k, none⟩) (xs.drop k) := by
  rcases h with h | ⟨b', off', e, hc⟩
  · left; rw [h]; simp
  · simp only [Option.some.injEq, Addr.mk.injEq, and_true] at e
    obtain ⟨rfl, rfl⟩ := e
    refine .inr ⟨b, off + k * E.k, rfl, fun i hi j v hv => ?_⟩
    have hi2 : k + i < xs.length := by rw [List.length_drop] at hi; omega
    rw [List.getElem_drop] at hv
    have := hc (k + i) hi2 j v hv
    rw [show off + k * E.k + (i * E.k + j) = off + ((k + i) * E.k + j) by rw [Nat.add_mul]; omega]
    exact this
set_option maxRecDepth 100000 in
set_option maxHeartbeats 4000000 in
theorem iTb_any (A : Option Addr) (cap : Nat) (xs : List Int) {n : Nat} (w : World) (hn : xs.length = n) (h : SRow encNum w A xs) (hl : n ≤ 10) (hv : rwB xs = true) :
    Calls Try.prog 53 #[.slice A n cap] w fun E w' => TabRet (tbF xs xs.length) w E w' := by
  obtain ⟨i0, hi0, hz0, hz1, hz2⟩ := info_parts infoNum
  have HI := Lib.hid (And.intro hi0 (And.intro hz0 (And.intro hz1 hz2)))
  clear hi0 hz0 hz1 hz2
  have HN := Lib.hid hn
  have HV := Lib.hid hv
  clear hn hv
  go_enter Try.func53, Try.ntmps53
  go_wp2_with fail
  go_loopw [3, 9] (fun v i wr => ∃ (k m g cv : Nat), k ≤ n ∧ m = k + 1 ∧ i = .int .i64 k ∧ v = .slice (some ⟨g, 0, none⟩) m cv ∧ SOwn encNum wr w.heap.size 3 (some ⟨g, 0, none⟩) cv (tbF xs k) ∧ Below w.heap.size w wr) (fun _ i _ => (n - intOf i).toNat)
  case atStart => exact ⟨0, 1, _, 1, by omega, rfl, rfl, rfl, by rw [tbF_zero]; exact SOwn.of_blk (E := encNum) (n := 1) (blk_new w (.cells #[.int .i64 0] 3)) (Nat.le_refl _) rfl (by simp [maxLen]), bel1 w _⟩
  case round =>
    obtain ⟨k, m, g, cv, k1, mk, rfl, rfl, hO, hB⟩ := hrel
    by_cases hlt : k < n
    · have hk : k < xs.length := by rw [HN.out]; exact hlt
      have hki : (k : Int) < (n : Int) := by omega
      have HM : Hid ((tbF xs k).length = m) := Lib.hid (by rw [tbF_len, mk])
      obtain ⟨b, off, rfl, hb, c0⟩ := rowNum (h.next hB) hk
      obtain ⟨j, hj⟩ : ∃ j, k - 1 = j := ⟨_, rfl⟩
      have d0 := ownNum (i := k) hO (by rw [tbF_len]; omega)
      have e0 := ownNum (i := j) hO (by rw [tbF_len]; omega)
      rw [tbF_at] at d0 e0
      have HS : Hid (bk (xs.take (k + 1)) = max (bk (xs.take k)) (bk (xs.take j) + xs[k])) := Lib.hid (by rw [bk_take1 hk, hj])
      have HT := Lib.hid (tbF_step xs k)
      obtain ⟨p0, p1⟩ := bk_take_bd HV.out k
      obtain ⟨q0, q1⟩ := bk_take_bd HV.out j
      obtain ⟨v0, v1⟩ := rwB_at HV.out hk
      generalize bk (xs.take (k + 1)) = z at HS HT
      generalize bk (xs.take k) = p at d0 HS p0 p1
      generalize bk (xs.take j) = q at e0 HS q0 q1
      generalize xs[k] = v at c0 HS v0 v1
      have hkm : (k : Int) < (m : Int) := by omega
      have hjm : (j : Int) < (m : Int) := by omega
      have hm11 : m ≤ 11 := by omega
      have MK := Lib.hid mk
      clear mk
      have hz : max ((k : Int) - 1) 0 = (j : Int) := by omega
      have hz9 : IntKind.i64.wrap (IntKind.i64.wrap ((k : Int) + 1) - 2) = (k : Int) - 1 := by rw [IntWalk.i64_in ((k : Int) + 1) (by omega), IntWalk.i64_in _ (by omega)]; omega
      have hw1 : IntKind.i64.wrap ((k : Int) + 1) = (k : Int) + 1 := IntWalk.i64_in _ (by omega)
      have hw2 : IntKind.i64.wrap ((k : Int) + 1 - 2) = (k : Int) - 1 := by rw [IntWalk.i64_in _ (by omega)]; omega
      have hw3 : IntKind.i64.wrap (q + v) = q + v := IntWalk.i64_in _ (by omega)
      have hzz : max p (q + v) = z := HS.out.symm
      clear hj
      by_cases hk0 : (k : Int) - 1 < 0
      · obtain rfl : j = 0 := by omega
        have hm0 : (0 : Int) < (m : Int) := by omega
        have hm00 : 0 < m := by omega
        have hk00 : ¬ (0 : Int) < (k : Int) - 1 := by omega
        by_cases hpq : p < q + v
        · obtain rfl : z = q + v := by omega
          clear hzz
          go_wp2_with fail
          refine wp_region_held_drew (S := AnyW7) (by kernel_rfl) AnyW7.mk (fun hHeld => ?_)
          clear hHeld
          refine wpAnyH_take (i := 0) (oi := _) (v := ?_) rfl (by kernel_rfl) (by kernel_rfl) (by kernel_rfl) (fun _ _ _ h => h) (Or.inl ⟨by rfl, ?_⟩) AnyW7.mk ?_
          (rotate_left); (focus (intro wv hSw; clear hSw; go_simp; (try with_reducible rfl)))
          try simp only [Act.put, List.getElem_toArray, List.getElem_cons_succ, List.getElem_cons_zero, List.setIfInBounds_toArray, List.set_cons_zero, List.set_cons_succ]
          refine wpAnyH_take (i := 1) (oi := _) (v := ?_) rfl (by kernel_rfl) (by kernel_rfl) (by kernel_rfl) (fun _ _ _ h => h) (Or.inl ⟨by rfl, ?_⟩) AnyW7.mk ?_
          (rotate_left); (focus (intro wv hSw; clear hSw; go_simp; (try with_reducible rfl)))
          try simp only [Act.put, List.getElem_toArray, List.getElem_cons_succ, List.getElem_cons_zero, List.setIfInBounds_toArray, List.set_cons_zero, List.set_cons_succ]
          refine wpAnyH_take (i := 2) (oi := _) (v := ?_) rfl (by kernel_rfl) (by kernel_rfl) (by kernel_rfl) (fun _ _ _ h => h) (Or.inl ⟨by rfl, ?_⟩) AnyW7.mk ?_
          (rotate_left); (focus (intro wv hSw; clear hSw; go_simp; (try with_reducible rfl)))
          try simp only [Act.put, List.getElem_toArray, List.getElem_cons_succ, List.getElem_cons_zero, List.setIfInBounds_toArray, List.set_cons_zero, List.set_cons_succ]
          refine wpAnyH_take (i := 3) (oi := _) (v := ?_) rfl (by kernel_rfl) (by kernel_rfl) (by kernel_rfl) (fun _ _ _ h => h) (Or.inl ⟨by rfl, ?_⟩) AnyW7.mk ?_
          (rotate_left); (focus (intro wv hSw; clear hSw; go_simp; (try with_reducible rfl)))
          try simp only [Act.put, List.getElem_toArray, List.getElem_cons_succ, List.getElem_cons_zero, List.setIfInBounds_toArray, List.set_cons_zero, List.set_cons_succ]
          refine wpAnyH_take (i := 5) (oi := _) (v := ?_) rfl (by kernel_rfl) (by kernel_rfl) (by kernel_rfl) (fun _ _ _ h => h) (Or.inl ⟨by rfl, ?_⟩) AnyW7.mk ?_
          (rotate_left); (focus (intro wv hSw; clear hSw; go_simp; (try with_reducible rfl)))
          try simp only [Act.put, List.getElem_toArray, List.getElem_cons_succ, List.getElem_cons_zero, List.setIfInBounds_toArray, List.set_cons_zero, List.set_cons_succ]
          refine wpAnyH_take (i := 6) (oi := _) (v := ?_) rfl (by kernel_rfl) (by kernel_rfl) (by kernel_rfl) (fun _ _ _ h => h) (Or.inl ⟨by rfl, ?_⟩) AnyW7.mk ?_
          (rotate_left); (focus (intro wv hSw; clear hSw; go_simp; (try with_reducible rfl)))
          try simp only [Act.put, List.getElem_toArray, List.getElem_cons_succ, List.getElem_cons_zero, List.setIfInBounds_toArray, List.set_cons_zero, List.set_cons_succ]
          refine wpAnyH_take (i := 7) (oi := _) (v := ?_) rfl (by kernel_rfl) (by kernel_rfl) (by kernel_rfl) (fun _ _ _ h => h) (Or.inl ⟨by rfl, ?_⟩) AnyW7.mk ?_
          (rotate_left); (focus (intro wv hSw; clear hSw; go_simp; (try with_reducible rfl)))
          try simp only [Act.put, List.getElem_toArray, List.getElem_cons_succ, List.getElem_cons_zero, List.setIfInBounds_toArray, List.set_cons_zero, List.set_cons_succ]
          refine wpAnyH_take (i := 8) (oi := _) (v := ?_) rfl (by kernel_rfl) (by kernel_rfl) (by kernel_rfl) (fun _ _ _ h => h) (Or.inl ⟨by rfl, ?_⟩) AnyW7.mk ?_
          (rotate_left); (focus (intro wv hSw; clear hSw; go_simp; (try with_reducible rfl)))
          try simp only [Act.put, List.getElem_toArray, List.getElem_cons_succ, List.getElem_cons_zero, List.setIfInBounds_toArray, List.set_cons_zero, List.set_cons_succ]
          refine wpAnyH_take (i := 9) (oi := _) (v := ?_) rfl (by kernel_rfl) (by kernel_rfl) (by kernel_rfl) (fun _ _ _ h => h) (Or.inl ⟨by rfl, ?_⟩) AnyW7.mk ?_
          (rotate_left); (focus (intro wv hSw; clear hSw; go_simp; (try with_reducible rfl)))
          try simp only [Act.put, List.getElem_toArray, List.getElem_cons_succ, List.getElem_cons_zero, List.setIfInBounds_toArray, List.set_cons_zero, List.set_cons_succ]
          refine wpAnyH_take (i := 10) (oi := _) (v := ?_) rfl (by kernel_rfl) (by kernel_rfl) (by kernel_rfl) (fun _ _ _ h => h) (Or.inl ⟨by rfl, ?_⟩) AnyW7.mk ?_
          (rotate_left); (focus (intro wv hSw; clear hSw; go_simp; (try with_reducible rfl)))
          try simp only [Act.put, List.getElem_toArray, List.getElem_cons_succ, List.getElem_cons_zero, List.setIfInBounds_toArray, List.set_cons_zero, List.set_cons_succ]
          refine wpAnyH_take (i := 12) (oi := _) (v := ?_) rfl (by kernel_rfl) (by kernel_rfl) (by kernel_rfl) (fun _ _ _ h => h) (Or.inl ⟨by rfl, ?_⟩) AnyW7.mk ?_
          (rotate_left); (focus (intro wv hSw; clear hSw; go_simp; (try with_reducible rfl)))
          try simp only [Act.put, List.getElem_toArray, List.getElem_cons_succ, List.getElem_cons_zero, List.setIfInBounds_toArray, List.set_cons_zero, List.set_cons_succ]
          refine wpAnyH_ready (rs := [4, 11]) (by kernel_rfl) (by simp) ?_
          refine AllReadyH.cons (o := _) rfl (fun K hK => ?_) (AllReadyH.cons (o := _) rfl (fun K hK => ?_) (AllReadyH.nil))
          · go_simp
            refine hK.out _ _ AnyW7.mk (fun hHeld => ?_)
            clear hHeld hK K
            try simp only [Act.put, List.getElem_toArray, List.getElem_cons_succ, List.getElem_cons_zero, List.setIfInBounds_toArray, List.set_cons_zero, List.set_cons_succ]
            refine wpAnyH_ready (rs := [11]) (by kernel_rfl) (by simp) ?_
            refine AllReadyH.cons (o := _) rfl (fun K hK => ?_) (AllReadyH.nil)
            go_simp
            refine hK.out _ _ AnyW7.mk (fun hHeld => ?_)
            clear hHeld hK K
            try simp only [Act.put, List.getElem_toArray, List.getElem_cons_succ, List.getElem_cons_zero, List.setIfInBounds_toArray, List.set_cons_zero, List.set_cons_succ]
            refine wpAnyH_take (i := 13) (oi := _) (v := ?_) rfl (by kernel_rfl) (by kernel_rfl) (by kernel_rfl) (fun _ _ _ h => h) (Or.inl ⟨by rfl, ?_⟩) AnyW7.mk ?_
            (rotate_left); (focus (intro wv hSw; clear hSw; go_simp; (try with_reducible rfl)))
            try simp only [Act.put, List.getElem_toArray, List.getElem_cons_succ, List.getElem_cons_zero, List.setIfInBounds_toArray, List.set_cons_zero, List.set_cons_succ]
            refine wpAnyH_take (i := 14) (oi := _) (v := ?_) rfl (by kernel_rfl) (by kernel_rfl) (by kernel_rfl) (fun _ _ _ h => h) (Or.inl ⟨by rfl, ?_⟩) AnyW7.mk ?_
            (rotate_left); (focus (intro wv hSw; clear hSw; go_simp; (try with_reducible rfl)))
            try simp only [Act.put, List.getElem_toArray, List.getElem_cons_succ, List.getElem_cons_zero, List.setIfInBounds_toArray, List.set_cons_zero, List.set_cons_succ]
            have hOa := (hO.alloc (.cells (encNum.enc (q + v)).toArray 3)).drew
            refine wpAnyH_ready (rs := [15]) (by kernel_rfl) (by simp) ?_
            refine AllReadyH.cons (o := _) rfl (fun K hK => ?_) (AllReadyH.nil)
            go_simp
            refine hK.out _ _ AnyW7.mk (fun hHeld => ?_)
            clear hHeld hK K
            try simp only [Act.put, List.getElem_toArray, List.getElem_cons_succ, List.getElem_cons_zero, List.setIfInBounds_toArray, List.set_cons_zero, List.set_cons_succ]
            refine wpAnyH_ready (rs := [16]) (by kernel_rfl) (by simp) ?_
            refine AllReadyH.cons (o := _) rfl (fun K hK => ?_) (AllReadyH.nil)
            rw [if_pos (by kernel_rfl)]
            refine wp_append_lies _ (.tmp 14) (.tmp 29) _ rfl w.heap.size 3 i0 _ 1 8 Try.underlying38 HI.out.1 HI.out.2.1 HI.out.2.2.1 HI.out.2.2.2 rfl (by omega) (.slice (some ⟨g, 0, none⟩) m cv) m (encNum.flat (tbF xs k)) rfl (by unfold SOwn at hOa; rw [HM.out] at hOa; exact hOa) ⟨wr.heap.size, 0, none⟩ 1 1 (encNum.enc (q + v)) rfl rfl (new_enc (E := encNum) wr (q + v) _) (encNum.one _) (by omega) (by simp only [maxLen]; omega) (by omega) (by have := hB.size; simp; omega) _ rfl ?_
            intro g5 cap5 w5 hown5 hgr5 hat5 hlt5
            have hB5 := SOwn.below_grown (n := m) hOa (hB.alloc hB.size (.cells (encNum.enc (q + v)).toArray 3)).drew hgr5
            refine hK.out _ _ AnyW7.mk (fun hHeld => ?_)
            clear hHeld hK K
            try simp only [Act.put, List.getElem_toArray, List.getElem_cons_succ, List.getElem_cons_zero, List.setIfInBounds_toArray, List.set_cons_zero, List.set_cons_succ]
            refine wpAnyH_take (i := 17) (oi := _) (v := ?_) rfl (by kernel_rfl) (by kernel_rfl) (by kernel_rfl) (fun _ _ _ h => h) (Or.inl ⟨by rfl, ?_⟩) AnyW7.mk ?_
            (rotate_left); (focus (intro wv hSw; clear hSw; go_simp; (try with_reducible rfl)))
            try simp only [Act.put, List.getElem_toArray, List.getElem_cons_succ, List.getElem_cons_zero, List.setIfInBounds_toArray, List.set_cons_zero, List.set_cons_succ]
            refine wpAnyH_done (by kernel_rfl) ?_ _
            go_wp2_with fail
            go_roundw
            case rel =>
              have hsn := SOwn.snoc (E := encNum) (xs := tbF xs k) (x := q + v) (by rw [HM.out]; exact hown5)
              rw [← HT.out] at hsn
              exact ⟨k + 1, m + 1, g5, cap5, by omega, by rw [MK.out], by go_num, rfl, hsn, hB5⟩
            case measure => simp [intOf]; omega
          · go_simp
            refine hK.out _ _ AnyW7.mk (fun hHeld => ?_)
            clear hHeld hK K
            try simp only [Act.put, List.getElem_toArray, List.getElem_cons_succ, List.getElem_cons_zero, List.setIfInBounds_toArray, List.set_cons_zero, List.set_cons_succ]
            refine wpAnyH_take (i := 13) (oi := _) (v := ?_) rfl (by kernel_rfl) (by kernel_rfl) (by kernel_rfl) (fun _ _ _ h => h) (Or.inl ⟨by rfl, ?_⟩) AnyW7.mk ?_
            (rotate_left); (focus (intro wv hSw; clear hSw; go_simp; (try with_reducible rfl)))
            try simp only [Act.put, List.getElem_toArray, List.getElem_cons_succ, List.getElem_cons_zero, List.setIfInBounds_toArray, List.set_cons_zero, List.set_cons_succ]
            refine wpAnyH_ready (rs := [4]) (by kernel_rfl) (by simp) ?_
            refine AllReadyH.cons (o := _) rfl (fun K hK => ?_) (AllReadyH.nil)
            go_simp
            refine hK.out _ _ AnyW7.mk (fun hHeld => ?_)
            clear hHeld hK K
            try simp only [Act.put, List.getElem_toArray, List.getElem_cons_succ, List.getElem_cons_zero, List.setIfInBounds_toArray, List.set_cons_zero, List.set_cons_succ]
            refine wpAnyH_take (i := 14) (oi := _) (v := ?_) rfl (by kernel_rfl) (by kernel_rfl) (by kernel_rfl) (fun _ _ _ h => h) (Or.inl ⟨by rfl, ?_⟩) AnyW7.mk ?_
            (rotate_left); (focus (intro wv hSw; clear hSw; go_simp; (try with_reducible rfl)))
            try simp only [Act.put, List.getElem_toArray, List.getElem_cons_succ, List.getElem_cons_zero, List.setIfInBounds_toArray, List.set_cons_zero, List.set_cons_succ]
            have hOa := (hO.alloc (.cells (encNum.enc (q + v)).toArray 3)).drew
            refine wpAnyH_ready (rs := [15]) (by kernel_rfl) (by simp) ?_
            refine AllReadyH.cons (o := _) rfl (fun K hK => ?_) (AllReadyH.nil)
            go_simp
            refine hK.out _ _ AnyW7.mk (fun hHeld => ?_)
            clear hHeld hK K
            try simp only [Act.put, List.getElem_toArray, List.getElem_cons_succ, List.getElem_cons_zero, List.setIfInBounds_toArray, List.set_cons_zero, List.set_cons_succ]
            refine wpAnyH_ready (rs := [16]) (by kernel_rfl) (by simp) ?_
            refine AllReadyH.cons (o := _) rfl (fun K hK => ?_) (AllReadyH.nil)
            rw [if_pos (by kernel_rfl)]
            refine wp_append_lies _ (.tmp 14) (.tmp 29) _ rfl w.heap.size 3 i0 _ 1 8 Try.underlying38 HI.out.1 HI.out.2.1 HI.out.2.2.1 HI.out.2.2.2 rfl (by omega) (.slice (some ⟨g, 0, none⟩) m cv) m (encNum.flat (tbF xs k)) rfl (by unfold SOwn at hOa; rw [HM.out] at hOa; exact hOa) ⟨wr.heap.size, 0, none⟩ 1 1 (encNum.enc (q + v)) rfl rfl (new_enc (E := encNum) wr (q + v) _) (encNum.one _) (by omega) (by simp only [maxLen]; omega) (by omega) (by have := hB.size; simp; omega) _ rfl ?_
            intro g5 cap5 w5 hown5 hgr5 hat5 hlt5
            have hB5 := SOwn.below_grown (n := m) hOa (hB.alloc hB.size (.cells (encNum.enc (q + v)).toArray 3)).drew hgr5
            refine hK.out _ _ AnyW7.mk (fun hHeld => ?_)
            clear hHeld hK K
            try simp only [Act.put, List.getElem_toArray, List.getElem_cons_succ, List.getElem_cons_zero, List.setIfInBounds_toArray, List.set_cons_zero, List.set_cons_succ]
            refine wpAnyH_take (i := 17) (oi := _) (v := ?_) rfl (by kernel_rfl) (by kernel_rfl) (by kernel_rfl) (fun _ _ _ h => h) (Or.inl ⟨by rfl, ?_⟩) AnyW7.mk ?_
            (rotate_left); (focus (intro wv hSw; clear hSw; go_simp; (try with_reducible rfl)))
            try simp only [Act.put, List.getElem_toArray, List.getElem_cons_succ, List.getElem_cons_zero, List.setIfInBounds_toArray, List.set_cons_zero, List.set_cons_succ]
            refine wpAnyH_done (by kernel_rfl) ?_ _
            go_wp2_with fail
            go_roundw
            case rel =>
              have hsn := SOwn.snoc (E := encNum) (xs := tbF xs k) (x := q + v) (by rw [HM.out]; exact hown5)
              rw [← HT.out] at hsn
              exact ⟨k + 1, m + 1, g5, cap5, by omega, by rw [MK.out], by go_num, rfl, hsn, hB5⟩
            case measure => simp [intOf]; omega
        · obtain rfl : z = p := by omega
          clear hzz
          have hif : (if z < q + v then q + v else z) = z := if_neg hpq
          go_wp2_with fail
          refine wp_region_held_drew (S := AnyW7) (by kernel_rfl) AnyW7.mk (fun hHeld => ?_)
          clear hHeld
          refine wpAnyH_take (i := 0) (oi := _) (v := ?_) rfl (by kernel_rfl) (by kernel_rfl) (by kernel_rfl) (fun _ _ _ h => h) (Or.inl ⟨by rfl, ?_⟩) AnyW7.mk ?_
          (rotate_left); (focus (intro wv hSw; clear hSw; go_simp; (try with_reducible rfl)))
          try simp only [Act.put, List.getElem_toArray, List.getElem_cons_succ, List.getElem_cons_zero, List.setIfInBounds_toArray, List.set_cons_zero, List.set_cons_succ]
          refine wpAnyH_take (i := 1) (oi := _) (v := ?_) rfl (by kernel_rfl) (by kernel_rfl) (by kernel_rfl) (fun _ _ _ h => h) (Or.inl ⟨by rfl, ?_⟩) AnyW7.mk ?_
          (rotate_left); (focus (intro wv hSw; clear hSw; go_simp; (try with_reducible rfl)))
          try simp only [Act.put, List.getElem_toArray, List.getElem_cons_succ, List.getElem_cons_zero, List.setIfInBounds_toArray, List.set_cons_zero, List.set_cons_succ]
          refine wpAnyH_take (i := 2) (oi := _) (v := ?_) rfl (by kernel_rfl) (by kernel_rfl) (by kernel_rfl) (fun _ _ _ h => h) (Or.inl ⟨by rfl, ?_⟩) AnyW7.mk ?_
          (rotate_left); (focus (intro wv hSw; clear hSw; go_simp; (try with_reducible rfl)))
          try simp only [Act.put, List.getElem_toArray, List.getElem_cons_succ, List.getElem_cons_zero, List.setIfInBounds_toArray, List.set_cons_zero, List.set_cons_succ]
          refine wpAnyH_take (i := 3) (oi := _) (v := ?_) rfl (by kernel_rfl) (by kernel_rfl) (by kernel_rfl) (fun _ _ _ h => h) (Or.inl ⟨by rfl, ?_⟩) AnyW7.mk ?_
          (rotate_left); (focus (intro wv hSw; clear hSw; go_simp; (try with_reducible rfl)))
          try simp only [Act.put, List.getElem_toArray, List.getElem_cons_succ, List.getElem_cons_zero, List.setIfInBounds_toArray, List.set_cons_zero, List.set_cons_succ]
          refine wpAnyH_take (i := 5) (oi := _) (v := ?_) rfl (by kernel_rfl) (by kernel_rfl) (by kernel_rfl) (fun _ _ _ h => h) (Or.inl ⟨by rfl, ?_⟩) AnyW7.mk ?_
          (rotate_left); (focus (intro wv hSw; clear hSw; go_simp; (try with_reducible rfl)))
          try simp only [Act.put, List.getElem_toArray, List.getElem_cons_succ, List.getElem_cons_zero, List.setIfInBounds_toArray, List.set_cons_zero, List.set_cons_succ]
          refine wpAnyH_take (i := 6) (oi := _) (v := ?_) rfl (by kernel_rfl) (by kernel_rfl) (by kernel_rfl) (fun _ _ _ h => h) (Or.inl ⟨by rfl, ?_⟩) AnyW7.mk ?_
          (rotate_left); (focus (intro wv hSw; clear hSw; go_simp; (try with_reducible rfl)))
          try simp only [Act.put, List.getElem_toArray, List.getElem_cons_succ, List.getElem_cons_zero, List.setIfInBounds_toArray, List.set_cons_zero, List.set_cons_succ]
          refine wpAnyH_take (i := 7) (oi := _) (v := ?_) rfl (by kernel_rfl) (by kernel_rfl) (by kernel_rfl) (fun _ _ _ h => h) (Or.inl ⟨by rfl, ?_⟩) AnyW7.mk ?_
          (rotate_left); (focus (intro wv hSw; clear hSw; go_simp; (try with_reducible rfl)))
          try simp only [Act.put, List.getElem_toArray, List.getElem_cons_succ, List.getElem_cons_zero, List.setIfInBounds_toArray, List.set_cons_zero, List.set_cons_succ]
          refine wpAnyH_take (i := 8) (oi := _) (v := ?_) rfl (by kernel_rfl) (by kernel_rfl) (by kernel_rfl) (fun _ _ _ h => h) (Or.inl ⟨by rfl, ?_⟩) AnyW7.mk ?_
          (rotate_left); (focus (intro wv hSw; clear hSw; go_simp; (try with_reducible rfl)))
          try simp only [Act.put, List.getElem_toArray, List.getElem_cons_succ, List.getElem_cons_zero, List.setIfInBounds_toArray, List.set_cons_zero, List.set_cons_succ]
          refine wpAnyH_take (i := 9) (oi := _) (v := ?_) rfl (by kernel_rfl) (by kernel_rfl) (by kernel_rfl) (fun _ _ _ h => h) (Or.inl ⟨by rfl, ?_⟩) AnyW7.mk ?_
          (rotate_left); (focus (intro wv hSw; clear hSw; go_simp; (try with_reducible rfl)))
          try simp only [Act.put, List.getElem_toArray, List.getElem_cons_succ, List.getElem_cons_zero, List.setIfInBounds_toArray, List.set_cons_zero, List.set_cons_succ]
          refine wpAnyH_take (i := 10) (oi := _) (v := ?_) rfl (by kernel_rfl) (by kernel_rfl) (by kernel_rfl) (fun _ _ _ h => h) (Or.inl ⟨by rfl, ?_⟩) AnyW7.mk ?_
          (rotate_left); (focus (intro wv hSw; clear hSw; go_simp; (try with_reducible rfl)))
          try simp only [Act.put, List.getElem_toArray, List.getElem_cons_succ, List.getElem_cons_zero, List.setIfInBounds_toArray, List.set_cons_zero, List.set_cons_succ]
          refine wpAnyH_take (i := 12) (oi := _) (v := ?_) rfl (by kernel_rfl) (by kernel_rfl) (by kernel_rfl) (fun _ _ _ h => h) (Or.inl ⟨by rfl, ?_⟩) AnyW7.mk ?_
          (rotate_left); (focus (intro wv hSw; clear hSw; go_simp; (try with_reducible rfl)))
          try simp only [Act.put, List.getElem_toArray, List.getElem_cons_succ, List.getElem_cons_zero, List.setIfInBounds_toArray, List.set_cons_zero, List.set_cons_succ]
          refine wpAnyH_ready (rs := [4, 11]) (by kernel_rfl) (by simp) ?_
          refine AllReadyH.cons (o := _) rfl (fun K hK => ?_) (AllReadyH.cons (o := _) rfl (fun K hK => ?_) (AllReadyH.nil))
          · go_simp
            refine hK.out _ _ AnyW7.mk (fun hHeld => ?_)
            clear hHeld hK K
            try simp only [Act.put, List.getElem_toArray, List.getElem_cons_succ, List.getElem_cons_zero, List.setIfInBounds_toArray, List.set_cons_zero, List.set_cons_succ]
            refine wpAnyH_ready (rs := [11]) (by kernel_rfl) (by simp) ?_
            refine AllReadyH.cons (o := _) rfl (fun K hK => ?_) (AllReadyH.nil)
            go_simp
            refine hK.out _ _ AnyW7.mk (fun hHeld => ?_)
            clear hHeld hK K
            try simp only [Act.put, List.getElem_toArray, List.getElem_cons_succ, List.getElem_cons_zero, List.setIfInBounds_toArray, List.set_cons_zero, List.set_cons_succ]
            refine wpAnyH_take (i := 13) (oi := _) (v := ?_) rfl (by kernel_rfl) (by kernel_rfl) (by kernel_rfl) (fun _ _ _ h => h) (Or.inl ⟨by rfl, ?_⟩) AnyW7.mk ?_
            (rotate_left); (focus (intro wv hSw; clear hSw; go_simp; (try with_reducible rfl)))
            try simp only [Act.put, List.getElem_toArray, List.getElem_cons_succ, List.getElem_cons_zero, List.setIfInBounds_toArray, List.set_cons_zero, List.set_cons_succ]
            refine wpAnyH_take (i := 14) (oi := _) (v := ?_) rfl (by kernel_rfl) (by kernel_rfl) (by kernel_rfl) (fun _ _ _ h => h) (Or.inl ⟨by rfl, ?_⟩) AnyW7.mk ?_
            (rotate_left); (focus (intro wv hSw; clear hSw; go_simp; (try with_reducible rfl)))
            try simp only [Act.put, List.getElem_toArray, List.getElem_cons_succ, List.getElem_cons_zero, List.setIfInBounds_toArray, List.set_cons_zero, List.set_cons_succ]
            have hOa := (hO.alloc (.cells (encNum.enc z).toArray 3)).drew
            refine wpAnyH_ready (rs := [15]) (by kernel_rfl) (by simp) ?_
            refine AllReadyH.cons (o := _) rfl (fun K hK => ?_) (AllReadyH.nil)
            go_simp
            refine hK.out _ _ AnyW7.mk (fun hHeld => ?_)
            clear hHeld hK K
            try simp only [Act.put, List.getElem_toArray, List.getElem_cons_succ, List.getElem_cons_zero, List.setIfInBounds_toArray, List.set_cons_zero, List.set_cons_succ]
            refine wpAnyH_ready (rs := [16]) (by kernel_rfl) (by simp) ?_
            refine AllReadyH.cons (o := _) rfl (fun K hK => ?_) (AllReadyH.nil)
            rw [if_pos (by kernel_rfl)]
            refine wp_append_lies _ (.tmp 14) (.tmp 29) _ rfl w.heap.size 3 i0 _ 1 8 Try.underlying38 HI.out.1 HI.out.2.1 HI.out.2.2.1 HI.out.2.2.2 rfl (by omega) (.slice (some ⟨g, 0, none⟩) m cv) m (encNum.flat (tbF xs k)) rfl (by unfold SOwn at hOa; rw [HM.out] at hOa; exact hOa) ⟨wr.heap.size, 0, none⟩ 1 1 (encNum.enc z) rfl rfl (new_enc (E := encNum) wr z _) (encNum.one _) (by omega) (by simp only [maxLen]; omega) (by omega) (by have := hB.size; simp; omega) _ rfl ?_
            intro g5 cap5 w5 hown5 hgr5 hat5 hlt5
            have hB5 := SOwn.below_grown (n := m) hOa (hB.alloc hB.size (.cells (encNum.enc z).toArray 3)).drew hgr5
            refine hK.out _ _ AnyW7.mk (fun hHeld => ?_)
            clear hHeld hK K
            try simp only [Act.put, List.getElem_toArray, List.getElem_cons_succ, List.getElem_cons_zero, List.setIfInBounds_toArray, List.set_cons_zero, List.set_cons_succ]
            refine wpAnyH_take (i := 17) (oi := _) (v := ?_) rfl (by kernel_rfl) (by kernel_rfl) (by kernel_rfl) (fun _ _ _ h => h) (Or.inl ⟨by rfl, ?_⟩) AnyW7.mk ?_
            (rotate_left); (focus (intro wv hSw; clear hSw; go_simp; (try with_reducible rfl)))
            try simp only [Act.put, List.getElem_toArray, List.getElem_cons_succ, List.getElem_cons_zero, List.setIfInBounds_toArray, List.set_cons_zero, List.set_cons_succ]
            refine wpAnyH_done (by kernel_rfl) ?_ _
            go_wp2_with fail
            go_roundw
            case rel =>
              have hsn := SOwn.snoc (E := encNum) (xs := tbF xs k) (x := z) (by rw [HM.out]; exact hown5)
              rw [← HT.out] at hsn
              exact ⟨k + 1, m + 1, g5, cap5, by omega, by rw [MK.out], by go_num, rfl, hsn, hB5⟩
            case measure => simp [intOf]; omega
          · go_simp
            refine hK.out _ _ AnyW7.mk (fun hHeld => ?_)
            clear hHeld hK K
            try simp only [Act.put, List.getElem_toArray, List.getElem_cons_succ, List.getElem_cons_zero, List.setIfInBounds_toArray, List.set_cons_zero, List.set_cons_succ]
            refine wpAnyH_take (i := 13) (oi := _) (v := ?_) rfl (by kernel_rfl) (by kernel_rfl) (by kernel_rfl) (fun _ _ _ h => h) (Or.inl ⟨by rfl, ?_⟩) AnyW7.mk ?_
            (rotate_left); (focus (intro wv hSw; clear hSw; go_simp; (try with_reducible rfl)))
            try simp only [Act.put, List.getElem_toArray, List.getElem_cons_succ, List.getElem_cons_zero, List.setIfInBounds_toArray, List.set_cons_zero, List.set_cons_succ]
            refine wpAnyH_ready (rs := [4]) (by kernel_rfl) (by simp) ?_
            refine AllReadyH.cons (o := _) rfl (fun K hK => ?_) (AllReadyH.nil)
            go_simp
            refine hK.out _ _ AnyW7.mk (fun hHeld => ?_)
            clear hHeld hK K
            try simp only [Act.put, List.getElem_toArray, List.getElem_cons_succ, List.getElem_cons_zero, List.setIfInBounds_toArray, List.set_cons_zero, List.set_cons_succ]
            refine wpAnyH_take (i := 14) (oi := _) (v := ?_) rfl (by kernel_rfl) (by kernel_rfl) (by kernel_rfl) (fun _ _ _ h => h) (Or.inl ⟨by rfl, ?_⟩) AnyW7.mk ?_
            (rotate_left); (focus (intro wv hSw; clear hSw; go_simp; (try with_reducible rfl)))
            try simp only [Act.put, List.getElem_toArray, List.getElem_cons_succ, List.getElem_cons_zero, List.setIfInBounds_toArray, List.set_cons_zero, List.set_cons_succ]
            have hOa := (hO.alloc (.cells (encNum.enc z).toArray 3)).drew
            refine wpAnyH_ready (rs := [15]) (by kernel_rfl) (by simp) ?_
            refine AllReadyH.cons (o := _) rfl (fun K hK => ?_) (AllReadyH.nil)
            go_simp
            refine hK.out _ _ AnyW7.mk (fun hHeld => ?_)
            clear hHeld hK K
            try simp only [Act.put, List.getElem_toArray, List.getElem_cons_succ, List.getElem_cons_zero, List.setIfInBounds_toArray, List.set_cons_zero, List.set_cons_succ]
            refine wpAnyH_ready (rs := [16]) (by kernel_rfl) (by simp) ?_
            refine AllReadyH.cons (o := _) rfl (fun K hK => ?_) (AllReadyH.nil)
            rw [if_pos (by kernel_rfl)]
            refine wp_append_lies _ (.tmp 14) (.tmp 29) _ rfl w.heap.size 3 i0 _ 1 8 Try.underlying38 HI.out.1 HI.out.2.1 HI.out.2.2.1 HI.out.2.2.2 rfl (by omega) (.slice (some ⟨g, 0, none⟩) m cv) m (encNum.flat (tbF xs k)) rfl (by unfold SOwn at hOa; rw [HM.out] at hOa; exact hOa) ⟨wr.heap.size, 0, none⟩ 1 1 (encNum.enc z) rfl rfl (new_enc (E := encNum) wr z _) (encNum.one _) (by omega) (by simp only [maxLen]; omega) (by omega) (by have := hB.size; simp; omega) _ rfl ?_
            intro g5 cap5 w5 hown5 hgr5 hat5 hlt5
            have hB5 := SOwn.below_grown (n := m) hOa (hB.alloc hB.size (.cells (encNum.enc z).toArray 3)).drew hgr5
            refine hK.out _ _ AnyW7.mk (fun hHeld => ?_)
            clear hHeld hK K
            try simp only [Act.put, List.getElem_toArray, List.getElem_cons_succ, List.getElem_cons_zero, List.setIfInBounds_toArray, List.set_cons_zero, List.set_cons_succ]
            refine wpAnyH_take (i := 17) (oi := _) (v := ?_) rfl (by kernel_rfl) (by kernel_rfl) (by kernel_rfl) (fun _ _ _ h => h) (Or.inl ⟨by rfl, ?_⟩) AnyW7.mk ?_
            (rotate_left); (focus (intro wv hSw; clear hSw; go_simp; (try with_reducible rfl)))
            try simp only [Act.put, List.getElem_toArray, List.getElem_cons_succ, List.getElem_cons_zero, List.setIfInBounds_toArray, List.set_cons_zero, List.set_cons_succ]
            refine wpAnyH_done (by kernel_rfl) ?_ _
            go_wp2_with fail
            go_roundw
            case rel =>
              have hsn := SOwn.snoc (E := encNum) (xs := tbF xs k) (x := z) (by rw [HM.out]; exact hown5)
              rw [← HT.out] at hsn
              exact ⟨k + 1, m + 1, g5, cap5, by omega, by rw [MK.out], by go_num, rfl, hsn, hB5⟩
            case measure => simp [intOf]; omega
      · have hk00 : (0 : Int) ≤ (k : Int) - 1 := by omega
        have hjk : (k : Int) - 1 = (j : Int) := by omega
        have hjw : IntKind.i64.wrap (j : Int) = (j : Int) := IntWalk.i64_in _ (by omega)
        have hj0 : ¬ (j : Int) < 0 := by omega
        have hmx : (if (j : Int) < 0 then (0 : Int) else (j : Int)) = (j : Int) := if_neg hj0
        clear hz9 hk00
        by_cases hpq : p < q + v
        · obtain rfl : z = q + v := by omega
          clear hzz
          go_wp2_with fail
          refine wp_region_held_drew (S := AnyW7) (by kernel_rfl) AnyW7.mk (fun hHeld => ?_)
          clear hHeld
          refine wpAnyH_take (i := 0) (oi := _) (v := ?_) rfl (by kernel_rfl) (by kernel_rfl) (by kernel_rfl) (fun _ _ _ h => h) (Or.inl ⟨by rfl, ?_⟩) AnyW7.mk ?_
          (rotate_left); (focus (intro wv hSw; clear hSw; go_simp; (try with_reducible rfl)))
          try simp only [Act.put, List.getElem_toArray, List.getElem_cons_succ, List.getElem_cons_zero, List.setIfInBounds_toArray, List.set_cons_zero, List.set_cons_succ]
          refine wpAnyH_take (i := 1) (oi := _) (v := ?_) rfl (by kernel_rfl) (by kernel_rfl) (by kernel_rfl) (fun _ _ _ h => h) (Or.inl ⟨by rfl, ?_⟩) AnyW7.mk ?_
          (rotate_left); (focus (intro wv hSw; clear hSw; go_simp; (try with_reducible rfl)))
          try simp only [Act.put, List.getElem_toArray, List.getElem_cons_succ, List.getElem_cons_zero, List.setIfInBounds_toArray, List.set_cons_zero, List.set_cons_succ]
          refine wpAnyH_take (i := 2) (oi := _) (v := ?_) rfl (by kernel_rfl) (by kernel_rfl) (by kernel_rfl) (fun _ _ _ h => h) (Or.inl ⟨by rfl, ?_⟩) AnyW7.mk ?_
          (rotate_left); (focus (intro wv hSw; clear hSw; go_simp; (try with_reducible rfl)))
          try simp only [Act.put, List.getElem_toArray, List.getElem_cons_succ, List.getElem_cons_zero, List.setIfInBounds_toArray, List.set_cons_zero, List.set_cons_succ]
          refine wpAnyH_take (i := 3) (oi := _) (v := ?_) rfl (by kernel_rfl) (by kernel_rfl) (by kernel_rfl) (fun _ _ _ h => h) (Or.inl ⟨by rfl, ?_⟩) AnyW7.mk ?_
          (rotate_left); (focus (intro wv hSw; clear hSw; go_simp; (try with_reducible rfl)))
          try simp only [Act.put, List.getElem_toArray, List.getElem_cons_succ, List.getElem_cons_zero, List.setIfInBounds_toArray, List.set_cons_zero, List.set_cons_succ]
          refine wpAnyH_take (i := 5) (oi := _) (v := ?_) rfl (by kernel_rfl) (by kernel_rfl) (by kernel_rfl) (fun _ _ _ h => h) (Or.inl ⟨by rfl, ?_⟩) AnyW7.mk ?_
          (rotate_left); (focus (intro wv hSw; clear hSw; go_simp; (try with_reducible rfl)))
          try simp only [Act.put, List.getElem_toArray, List.getElem_cons_succ, List.getElem_cons_zero, List.setIfInBounds_toArray, List.set_cons_zero, List.set_cons_succ]
          refine wpAnyH_take (i := 6) (oi := _) (v := ?_) rfl (by kernel_rfl) (by kernel_rfl) (by kernel_rfl) (fun _ _ _ h => h) (Or.inl ⟨by rfl, ?_⟩) AnyW7.mk ?_
          (rotate_left); (focus (intro wv hSw; clear hSw; go_simp; (try with_reducible rfl)))
          try simp only [Act.put, List.getElem_toArray, List.getElem_cons_succ, List.getElem_cons_zero, List.setIfInBounds_toArray, List.set_cons_zero, List.set_cons_succ]
          refine wpAnyH_take (i := 7) (oi := _) (v := ?_) rfl (by kernel_rfl) (by kernel_rfl) (by kernel_rfl) (fun _ _ _ h => h) (Or.inl ⟨by rfl, ?_⟩) AnyW7.mk ?_
          (rotate_left); (focus (intro wv hSw; clear hSw; go_simp; (try with_reducible rfl)))
          try simp only [Act.put, List.getElem_toArray, List.getElem_cons_succ, List.getElem_cons_zero, List.setIfInBounds_toArray, List.set_cons_zero, List.set_cons_succ]
          refine wpAnyH_take (i := 8) (oi := _) (v := ?_) rfl (by kernel_rfl) (by kernel_rfl) (by kernel_rfl) (fun _ _ _ h => h) (Or.inl ⟨by rfl, ?_⟩) AnyW7.mk ?_
          (rotate_left); (focus (intro wv hSw; clear hSw; go_simp; (try with_reducible rfl)))
          try simp only [Act.put, List.getElem_toArray, List.getElem_cons_succ, List.getElem_cons_zero, List.setIfInBounds_toArray, List.set_cons_zero, List.set_cons_succ]
          refine wpAnyH_take (i := 9) (oi := _) (v := ?_) rfl (by kernel_rfl) (by kernel_rfl) (by kernel_rfl) (fun _ _ _ h => h) (Or.inl ⟨by rfl, ?_⟩) AnyW7.mk ?_
          (rotate_left); (focus (intro wv hSw; clear hSw; go_simp; (try with_reducible rfl)))
          try simp only [Act.put, List.getElem_toArray, List.getElem_cons_succ, List.getElem_cons_zero, List.setIfInBounds_toArray, List.set_cons_zero, List.set_cons_succ]
          refine wpAnyH_take (i := 10) (oi := _) (v := ?_) rfl (by kernel_rfl) (by kernel_rfl) (by kernel_rfl) (fun _ _ _ h => h) (Or.inl ⟨by rfl, ?_⟩) AnyW7.mk ?_
          (rotate_left); (focus (intro wv hSw; clear hSw; go_simp; (try with_reducible rfl)))
          try simp only [Act.put, List.getElem_toArray, List.getElem_cons_succ, List.getElem_cons_zero, List.setIfInBounds_toArray, List.set_cons_zero, List.set_cons_succ]
          refine wpAnyH_take (i := 12) (oi := _) (v := ?_) rfl (by kernel_rfl) (by kernel_rfl) (by kernel_rfl) (fun _ _ _ h => h) (Or.inl ⟨by rfl, ?_⟩) AnyW7.mk ?_
          (rotate_left); (focus (intro wv hSw; clear hSw; go_simp; (try with_reducible rfl)))
          try simp only [Act.put, List.getElem_toArray, List.getElem_cons_succ, List.getElem_cons_zero, List.setIfInBounds_toArray, List.set_cons_zero, List.set_cons_succ]
          refine wpAnyH_ready (rs := [4, 11]) (by kernel_rfl) (by simp) ?_
          refine AllReadyH.cons (o := _) rfl (fun K hK => ?_) (AllReadyH.cons (o := _) rfl (fun K hK => ?_) (AllReadyH.nil))
          · go_simp
            refine hK.out _ _ AnyW7.mk (fun hHeld => ?_)
            clear hHeld hK K
            try simp only [Act.put, List.getElem_toArray, List.getElem_cons_succ, List.getElem_cons_zero, List.setIfInBounds_toArray, List.set_cons_zero, List.set_cons_succ]
            refine wpAnyH_ready (rs := [11]) (by kernel_rfl) (by simp) ?_
            refine AllReadyH.cons (o := _) rfl (fun K hK => ?_) (AllReadyH.nil)
            go_simp
            refine hK.out _ _ AnyW7.mk (fun hHeld => ?_)
            clear hHeld hK K
            try simp only [Act.put, List.getElem_toArray, List.getElem_cons_succ, List.getElem_cons_zero, List.setIfInBounds_toArray, List.set_cons_zero, List.set_cons_succ]
            refine wpAnyH_take (i := 13) (oi := _) (v := ?_) rfl (by kernel_rfl) (by kernel_rfl) (by kernel_rfl) (fun _ _ _ h => h) (Or.inl ⟨by rfl, ?_⟩) AnyW7.mk ?_
            (rotate_left); (focus (intro wv hSw; clear hSw; go_simp; (try with_reducible rfl)))
            try simp only [Act.put, List.getElem_toArray, List.getElem_cons_succ, List.getElem_cons_zero, List.setIfInBounds_toArray, List.set_cons_zero, List.set_cons_succ]
            refine wpAnyH_take (i := 14) (oi := _) (v := ?_) rfl (by kernel_rfl) (by kernel_rfl) (by kernel_rfl) (fun _ _ _ h => h) (Or.inl ⟨by rfl, ?_⟩) AnyW7.mk ?_
            (rotate_left); (focus (intro wv hSw; clear hSw; go_simp; (try with_reducible rfl)))
            try simp only [Act.put, List.getElem_toArray, List.getElem_cons_succ, List.getElem_cons_zero, List.setIfInBounds_toArray, List.set_cons_zero, List.set_cons_succ]
            have hOa := (hO.alloc (.cells (encNum.enc (q + v)).toArray 3)).drew
            refine wpAnyH_ready (rs := [15]) (by kernel_rfl) (by simp) ?_
            refine AllReadyH.cons (o := _) rfl (fun K hK => ?_) (AllReadyH.nil)
            go_simp
            refine hK.out _ _ AnyW7.mk (fun hHeld => ?_)
            clear hHeld hK K
            try simp only [Act.put, List.getElem_toArray, List.getElem_cons_succ, List.getElem_cons_zero, List.setIfInBounds_toArray, List.set_cons_zero, List.set_cons_succ]
            refine wpAnyH_ready (rs := [16]) (by kernel_rfl) (by simp) ?_
            refine AllReadyH.cons (o := _) rfl (fun K hK => ?_) (AllReadyH.nil)
            rw [if_pos (by kernel_rfl)]
            refine wp_append_lies _ (.tmp 14) (.tmp 29) _ rfl w.heap.size 3 i0 _ 1 8 Try.underlying38 HI.out.1 HI.out.2.1 HI.out.2.2.1 HI.out.2.2.2 rfl (by omega) (.slice (some ⟨g, 0, none⟩) m cv) m (encNum.flat (tbF xs k)) rfl (by unfold SOwn at hOa; rw [HM.out] at hOa; exact hOa) ⟨wr.heap.size, 0, none⟩ 1 1 (encNum.enc (q + v)) rfl rfl (new_enc (E := encNum) wr (q + v) _) (encNum.one _) (by omega) (by simp only [maxLen]; omega) (by omega) (by have := hB.size; simp; omega) _ rfl ?_
            intro g5 cap5 w5 hown5 hgr5 hat5 hlt5
            have hB5 := SOwn.below_grown (n := m) hOa (hB.alloc hB.size (.cells (encNum.enc (q + v)).toArray 3)).drew hgr5
            refine hK.out _ _ AnyW7.mk (fun hHeld => ?_)
            clear hHeld hK K
            try simp only [Act.put, List.getElem_toArray, List.getElem_cons_succ, List.getElem_cons_zero, List.setIfInBounds_toArray, List.set_cons_zero, List.set_cons_succ]
            refine wpAnyH_take (i := 17) (oi := _) (v := ?_) rfl (by kernel_rfl) (by kernel_rfl) (by kernel_rfl) (fun _ _ _ h => h) (Or.inl ⟨by rfl, ?_⟩) AnyW7.mk ?_
            (rotate_left); (focus (intro wv hSw; clear hSw; go_simp; (try with_reducible rfl)))
            try simp only [Act.put, List.getElem_toArray, List.getElem_cons_succ, List.getElem_cons_zero, List.setIfInBounds_toArray, List.set_cons_zero, List.set_cons_succ]
            refine wpAnyH_done (by kernel_rfl) ?_ _
            go_wp2_with fail
            go_roundw
            case rel =>
              have hsn := SOwn.snoc (E := encNum) (xs := tbF xs k) (x := q + v) (by rw [HM.out]; exact hown5)
              rw [← HT.out] at hsn
              exact ⟨k + 1, m + 1, g5, cap5, by omega, by rw [MK.out], by go_num, rfl, hsn, hB5⟩
            case measure => simp [intOf]; omega
          · go_simp
            refine hK.out _ _ AnyW7.mk (fun hHeld => ?_)
            clear hHeld hK K
            try simp only [Act.put, List.getElem_toArray, List.getElem_cons_succ, List.getElem_cons_zero, List.setIfInBounds_toArray, List.set_cons_zero, List.set_cons_succ]
            refine wpAnyH_take (i := 13) (oi := _) (v := ?_) rfl (by kernel_rfl) (by kernel_rfl) (by kernel_rfl) (fun _ _ _ h => h) (Or.inl ⟨by rfl, ?_⟩) AnyW7.mk ?_
            (rotate_left); (focus (intro wv hSw; clear hSw; go_simp; (try with_reducible rfl)))
            try simp only [Act.put, List.getElem_toArray, List.getElem_cons_succ, List.getElem_cons_zero, List.setIfInBounds_toArray, List.set_cons_zero, List.set_cons_succ]
            refine wpAnyH_ready (rs := [4]) (by kernel_rfl) (by simp) ?_
            refine AllReadyH.cons (o := _) rfl (fun K hK => ?_) (AllReadyH.nil)
            go_simp
            refine hK.out _ _ AnyW7.mk (fun hHeld => ?_)
            clear hHeld hK K
            try simp only [Act.put, List.getElem_toArray, List.getElem_cons_succ, List.getElem_cons_zero, List.setIfInBounds_toArray, List.set_cons_zero, List.set_cons_succ]
            refine wpAnyH_take (i := 14) (oi := _) (v := ?_) rfl (by kernel_rfl) (by kernel_rfl) (by kernel_rfl) (fun _ _ _ h => h) (Or.inl ⟨by rfl, ?_⟩) AnyW7.mk ?_
            (rotate_left); (focus (intro wv hSw; clear hSw; go_simp; (try with_reducible rfl)))
            try simp only [Act.put, List.getElem_toArray, List.getElem_cons_succ, List.getElem_cons_zero, List.setIfInBounds_toArray, List.set_cons_zero, List.set_cons_succ]
            have hOa := (hO.alloc (.cells (encNum.enc (q + v)).toArray 3)).drew
            refine wpAnyH_ready (rs := [15]) (by kernel_rfl) (by simp) ?_
            refine AllReadyH.cons (o := _) rfl (fun K hK => ?_) (AllReadyH.nil)
            go_simp
            refine hK.out _ _ AnyW7.mk (fun hHeld => ?_)
            clear hHeld hK K
            try simp only [Act.put, List.getElem_toArray, List.getElem_cons_succ, List.getElem_cons_zero, List.setIfInBounds_toArray, List.set_cons_zero, List.set_cons_succ]
            refine wpAnyH_ready (rs := [16]) (by kernel_rfl) (by simp) ?_
            refine AllReadyH.cons (o := _) rfl (fun K hK => ?_) (AllReadyH.nil)
            rw [if_pos (by kernel_rfl)]
            refine wp_append_lies _ (.tmp 14) (.tmp 29) _ rfl w.heap.size 3 i0 _ 1 8 Try.underlying38 HI.out.1 HI.out.2.1 HI.out.2.2.1 HI.out.2.2.2 rfl (by omega) (.slice (some ⟨g, 0, none⟩) m cv) m (encNum.flat (tbF xs k)) rfl (by unfold SOwn at hOa; rw [HM.out] at hOa; exact hOa) ⟨wr.heap.size, 0, none⟩ 1 1 (encNum.enc (q + v)) rfl rfl (new_enc (E := encNum) wr (q + v) _) (encNum.one _) (by omega) (by simp only [maxLen]; omega) (by omega) (by have := hB.size; simp; omega) _ rfl ?_
            intro g5 cap5 w5 hown5 hgr5 hat5 hlt5
            have hB5 := SOwn.below_grown (n := m) hOa (hB.alloc hB.size (.cells (encNum.enc (q + v)).toArray 3)).drew hgr5
            refine hK.out _ _ AnyW7.mk (fun hHeld => ?_)
            clear hHeld hK K
            try simp only [Act.put, List.getElem_toArray, List.getElem_cons_succ, List.getElem_cons_zero, List.setIfInBounds_toArray, List.set_cons_zero, List.set_cons_succ]
            refine wpAnyH_take (i := 17) (oi := _) (v := ?_) rfl (by kernel_rfl) (by kernel_rfl) (by kernel_rfl) (fun _ _ _ h => h) (Or.inl ⟨by rfl, ?_⟩) AnyW7.mk ?_
            (rotate_left); (focus (intro wv hSw; clear hSw; go_simp; (try with_reducible rfl)))
            try simp only [Act.put, List.getElem_toArray, List.getElem_cons_succ, List.getElem_cons_zero, List.setIfInBounds_toArray, List.set_cons_zero, List.set_cons_succ]
            refine wpAnyH_done (by kernel_rfl) ?_ _
            go_wp2_with fail
            go_roundw
            case rel =>
              have hsn := SOwn.snoc (E := encNum) (xs := tbF xs k) (x := q + v) (by rw [HM.out]; exact hown5)
              rw [← HT.out] at hsn
              exact ⟨k + 1, m + 1, g5, cap5, by omega, by rw [MK.out], by go_num, rfl, hsn, hB5⟩
            case measure => simp [intOf]; omega
        · obtain rfl : z = p := by omega
          clear hzz
          have hif : (if z < q + v then q + v else z) = z := if_neg hpq
          go_wp2_with fail
          refine wp_region_held_drew (S := AnyW7) (by kernel_rfl) AnyW7.mk (fun hHeld => ?_)
          clear hHeld
          refine wpAnyH_take (i := 0) (oi := _) (v := ?_) rfl (by kernel_rfl) (by kernel_rfl) (by kernel_rfl) (fun _ _ _ h => h) (Or.inl ⟨by rfl, ?_⟩) AnyW7.mk ?_
          (rotate_left); (focus (intro wv hSw; clear hSw; go_simp; (try with_reducible rfl)))
          try simp only [Act.put, List.getElem_toArray, List.getElem_cons_succ, List.getElem_cons_zero, List.setIfInBounds_toArray, List.set_cons_zero, List.set_cons_succ]
          refine wpAnyH_take (i := 1) (oi := _) (v := ?_) rfl (by kernel_rfl) (by kernel_rfl) (by kernel_rfl) (fun _ _ _ h => h) (Or.inl ⟨by rfl, ?_⟩) AnyW7.mk ?_
          (rotate_left); (focus (intro wv hSw; clear hSw; go_simp; (try with_reducible rfl)))
          try simp only [Act.put, List.getElem_toArray, List.getElem_cons_succ, List.getElem_cons_zero, List.setIfInBounds_toArray, List.set_cons_zero, List.set_cons_succ]
          refine wpAnyH_take (i := 2) (oi := _) (v := ?_) rfl (by kernel_rfl) (by kernel_rfl) (by kernel_rfl) (fun _ _ _ h => h) (Or.inl ⟨by rfl, ?_⟩) AnyW7.mk ?_
          (rotate_left); (focus (intro wv hSw; clear hSw; go_simp; (try with_reducible rfl)))
          try simp only [Act.put, List.getElem_toArray, List.getElem_cons_succ, List.getElem_cons_zero, List.setIfInBounds_toArray, List.set_cons_zero, List.set_cons_succ]
          refine wpAnyH_take (i := 3) (oi := _) (v := ?_) rfl (by kernel_rfl) (by kernel_rfl) (by kernel_rfl) (fun _ _ _ h => h) (Or.inl ⟨by rfl, ?_⟩) AnyW7.mk ?_
          (rotate_left); (focus (intro wv hSw; clear hSw; go_simp; (try with_reducible rfl)))
          try simp only [Act.put, List.getElem_toArray, List.getElem_cons_succ, List.getElem_cons_zero, List.setIfInBounds_toArray, List.set_cons_zero, List.set_cons_succ]
          refine wpAnyH_take (i := 5) (oi := _) (v := ?_) rfl (by kernel_rfl) (by kernel_rfl) (by kernel_rfl) (fun _ _ _ h => h) (Or.inl ⟨by rfl, ?_⟩) AnyW7.mk ?_
          (rotate_left); (focus (intro wv hSw; clear hSw; go_simp; (try with_reducible rfl)))
          try simp only [Act.put, List.getElem_toArray, List.getElem_cons_succ, List.getElem_cons_zero, List.setIfInBounds_toArray, List.set_cons_zero, List.set_cons_succ]
          refine wpAnyH_take (i := 6) (oi := _) (v := ?_) rfl (by kernel_rfl) (by kernel_rfl) (by kernel_rfl) (fun _ _ _ h => h) (Or.inl ⟨by rfl, ?_⟩) AnyW7.mk ?_
          (rotate_left); (focus (intro wv hSw; clear hSw; go_simp; (try with_reducible rfl)))
          try simp only [Act.put, List.getElem_toArray, List.getElem_cons_succ, List.getElem_cons_zero, List.setIfInBounds_toArray, List.set_cons_zero, List.set_cons_succ]
          refine wpAnyH_take (i := 7) (oi := _) (v := ?_) rfl (by kernel_rfl) (by kernel_rfl) (by kernel_rfl) (fun _ _ _ h => h) (Or.inl ⟨by rfl, ?_⟩) AnyW7.mk ?_
          (rotate_left); (focus (intro wv hSw; clear hSw; go_simp; (try with_reducible rfl)))
          try simp only [Act.put, List.getElem_toArray, List.getElem_cons_succ, List.getElem_cons_zero, List.setIfInBounds_toArray, List.set_cons_zero, List.set_cons_succ]
          refine wpAnyH_take (i := 8) (oi := _) (v := ?_) rfl (by kernel_rfl) (by kernel_rfl) (by kernel_rfl) (fun _ _ _ h => h) (Or.inl ⟨by rfl, ?_⟩) AnyW7.mk ?_
          (rotate_left); (focus (intro wv hSw; clear hSw; go_simp; (try with_reducible rfl)))
          try simp only [Act.put, List.getElem_toArray, List.getElem_cons_succ, List.getElem_cons_zero, List.setIfInBounds_toArray, List.set_cons_zero, List.set_cons_succ]
          refine wpAnyH_take (i := 9) (oi := _) (v := ?_) rfl (by kernel_rfl) (by kernel_rfl) (by kernel_rfl) (fun _ _ _ h => h) (Or.inl ⟨by rfl, ?_⟩) AnyW7.mk ?_
          (rotate_left); (focus (intro wv hSw; clear hSw; go_simp; (try with_reducible rfl)))
          try simp only [Act.put, List.getElem_toArray, List.getElem_cons_succ, List.getElem_cons_zero, List.setIfInBounds_toArray, List.set_cons_zero, List.set_cons_succ]
          refine wpAnyH_take (i := 10) (oi := _) (v := ?_) rfl (by kernel_rfl) (by kernel_rfl) (by kernel_rfl) (fun _ _ _ h => h) (Or.inl ⟨by rfl, ?_⟩) AnyW7.mk ?_
          (rotate_left); (focus (intro wv hSw; clear hSw; go_simp; (try with_reducible rfl)))
          try simp only [Act.put, List.getElem_toArray, List.getElem_cons_succ, List.getElem_cons_zero, List.setIfInBounds_toArray, List.set_cons_zero, List.set_cons_succ]
          refine wpAnyH_take (i := 12) (oi := _) (v := ?_) rfl (by kernel_rfl) (by kernel_rfl) (by kernel_rfl) (fun _ _ _ h => h) (Or.inl ⟨by rfl, ?_⟩) AnyW7.mk ?_
          (rotate_left); (focus (intro wv hSw; clear hSw; go_simp; (try with_reducible rfl)))
          try simp only [Act.put, List.getElem_toArray, List.getElem_cons_succ, List.getElem_cons_zero, List.setIfInBounds_toArray, List.set_cons_zero, List.set_cons_succ]
          refine wpAnyH_ready (rs := [4, 11]) (by kernel_rfl) (by simp) ?_
          refine AllReadyH.cons (o := _) rfl (fun K hK => ?_) (AllReadyH.cons (o := _) rfl (fun K hK => ?_) (AllReadyH.nil))
          · go_simp
            refine hK.out _ _ AnyW7.mk (fun hHeld => ?_)
            clear hHeld hK K
            try simp only [Act.put, List.getElem_toArray, List.getElem_cons_succ, List.getElem_cons_zero, List.setIfInBounds_toArray, List.set_cons_zero, List.set_cons_succ]
            refine wpAnyH_ready (rs := [11]) (by kernel_rfl) (by simp) ?_
            refine AllReadyH.cons (o := _) rfl (fun K hK => ?_) (AllReadyH.nil)
            go_simp
            refine hK.out _ _ AnyW7.mk (fun hHeld => ?_)
            clear hHeld hK K
            try simp only [Act.put, List.getElem_toArray, List.getElem_cons_succ, List.getElem_cons_zero, List.setIfInBounds_toArray, List.set_cons_zero, List.set_cons_succ]
            refine wpAnyH_take (i := 13) (oi := _) (v := ?_) rfl (by kernel_rfl) (by kernel_rfl) (by kernel_rfl) (fun _ _ _ h => h) (Or.inl ⟨by rfl, ?_⟩) AnyW7.mk ?_
            (rotate_left); (focus (intro wv hSw; clear hSw; go_simp; (try with_reducible rfl)))
            try simp only [Act.put, List.getElem_toArray, List.getElem_cons_succ, List.getElem_cons_zero, List.setIfInBounds_toArray, List.set_cons_zero, List.set_cons_succ]
            refine wpAnyH_take (i := 14) (oi := _) (v := ?_) rfl (by kernel_rfl) (by kernel_rfl) (by kernel_rfl) (fun _ _ _ h => h) (Or.inl ⟨by rfl, ?_⟩) AnyW7.mk ?_
            (rotate_left); (focus (intro wv hSw; clear hSw; go_simp; (try with_reducible rfl)))
            try simp only [Act.put, List.getElem_toArray, List.getElem_cons_succ, List.getElem_cons_zero, List.setIfInBounds_toArray, List.set_cons_zero, List.set_cons_succ]
            have hOa := (hO.alloc (.cells (encNum.enc z).toArray 3)).drew
            refine wpAnyH_ready (rs := [15]) (by kernel_rfl) (by simp) ?_
            refine AllReadyH.cons (o := _) rfl (fun K hK => ?_) (AllReadyH.nil)
            go_simp
            refine hK.out _ _ AnyW7.mk (fun hHeld => ?_)
            clear hHeld hK K
            try simp only [Act.put, List.getElem_toArray, List.getElem_cons_succ, List.getElem_cons_zero, List.setIfInBounds_toArray, List.set_cons_zero, List.set_cons_succ]
            refine wpAnyH_ready (rs := [16]) (by kernel_rfl) (by simp) ?_
            refine AllReadyH.cons (o := _) rfl (fun K hK => ?_) (AllReadyH.nil)
            rw [if_pos (by kernel_rfl)]
            refine wp_append_lies _ (.tmp 14) (.tmp 29) _ rfl w.heap.size 3 i0 _ 1 8 Try.underlying38 HI.out.1 HI.out.2.1 HI.out.2.2.1 HI.out.2.2.2 rfl (by omega) (.slice (some ⟨g, 0, none⟩) m cv) m (encNum.flat (tbF xs k)) rfl (by unfold SOwn at hOa; rw [HM.out] at hOa; exact hOa) ⟨wr.heap.size, 0, none⟩ 1 1 (encNum.enc z) rfl rfl (new_enc (E := encNum) wr z _) (encNum.one _) (by omega) (by simp only [maxLen]; omega) (by omega) (by have := hB.size; simp; omega) _ rfl ?_
            intro g5 cap5 w5 hown5 hgr5 hat5 hlt5
            have hB5 := SOwn.below_grown (n := m) hOa (hB.alloc hB.size (.cells (encNum.enc z).toArray 3)).drew hgr5
            refine hK.out _ _ AnyW7.mk (fun hHeld => ?_)
            clear hHeld hK K
            try simp only [Act.put, List.getElem_toArray, List.getElem_cons_succ, List.getElem_cons_zero, List.setIfInBounds_toArray, List.set_cons_zero, List.set_cons_succ]
            refine wpAnyH_take (i := 17) (oi := _) (v := ?_) rfl (by kernel_rfl) (by kernel_rfl) (by kernel_rfl) (fun _ _ _ h => h) (Or.inl ⟨by rfl, ?_⟩) AnyW7.mk ?_
            (rotate_left); (focus (intro wv hSw; clear hSw; go_simp; (try with_reducible rfl)))
            try simp only [Act.put, List.getElem_toArray, List.getElem_cons_succ, List.getElem_cons_zero, List.setIfInBounds_toArray, List.set_cons_zero, List.set_cons_succ]
            refine wpAnyH_done (by kernel_rfl) ?_ _
            go_wp2_with fail
            go_roundw
            case rel =>
              have hsn := SOwn.snoc (E := encNum) (xs := tbF xs k) (x := z) (by rw [HM.out]; exact hown5)
              rw [← HT.out] at hsn
              exact ⟨k + 1, m + 1, g5, cap5, by omega, by rw [MK.out], by go_num, rfl, hsn, hB5⟩
            case measure => simp [intOf]; omega
          · go_simp
            refine hK.out _ _ AnyW7.mk (fun hHeld => ?_)
            clear hHeld hK K
            try simp only [Act.put, List.getElem_toArray, List.getElem_cons_succ, List.getElem_cons_zero, List.setIfInBounds_toArray, List.set_cons_zero, List.set_cons_succ]
            refine wpAnyH_take (i := 13) (oi := _) (v := ?_) rfl (by kernel_rfl) (by kernel_rfl) (by kernel_rfl) (fun _ _ _ h => h) (Or.inl ⟨by rfl, ?_⟩) AnyW7.mk ?_
            (rotate_left); (focus (intro wv hSw; clear hSw; go_simp; (try with_reducible rfl)))
            try simp only [Act.put, List.getElem_toArray, List.getElem_cons_succ, List.getElem_cons_zero, List.setIfInBounds_toArray, List.set_cons_zero, List.set_cons_succ]
            refine wpAnyH_ready (rs := [4]) (by kernel_rfl) (by simp) ?_
            refine AllReadyH.cons (o := _) rfl (fun K hK => ?_) (AllReadyH.nil)
            go_simp
            refine hK.out _ _ AnyW7.mk (fun hHeld => ?_)
            clear hHeld hK K
            try simp only [Act.put, List.getElem_toArray, List.getElem_cons_succ, List.getElem_cons_zero, List.setIfInBounds_toArray, List.set_cons_zero, List.set_cons_succ]
            refine wpAnyH_take (i := 14) (oi := _) (v := ?_) rfl (by kernel_rfl) (by kernel_rfl) (by kernel_rfl) (fun _ _ _ h => h) (Or.inl ⟨by rfl, ?_⟩) AnyW7.mk ?_
            (rotate_left); (focus (intro wv hSw; clear hSw; go_simp; (try with_reducible rfl)))
            try simp only [Act.put, List.getElem_toArray, List.getElem_cons_succ, List.getElem_cons_zero, List.setIfInBounds_toArray, List.set_cons_zero, List.set_cons_succ]
            have hOa := (hO.alloc (.cells (encNum.enc z).toArray 3)).drew
            refine wpAnyH_ready (rs := [15]) (by kernel_rfl) (by simp) ?_
            refine AllReadyH.cons (o := _) rfl (fun K hK => ?_) (AllReadyH.nil)
            go_simp
            refine hK.out _ _ AnyW7.mk (fun hHeld => ?_)
            clear hHeld hK K
            try simp only [Act.put, List.getElem_toArray, List.getElem_cons_succ, List.getElem_cons_zero, List.setIfInBounds_toArray, List.set_cons_zero, List.set_cons_succ]
            refine wpAnyH_ready (rs := [16]) (by kernel_rfl) (by simp) ?_
            refine AllReadyH.cons (o := _) rfl (fun K hK => ?_) (AllReadyH.nil)
            rw [if_pos (by kernel_rfl)]
            refine wp_append_lies _ (.tmp 14) (.tmp 29) _ rfl w.heap.size 3 i0 _ 1 8 Try.underlying38 HI.out.1 HI.out.2.1 HI.out.2.2.1 HI.out.2.2.2 rfl (by omega) (.slice (some ⟨g, 0, none⟩) m cv) m (encNum.flat (tbF xs k)) rfl (by unfold SOwn at hOa; rw [HM.out] at hOa; exact hOa) ⟨wr.heap.size, 0, none⟩ 1 1 (encNum.enc z) rfl rfl (new_enc (E := encNum) wr z _) (encNum.one _) (by omega) (by simp only [maxLen]; omega) (by omega) (by have := hB.size; simp; omega) _ rfl ?_
            intro g5 cap5 w5 hown5 hgr5 hat5 hlt5
            have hB5 := SOwn.below_grown (n := m) hOa (hB.alloc hB.size (.cells (encNum.enc z).toArray 3)).drew hgr5
            refine hK.out _ _ AnyW7.mk (fun hHeld => ?_)
            clear hHeld hK K
            try simp only [Act.put, List.getElem_toArray, List.getElem_cons_succ, List.getElem_cons_zero, List.setIfInBounds_toArray, List.set_cons_zero, List.set_cons_succ]
            refine wpAnyH_take (i := 17) (oi := _) (v := ?_) rfl (by kernel_rfl) (by kernel_rfl) (by kernel_rfl) (fun _ _ _ h => h) (Or.inl ⟨by rfl, ?_⟩) AnyW7.mk ?_
            (rotate_left); (focus (intro wv hSw; clear hSw; go_simp; (try with_reducible rfl)))
            try simp only [Act.put, List.getElem_toArray, List.getElem_cons_succ, List.getElem_cons_zero, List.setIfInBounds_toArray, List.set_cons_zero, List.set_cons_succ]
            refine wpAnyH_done (by kernel_rfl) ?_ _
            go_wp2_with fail
            go_roundw
            case rel =>
              have hsn := SOwn.snoc (E := encNum) (xs := tbF xs k) (x := z) (by rw [HM.out]; exact hown5)
              rw [← HT.out] at hsn
              exact ⟨k + 1, m + 1, g5, cap5, by omega, by rw [MK.out], by go_num, rfl, hsn, hB5⟩
            case measure => simp [intOf]; omega
    · obtain rfl : k = n := by omega
      go_wp2_with fail
      go_ret
      exact ⟨g, cv, ret_slice7 (by rw [tbF_len, HN.out, mk]), by rw [HN.out]; exact hO, hB⟩
set_option maxHeartbeats 4000000 in
theorem iRm_is (A : Option Addr) (cap : Nat) (xs : List Int) {n : Nat} {r : Int} (w : World) (hn : xs.length = n) (h : SRow encNum w A xs) (hl : n ≤ 2000000) (hr : rmI xs = r) :
    Calls Try.prog 31 #[.slice A n cap] w fun E w' => E = .returned (.int .i64 r) ∧ Below w.heap.size w w' := by
  cases hv : rwB xs
  · obtain rfl : r = -1 := by rw [← hr]; exact rmI_no hv
    have HV := Lib.hid hv
    clear hv hr
    go_enter Try.func31, Try.ntmps31
    go_wp2_with fail
    refine (iRw_is A cap xs _ hn h hl HV.out).mono ?_; rintro E w1 ⟨rfl, hw1⟩
    go_wp2
    go_ret
    exact ⟨rfl, hw1⟩
  · have hr2 : bk xs = r := by rw [← hr]; exact (rmI_yes hv).symm
    have hn10 : n ≤ 10 := by have := (rwB_iff.1 hv).1; omega
    have HV := Lib.hid hv
    have HR := Lib.hid hr2
    have HN := Lib.hid hn
    clear hv hr hr2 hn
    go_enter Try.func31, Try.ntmps31
    go_wp2_with fail
    refine (iRw_is A cap xs _ HN.out h hl HV.out).mono ?_; rintro E w1 ⟨rfl, hw1⟩
    go_wp2_with fail
    refine (iTb_any A cap xs _ HN.out (h.next hw1) hn10 HV.out).mono ?_; rintro E w2 ⟨g, cg, rfl, hO, hw2⟩
    have hB2 := bel_next hw1 hw2
    have hTL : (tbF xs xs.length).length = n + 1 := by rw [tbF_len, HN.out]
    rw [hTL]
    have c0 := ownNum (i := n) hO (by rw [hTL]; omega)
    rw [tbF_at, ← HN.out, List.take_length, HR.out, HN.out] at c0
    have hi1 : (n : Int) < ((n + 1 : Nat) : Int) := by omega
    clear hTL
    go_wp2
    go_ret
    exact ⟨rfl, hB2⟩
set_option maxRecDepth 100000 in
set_option maxHeartbeats 4000000 in
theorem sTb_any (A : Option Addr) (cap : Nat) (xs : List Int) {n : Nat} (w : World) (hn : xs.length = n) (h : SRow encNum w A xs) (hl : n ≤ 10) (hv : rwB xs = true) :
    Calls Try.prog 54 #[.slice A n cap] w fun E w' => TabRet (tbB xs 0) w E w' := by
  obtain ⟨i0, hi0, hz0, hz1, hz2⟩ := info_parts infoNum
  have HI := Lib.hid (And.intro hi0 (And.intro hz0 (And.intro hz1 hz2)))
  clear hi0 hz0 hz1 hz2
  have HN := Lib.hid hn
  have HV := Lib.hid hv
  have hbn : i0.bytes * (n + 2) ≤ 281474976710656 := by rw [HI.out.2.2.2]; omega
  have HB9 := Lib.hid hbn
  clear hn hv hbn
  go_enter Try.func54, Try.ntmps54
  go_wp2_with (at_make; refine wpList_make_structs _ encNum (0 : Int) rfl _ _ 38 rfl 3 i0 _ Try.underlying38 HI.out.1 HI.out.2.1 HI.out.2.2.1 rfl .i64 .i64 (n + 2) rfl rfl HB9.out (by omega) ?_)
  go_loopw [4] (fun v wr => ∃ k : Nat, k ≤ n ∧ v = .int .i64 ((k : Int) - 1) ∧ SBlk encNum wr w.heap.size 3 (tbB xs k) ∧ Below w.heap.size w wr) (fun v _ => (intOf v + 1).toNat)
  case atStart => exact ⟨n, by omega, rfl, by rw [← HN.out, tbB_start, HN.out]; exact blk_new w _, bel1 _ _⟩
  case round =>
    obtain ⟨k, k1, rfl, hT, hB⟩ := hrel
    by_cases hlt : 0 < k
    · obtain ⟨j, hj⟩ : ∃ j, k = j + 1 := ⟨k - 1, by omega⟩
      have hjn : j < n := by omega
      have hk : j < xs.length := by rw [HN.out]; omega
      have hki : (k : Int) - 1 = (j : Int) := by omega
      have hji : (j : Int) < (n : Int) := by omega
      obtain ⟨b, off, rfl, hb, c0⟩ := rowNum (h.next hB) hk
      have hlen : (tbB xs k).length = n + 2 := by rw [tbB_len, HN.out]
      have d0 := blkNum (i := j + 1) hT (by omega)
      have e0 := blkNum (i := j + 2) hT (by omega)
      rw [tbB_at _ _ (by omega)] at d0 e0
      have hj9 : j < (tbB xs k).length := by omega
      have hs0 := blkNum (i := j) hT hj9
      have f0 := hT.frozen j
      have HS : Hid (bk (xs.drop j) = max (bk (xs.drop (j + 1))) (xs[j] + bk (xs.drop (j + 2)))) := Lib.hid (bk_drop1 hk)
      have hst := tbB_step xs hk
      rw [← hj] at hst
      have HT := Lib.hid hst
      obtain ⟨p0, p1⟩ := bk_drop_bd HV.out (j + 1)
      obtain ⟨q0, q1⟩ := bk_drop_bd HV.out (j + 2)
      obtain ⟨v0, v1⟩ := rwB_at HV.out hk
      clear hst
      rw [hki]
      have HK := Lib.hid hj
      have HKI := Lib.hid hki
      clear hki k1
      generalize bk (xs.drop j) = z at HS HT
      generalize bk (xs.drop (j + 1)) = p at d0 HS p0 p1
      generalize bk (xs.drop (j + 2)) = q at e0 HS q0 q1
      generalize xs[j] = v at c0 HS v0 v1
      generalize (tbB xs k)[j] = s at hs0
      have hw1 : IntKind.i64.wrap ((j : Int) + 1) = (j : Int) + 1 := IntWalk.i64_in _ (by omega)
      have hw2 : IntKind.i64.wrap ((j : Int) + 2) = (j : Int) + 2 := IntWalk.i64_in _ (by omega)
      have hw3 : IntKind.i64.wrap (v + q) = v + q := IntWalk.i64_in _ (by omega)
      have hw4 : ((j : Int) + 1).toNat = j + 1 := by omega
      have hw5 : ((j : Int) + 2).toNat = j + 2 := by omega
      have hw6 : (0 : Int) ≤ (j : Int) + 1 := by omega
      have hw7 : (0 : Int) ≤ (j : Int) + 2 := by omega
      have hw8 : (j : Int) + 1 < ((n + 2 : Nat) : Int) := by omega
      have hw9 : (j : Int) + 2 < ((n + 2 : Nat) : Int) := by omega
      have hwa : (j : Int) < ((n + 2 : Nat) : Int) := by omega
      have hwb : (j : Int) + 1 < (n : Int) + 2 := by omega
      have hwc : (j : Int) + 2 < (n : Int) + 2 := by omega
      have hwd : (j : Int) < (n : Int) + 2 := by omega
      by_cases hpq : p < v + q
      · obtain rfl : z = v + q := by have := HS.out; omega
        go_wp2_with fail
        go_region
        go_wp2_with fail
        go_roundw
        case rel => exact ⟨j, by omega, by go_num, by have := setNumB hT j (by rw [tbB_len, HN.out]; omega) (v + q); rw [HT.out] at this; exact this, (hB.setCell (p := ⟨w.heap.size, j, none⟩) (Nat.le_refl _) _).drew⟩
        case measure => simp [intOf] <;> omega
      · obtain rfl : z = p := by have := HS.out; omega
        have hif : (if z < v + q then v + q else z) = z := if_neg hpq
        go_wp2_with fail
        go_region
        go_wp2_with fail
        go_roundw
        case rel => exact ⟨j, by omega, by go_num, by have := setNumB hT j (by rw [tbB_len, HN.out]; omega) (z); rw [HT.out] at this; exact this, (hB.setCell (p := ⟨w.heap.size, j, none⟩) (Nat.le_refl _) _).drew⟩
        case measure => simp [intOf] <;> omega
    · obtain rfl : k = 0 := by omega
      go_wp2_with fail
      go_ret
      exact ⟨_, n + 2, ret_slice7 (by rw [tbB_len, HN.out]), SOwn.of_blk hT (Nat.le_refl _) (by rw [tbB_len, HN.out]) (by simp only [maxLen]; omega), hB⟩
set_option maxHeartbeats 4000000 in
theorem sRm_is (A : Option Addr) (cap : Nat) (xs : List Int) {n : Nat} {r : Int} (w : World) (hn : xs.length = n) (h : SRow encNum w A xs) (hl : n ≤ 2000000) (hr : rmI xs = r) :
    Calls Try.prog 34 #[.slice A n cap] w fun E w' => E = .returned (.int .i64 r) ∧ Below w.heap.size w w' := by
  cases hv : rwB xs
  · obtain rfl : r = -1 := by rw [← hr]; exact rmI_no hv
    have HV := Lib.hid hv
    clear hv hr
    go_enter Try.func34, Try.ntmps34
    go_wp2_with fail
    refine (sRw_is A cap xs _ hn h hl HV.out).mono ?_; rintro E w1 ⟨rfl, hw1⟩
    go_wp2
    go_ret
    exact ⟨rfl, hw1⟩
  · have hr2 : bk xs = r := by rw [← hr]; exact (rmI_yes hv).symm
    have hn10 : n ≤ 10 := by have := (rwB_iff.1 hv).1; omega
    have HV := Lib.hid hv
    have HR := Lib.hid hr2
    have HN := Lib.hid hn
    clear hv hr hr2 hn
    go_enter Try.func34, Try.ntmps34
    go_wp2_with fail
    refine (sRw_is A cap xs _ HN.out h hl HV.out).mono ?_; rintro E w1 ⟨rfl, hw1⟩
    go_wp2_with fail
    refine (sTb_any A cap xs _ HN.out (h.next hw1) hn10 HV.out).mono ?_; rintro E w2 ⟨g, cg, rfl, hO, hw2⟩
    have hB2 := bel_next hw1 hw2
    have hTL : (tbB xs 0).length = n + 2 := by rw [tbB_len, HN.out]
    rw [hTL]
    have c0 := ownNum (i := 0) hO (by rw [hTL]; omega)
    rw [tbB_at _ _ (Nat.le_refl _), List.drop_zero, HR.out] at c0
    have hi1 : (0 : Int) < ((n + 2 : Nat) : Int) := by omega
    clear hTL
    go_wp2
    go_ret
    exact ⟨rfl, hB2⟩
end Go.Proofs.Ytfgaggdiepielaa
