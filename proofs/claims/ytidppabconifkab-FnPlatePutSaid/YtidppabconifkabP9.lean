/- What the laws PlatePut and PlateDrop say: plain mathematics; samePlate of the laws. -/
import Derived.Test.YtidppabconifkabIp
import Derived.Test.YtidppabconifkabPh
import Derived.Test.YtidppabconifkabPp
import Derived.Test.YtidppabconifkabPi
import Derived.Test.YtidppabconifkabPq
namespace Go.Proofs.Ytidppabconifkab
open Go Go.ChangeShapes Go.WideShapes Go.ChangeAt Go.RowKit
set_option linter.unusedSimpArgs false
set_option linter.unusedVariables false

theorem bytes_inj9 {a b : ByteArray} (h : a.toList = b.toList) : a = b := by
  rw [ByteArray.toList_eq, ByteArray.toList_eq] at h
  exact ByteArray.ext (Array.toList_inj.1 h)
theorem txt_ne9 {a b : ByteArray} (h : a ≠ b) : (a.toList == b.toList) = false := by
  rw [beq_eq_false_iff_ne]; exact fun e => h (bytes_inj9 e)
def Rl9 (u v : VMark) : Prop := rlB u.1 u.2.1 v.1 v.2.1 = true
def Tx9 (u v : VMark) : Prop := u.2.2 ≠ v.2.2
theorem rl_bef9 {a b c d : Int} (h : rlB a b c d = true) : Bef a b c d := by
  unfold rlB at h; simp only [Bool.and_eq_true] at h; exact befB_iff.1 h.2
theorem rl_not9 {a b c d : Int} (h : Bef c d a b) : rlB a b c d = false := by
  cases e : rlB a b c d
  · rfl
  · exact absurd h (bef_asymm (rl_bef9 e))
theorem rl_chain9 {xs : List VMark} (hg : plGood xs xs.length) : ∀ k (hk : k < xs.length) j (hj : j < k), rlB xs[j].1 xs[j].2.1 xs[k].1 xs[k].2.1 = true := by
  intro k
  induction k with
  | zero => intro hk j hj; omega
  | succ k ih =>
    intro hk j hj
    have h2 := (hg (k + 1) hk).2.2.1 (by omega)
    rw [mkAt_get hk, Nat.add_sub_cancel, mkAt_get (by omega)] at h2
    by_cases e : j = k
    · subst e; exact h2
    · exact rl_trans (ih (by omega) j (by omega)) h2
theorem rl_asymm9 {a b c d : Int} (h : rlB a b c d = true) : rlB c d a b = false := rl_not9 (rl_bef9 h)
theorem plB_pair {ys : List VMark} : plB ys = true ↔ (∀ v ∈ ys, goB v.1 v.2.1 = true ∧ tokB v.2.2 = true) ∧ ys.Pairwise Rl9 ∧ ys.Pairwise Tx9 ∧ ys.length ≤ 24 := by
  rw [plB_iff]
  constructor
  · rintro ⟨hg, hl⟩
    refine ⟨fun v hv => ?_, List.pairwise_iff_getElem.2 fun i j hi hj hij => rl_chain9 hg j hj i hij, List.pairwise_iff_getElem.2 fun i j hi hj hij => ?_, hl⟩
    · obtain ⟨i, hi, rfl⟩ := List.mem_iff_getElem.1 hv
      have := hg i hi
      rw [mkAt_get hi] at this
      exact ⟨this.1, this.2.1⟩
    · have := (hg j hj).2.2.2 i hij
      rw [mkAt_get hi, mkAt_get hj] at this
      exact this
  · rintro ⟨h1, h2, h3, h4⟩
    refine ⟨fun i hi => ?_, h4⟩
    rw [mkAt_get hi]
    refine ⟨(h1 _ (List.getElem_mem hi)).1, (h1 _ (List.getElem_mem hi)).2, fun h0 => ?_, fun j hj => ?_⟩
    · rw [mkAt_get (show i - 1 < ys.length by omega)]
      exact List.pairwise_iff_getElem.1 h2 (i - 1) i (by omega) hi (by omega)
    · rw [mkAt_get (show j < ys.length by omega)]
      exact List.pairwise_iff_getElem.1 h3 j i (by omega) hi hj
theorem put_len9 (m : VMark) (xs : List VMark) : (putL m xs).length = xs.length + 1 := by
  have := muN_le m.1 m.2.1 xs
  rw [putL_is]; simp only [List.length_append, List.length_take, List.length_drop, List.length_cons, List.length_nil]; omega
theorem drop_mid9 {L R : List VMark} {m : VMark} (h : ∀ v ∈ L ++ R, v.2.2 ≠ m.2.2) : dropL m.2.2 (L ++ [m] ++ R) = L ++ R := by
  have hL : L.filter (fun v => !(v.2.2.toList == m.2.2.toList)) = L := List.filter_eq_self.2 fun v hv => by rw [txt_ne9 (h v (List.mem_append_left _ hv))]; rfl
  have hR : R.filter (fun v => !(v.2.2.toList == m.2.2.toList)) = R := List.filter_eq_self.2 fun v hv => by rw [txt_ne9 (h v (List.mem_append_right _ hv))]; rfl
  unfold dropL
  rw [List.filter_append, List.filter_append, hL, hR]
  simp
theorem mid_ne9 {L R : List VMark} {m : VMark} (h : (L ++ [m] ++ R).Pairwise Tx9) : ∀ v ∈ L ++ R, v.2.2 ≠ m.2.2 := by
  rw [List.pairwise_append, List.pairwise_append] at h
  obtain ⟨⟨_, _, h1⟩, _, h2⟩ := h
  intro v hv
  rcases List.mem_append.1 hv with h9 | h9
  · exact h1 v h9 m (by simp)
  · exact fun e => h2 m (by simp) v h9 e.symm
theorem put_drop9 {m : VMark} {xs : List VMark} (h : plB (putL m xs) = true) : dropL m.2.2 (putL m xs) = xs := by
  have h3 := (plB_pair.1 h).2.2.1
  rw [putL_is] at h3 ⊢
  rw [drop_mid9 (mid_ne9 h3), List.take_append_drop]
theorem put_back9 {L R : List VMark} {m : VMark} (h : (L ++ [m] ++ R).Pairwise Rl9) : putL m (L ++ R) = L ++ [m] ++ R := by
  rw [List.pairwise_append, List.pairwise_append] at h
  obtain ⟨⟨_, _, h1⟩, _, h2⟩ := h
  have hk : muN m.1 m.2.1 (L ++ R) = L.length := by
    refine muN_is (by simp) ?_ (fun hlt => ?_)
    · rw [List.take_left, List.all_eq_true]
      intro v hv
      have := rl_asymm9 (h1 v hv m (by simp))
      unfold okP; rw [this]; rfl
    · have hm : (L ++ R)[L.length] ∈ R := by
        rw [List.getElem_append_right (Nat.le_refl _)]; exact List.getElem_mem _
      exact h2 m (by simp) _ hm
  rw [putL_is, hk, List.take_left, List.drop_left]
theorem split9 {xs : List VMark} {k : Nat} (hk : k < xs.length) : xs.take k ++ [xs[k]] ++ xs.drop (k + 1) = xs := by
  rw [List.append_assoc, List.singleton_append, List.getElem_cons_drop, List.take_append_drop]
theorem drop_put9 {xs : List VMark} {k : Nat} (h : plB xs = true) (hk : k < xs.length) : plB (dropL xs[k].2.2 xs) = true ∧ putL xs[k] (dropL xs[k].2.2 xs) = xs ∧ (dropL xs[k].2.2 xs).length + 1 = xs.length := by
  obtain ⟨h1, h2, h3, h4⟩ := plB_pair.1 h
  have hs := split9 hk
  generalize xs.take k = L at hs
  generalize xs.drop (k + 1) = R at hs
  generalize xs[k] = m at hs
  subst hs
  have hsub : (L ++ R).Sublist (L ++ [m] ++ R) := by rw [List.append_assoc]; exact (List.append_sublist_append_left L).2 (List.sublist_append_right [m] R)
  rw [drop_mid9 (mid_ne9 h3)]
  refine ⟨plB_pair.2 ⟨fun v hv => h1 v (hsub.subset hv), h2.sublist hsub, h3.sublist hsub, Nat.le_trans hsub.length_le h4⟩, put_back9 h2, by simp; omega⟩
theorem drop_same9 {t : ByteArray} {xs : List VMark} (h : ¬ (dropL t xs).length < xs.length) : dropL t xs = xs := by
  have hs : (dropL t xs).Sublist xs := List.filter_sublist
  exact hs.eq_of_length (by have := hs.length_le; omega)
theorem drop_none9 {t : ByteArray} {xs : List VMark} (h : ∀ v ∈ xs, (v.2.2.toList == t.toList) = false) : dropL t xs = xs := by
  unfold dropL; exact List.filter_eq_self.2 fun v hv => by rw [h v hv]; rfl
theorem put_q9 {m : VMark} {xs : List VMark} (h : ∀ v ∈ xs, v.2.2.size ≤ maxLen) (hm : m.2.2.size ≤ maxLen) : ∀ v ∈ putL m xs, v.2.2.size ≤ maxLen := by
  intro v hv
  rcases putL_mem hv with h9 | rfl
  · exact h v h9
  · exact hm
theorem drop_q9 {t : ByteArray} {xs : List VMark} (h : ∀ v ∈ xs, v.2.2.size ≤ maxLen) : ∀ v ∈ dropL t xs, v.2.2.size ≤ maxLen := fun v hv => h v (List.mem_filter.1 hv).1
set_option maxRecDepth 100000 in
set_option maxHeartbeats 4000000 in
theorem samePlate_is (A B : Option Addr) (ca cb : Nat) (xs : List VMark) {n : Nat} {w : World} (hn : xs.length = n) (hA : SRow encMark w A xs) (hB' : SRow encMark w B xs) (hl : n ≤ 2000000) :
    Calls Try.prog 19 #[.slice A n ca, .slice B n cb] w fun e w' => e = .returned (.bool true) ∧ Below w.heap.size w w' := by
  have HN := Lib.hid hn
  clear hn
  go_enter Try.func19, Try.ntmps19
  go_wp2_with fail
  go_loopw [5] (fun i wr => ∃ k : Nat, k ≤ n ∧ i = .int .i64 k ∧ Below w.heap.size w wr) (fun i _ => (n - intOf i).toNat)
  case atStart => exact ⟨0, by omega, rfl, Below.refl _ _⟩
  case round =>
    obtain ⟨k, k1, rfl, hB⟩ := hrel
    by_cases hlt : k < n
    · have hk : k < xs.length := by rw [HN.out]; exact hlt
      have hk1 : (k : Int) < (n : Int) := by omega
      obtain ⟨b, off, rfl, _, c0, c1, c2⟩ := rowMark (hA.next hB) hk
      obtain ⟨b', off', rfl, _, d0, d1, d2⟩ := rowMark (hB'.next hB) hk
      go_wp2_with fail
      refine wp_region_held_drew (S := (fun w' => (w'.cell? ⟨b, off + k * 3, none⟩ = some (.int .i64 xs[k].1) ∧ w'.cell? ⟨b, off + k * 3 + 1, none⟩ = some (.int .i64 xs[k].2.1) ∧ w'.cell? ⟨b, off + k * 3 + 2, none⟩ = some (.string xs[k].2.2)) ∧ (w'.cell? ⟨b', off' + k * 3, none⟩ = some (.int .i64 xs[k].1) ∧ w'.cell? ⟨b', off' + k * 3 + 1, none⟩ = some (.int .i64 xs[k].2.1) ∧ w'.cell? ⟨b', off' + k * 3 + 2, none⟩ = some (.string xs[k].2.2)) ∧ Below w.heap.size w w')) (by kernel_rfl) ⟨⟨c0, c1, c2⟩, ⟨d0, d1, d2⟩, hB.drew⟩ (fun hHeld => ?_)
      obtain ⟨_, _, hB_0⟩ := id hHeld
      refine wpAnyH_take (i := 0) (oi := _) (v := ?_) rfl (by kernel_rfl) (by kernel_rfl) (by kernel_rfl) (fun _ _ _ h => h) (Or.inl ⟨by rfl, ?_⟩) (by assumption) ?_
      (rotate_left); (focus (intro wv hSw; (obtain ⟨⟨q0, q1, q2⟩, ⟨r0, r1, r2⟩, qB⟩ := hSw); go_simp; (try with_reducible rfl)))
      try simp only [Act.put, List.getElem_toArray, List.getElem_cons_succ, List.getElem_cons_zero, List.setIfInBounds_toArray, List.set_cons_zero, List.set_cons_succ]
      refine wpAnyH_take (i := 1) (oi := _) (v := ?_) rfl (by kernel_rfl) (by kernel_rfl) (by kernel_rfl) (fun _ _ _ h => h) (Or.inl ⟨by rfl, ?_⟩) (by assumption) ?_
      (rotate_left); (focus (intro wv hSw; (obtain ⟨⟨q0, q1, q2⟩, ⟨r0, r1, r2⟩, qB⟩ := hSw); go_simp; (try with_reducible rfl)))
      try simp only [Act.put, List.getElem_toArray, List.getElem_cons_succ, List.getElem_cons_zero, List.setIfInBounds_toArray, List.set_cons_zero, List.set_cons_succ]
      refine wpAnyH_take (i := 2) (oi := _) (v := ?_) rfl (by kernel_rfl) (by kernel_rfl) (by kernel_rfl) (fun _ _ _ h => h) (Or.inl ⟨by rfl, ?_⟩) (by assumption) ?_
      (rotate_left); (focus (intro wv hSw; (obtain ⟨⟨q0, q1, q2⟩, ⟨r0, r1, r2⟩, qB⟩ := hSw); go_simp; (try with_reducible rfl)))
      try simp only [Act.put, List.getElem_toArray, List.getElem_cons_succ, List.getElem_cons_zero, List.setIfInBounds_toArray, List.set_cons_zero, List.set_cons_succ]
      refine wpAnyH_take (i := 3) (oi := _) (v := ?_) rfl (by kernel_rfl) (by kernel_rfl) (by kernel_rfl) (fun _ _ _ h => h) (Or.inl ⟨by rfl, ?_⟩) (by assumption) ?_
      (rotate_left); (focus (intro wv hSw; (obtain ⟨⟨q0, q1, q2⟩, ⟨r0, r1, r2⟩, qB⟩ := hSw); go_simp; (try with_reducible rfl)))
      try simp only [Act.put, List.getElem_toArray, List.getElem_cons_succ, List.getElem_cons_zero, List.setIfInBounds_toArray, List.set_cons_zero, List.set_cons_succ]
      refine wpAnyH_take (i := 4) (oi := _) (v := ?_) rfl (by kernel_rfl) (by kernel_rfl) (by kernel_rfl) (fun _ _ _ h => h) (Or.inl ⟨by rfl, ?_⟩) (by assumption) ?_
      (rotate_left); (focus (intro wv hSw; (obtain ⟨⟨q0, q1, q2⟩, ⟨r0, r1, r2⟩, qB⟩ := hSw); go_simp; (try with_reducible rfl)))
      try simp only [Act.put, List.getElem_toArray, List.getElem_cons_succ, List.getElem_cons_zero, List.setIfInBounds_toArray, List.set_cons_zero, List.set_cons_succ]
      refine wpAnyH_take (i := 5) (oi := _) (v := ?_) rfl (by kernel_rfl) (by kernel_rfl) (by kernel_rfl) (fun _ _ _ h => h) (Or.inl ⟨by rfl, ?_⟩) (by assumption) ?_
      (rotate_left); (focus (intro wv hSw; (obtain ⟨⟨q0, q1, q2⟩, ⟨r0, r1, r2⟩, qB⟩ := hSw); go_simp; (try with_reducible rfl)))
      try simp only [Act.put, List.getElem_toArray, List.getElem_cons_succ, List.getElem_cons_zero, List.setIfInBounds_toArray, List.set_cons_zero, List.set_cons_succ]
      refine wpAnyH_take (i := 6) (oi := _) (v := ?_) rfl (by kernel_rfl) (by kernel_rfl) (by kernel_rfl) (fun _ _ _ h => h) (Or.inl ⟨by rfl, ?_⟩) (by assumption) ?_
      (rotate_left); (focus (intro wv hSw; (obtain ⟨⟨q0, q1, q2⟩, ⟨r0, r1, r2⟩, qB⟩ := hSw); go_simp; (try with_reducible rfl)))
      try simp only [Act.put, List.getElem_toArray, List.getElem_cons_succ, List.getElem_cons_zero, List.setIfInBounds_toArray, List.set_cons_zero, List.set_cons_succ]
      refine wpAnyH_take (i := 7) (oi := _) (v := ?_) rfl (by kernel_rfl) (by kernel_rfl) (by kernel_rfl) (fun _ _ _ h => h) (Or.inl ⟨by rfl, ?_⟩) (by assumption) ?_
      (rotate_left); (focus (intro wv hSw; (obtain ⟨⟨q0, q1, q2⟩, ⟨r0, r1, r2⟩, qB⟩ := hSw); go_simp; (try with_reducible rfl)))
      try simp only [Act.put, List.getElem_toArray, List.getElem_cons_succ, List.getElem_cons_zero, List.setIfInBounds_toArray, List.set_cons_zero, List.set_cons_succ]
      refine wpAnyH_take (i := 8) (oi := _) (v := ?_) rfl (by kernel_rfl) (by kernel_rfl) (by kernel_rfl) (fun _ _ _ h => h) (Or.inl ⟨by rfl, ?_⟩) (by assumption) ?_
      (rotate_left); (focus (intro wv hSw; (obtain ⟨⟨q0, q1, q2⟩, ⟨r0, r1, r2⟩, qB⟩ := hSw); go_simp; (try with_reducible rfl)))
      try simp only [Act.put, List.getElem_toArray, List.getElem_cons_succ, List.getElem_cons_zero, List.setIfInBounds_toArray, List.set_cons_zero, List.set_cons_succ]
      refine wpAnyH_done (by kernel_rfl) ?_ _
      go_wp2_with fail
      go_roundw
      case rel => exact ⟨k + 1, by omega, by go_num, hB_0⟩
      case measure => simp [intOf]; omega
    · obtain rfl : k = n := by omega
      go_wp2_with fail
      go_ret
      exact ⟨rfl, hB⟩
set_option maxHeartbeats 4000000 in
theorem samePlate_no (A B : Option Addr) (ca cb n m : Nat) {w : World} (hne : n ≠ m) :
    Calls Try.prog 19 #[.slice A n ca, .slice B m cb] w fun e w' => e = .returned (.bool false) ∧ Below w.heap.size w w' := by
  go_enter Try.func19, Try.ntmps19
  have hni : ¬ (n : Int) = (m : Int) := by omega
  have hb : ((n : Int) != (m : Int)) = true := by rw [bne_iff_ne]; omega
  go_wp2_with fail
  go_ret
  exact ⟨rfl, Below.refl _ _⟩
end Go.Proofs.Ytidppabconifkab
