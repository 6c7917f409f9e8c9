/- The program's PlateValid. -/
import Derived.Test.YtidppabconifkabPv
import Derived.Test.YtidppabconifkabMp
import Derived.Test.YtidppabconifkabHd
namespace Go.Proofs.Ytidppabconifkab
open Go Go.ChangeShapes Go.WideShapes Go.ChangeAt Go.RowKit Go.Maps Go.WideMaps Go.MapKept
set_option linter.unusedSimpArgs false
set_option linter.unusedVariables false

/-- The text stands among the first k marks. -/
def seenF (xs : List VMark) (k : Nat) (s : ByteArray) : Bool := (xs.take k).any fun v => decide (v.2.2 = s)
theorem seenF_zero (xs : List VMark) : seenF xs 0 = fun _ => false := by funext s; simp [seenF]
theorem seenF_succ {xs : List VMark} {k : Nat} (hk : k < xs.length) : (fun u => decide (u = xs[k].2.2) || seenF xs k u) = seenF xs (k + 1) := by
  funext u
  unfold seenF
  rw [List.take_succ_eq_append_getElem hk, List.any_append, Bool.or_comm]
  congr 1
  simp [eq_comm]
theorem seen_bad {xs : List VMark} {k : Nat} (hk : k < xs.length) (h : seenF xs k xs[k].2.2 = true) : ¬ (plGood xs xs.length ∧ xs.length ≤ 24) := by
  rintro ⟨hg, _⟩
  unfold seenF at h
  rw [List.any_eq_true] at h
  obtain ⟨v, hv, he⟩ := h
  have he := of_decide_eq_true he
  obtain ⟨j, hj, rfl⟩ := List.mem_iff_getElem.1 hv
  have hj' : j < k := by simp at hj; omega
  have := (hg k hk).2.2.2 j hj'
  rw [mkAt_get hk, mkAt_get (by omega)] at this
  apply this
  rw [← he]; simp
theorem seen_good {xs : List VMark} {k : Nat} (hk : k < xs.length) (h : seenF xs k xs[k].2.2 = false) (hg : plGood xs k) (g : goB xs[k].1 xs[k].2.1 = true) (q : tokB xs[k].2.2 = true) (hr : 0 < k → rlB (mkAt xs (k - 1)).1 (mkAt xs (k - 1)).2.1 xs[k].1 xs[k].2.1 = true) : plGood xs (k + 1) := by
  intro i hi
  by_cases e : i = k
  · subst e
    rw [mkAt_get hk]
    refine ⟨g, q, hr, fun j hj he => ?_⟩
    rw [mkAt_get (by omega)] at he
    unfold seenF at h
    rw [List.any_eq_false] at h
    exact h xs[j] (List.mem_iff_getElem.2 ⟨j, by simp; omega, by simp⟩) (decide_eq_true he)
  · exact hg i (by omega)
theorem iGoP_is {a b : Int} {r : Bool} (w : World) (h : goB a b = r) : Calls Try.prog 57 #[.agg #[.int .i64 a, .int .i64 b]] w fun e w' => e = .returned (.bool r) ∧ Below w.heap.size w w' := by subst h; exact iGo_any a b w
theorem iTokP_is {s : ByteArray} {r : Bool} (w : World) (hs : s.size ≤ maxLen) (hr : tokB s = r) : Calls Try.prog 58 #[.string s] w fun e w' => e = .returned (.bool r) ∧ w = w' := by subst hr; exact iTok_any s w hs
theorem iRLP_is {a b c d : Int} (w : World) {r : Bool} (hr : rlB a b c d = r) : Calls Try.prog 59 #[.agg #[.int .i64 a, .int .i64 b], .agg #[.int .i64 c, .int .i64 d]] w fun e w' => e = .returned (.bool r) ∧ Below w.heap.size w w' := by
  subst hr; exact iRL_any a b c d w
set_option maxRecDepth 100000 in
set_option maxHeartbeats 16000000 in
theorem iPV_any (A : Option Addr) (cap : Nat) (xs : List VMark) {n : Nat} {r : Bool} (w : World) (hn : xs.length = n) (h : SRow encMark w A xs) (hq : ∀ v ∈ xs, v.2.2.size ≤ maxLen) (hl : n ≤ 2000000) (hr : PlR xs r) :
    Calls Try.prog 20 #[.slice A n cap] w fun e w' => e = .returned (.bool r) ∧ Below w.heap.size w w' := by
  have HN := Lib.hid hn
  have HR0 := hr
  have HQ := Lib.hid hq
  have H := Lib.hid h
  clear hn hr hq h
  by_cases hlen : 24 < n
  · have HB : Hid (r = false) := HR0.trans_false (fun h => by have := h.2; rw [HN.out] at this; omega)
    go_enter Try.func20, Try.ntmps20
    go_wp2_with fail
    go_ret
    exact ⟨ret_bool HB.out.symm, Below.refl _ _⟩
  · have hmm := @run_makeMap Try.prog
    go_enter Try.func20, Try.ntmps20
    go_wp2_with fail
    go_loopw [12] (fun v wr => ∃ k : Nat, k ≤ n ∧ v = .int .i64 k ∧ Hid (plGood xs k) ∧ TSet wr w.heap.size k (seenF xs k) ∧ Below w.heap.size w wr) (fun v _ => (n - intOf v).toNat)
    case atStart => exact ⟨0, by omega, rfl, Lib.hid (fun i hi => by omega), by rw [seenF_zero]; exact TSet.made w, bel1 _ _⟩
    case round =>
      obtain ⟨k, k1, rfl, HG, hT, hB⟩ := hrel
      by_cases hlt : k < n
      · have hk : k < xs.length := by rw [HN.out]; exact hlt
        have hk2 : (k : Int) < (n : Int) := by omega
        obtain ⟨b, off, rfl, hb, c0, c1, c2⟩ := rowMark (H.out.next hB) hk
        have HZ := Lib.hid (HQ.out xs[k] (List.getElem_mem hk))
        obtain ⟨g, hg⟩ : ∃ g, goB xs[k].1 xs[k].2.1 = g := ⟨_, rfl⟩
        have HGO := Lib.hid hg
        clear hg
        go_wp2_with fail
        refine (iGoP_is _ HGO.out).mono ?_; rintro e w1 ⟨rfl, hw1⟩
        obtain ⟨hL1, hC1⟩ := ownb hw1
        have hB1 := bel_next hB hC1
        have hT1 := hT.next hC1
        obtain ⟨d0, d1, d2, _, _, _, _⟩ := blk3 hL1
        cases g
        · have HB : Hid (r = false) := HR0.trans_false (fun h => by have := (h.1 k (by rw [HN.out]; exact hlt)).1; rw [mkAt_get hk, HGO.out] at this; cases this)
          go_wp2_with fail
          go_ret
          exact ⟨ret_bool HB.out.symm, hB1⟩
        · obtain ⟨q, hq⟩ : ∃ q, tokB xs[k].2.2 = q := ⟨_, rfl⟩
          have HTK := Lib.hid hq
          clear hq
          go_wp2_with fail
          refine (iTokP_is _ HZ.out HTK.out).mono ?_; rintro e w' ⟨rfl, rfl⟩
          cases q
          · have HB : Hid (r = false) := HR0.trans_false (fun h => by have := (h.1 k (by rw [HN.out]; exact hlt)).2.1; rw [mkAt_get hk, HTK.out] at this; cases this)
            go_wp2_with fail
            go_ret
            exact ⟨ret_bool HB.out.symm, hB1⟩
          · obtain ⟨s, hs⟩ : ∃ s, seenF xs k xs[k].2.2 = s := ⟨_, rfl⟩
            have hrun := hT1.run xs[k].2.2 HZ.out hs
            have HS := Lib.hid hs
            clear hs
            cases s
            · by_cases k0 : k ≤ 0
              · have k0i : ¬ 0 < (k : Int) := by omega
                have k0n : ¬ 0 < k := by omega
                have k0d : decide (0 < (k : Int)) = false := decide_eq_false k0i
                go_wp2_with fail
                refine wp_region_held_drew (S := (fun w' => w'.heap[wr.heap.size]? = some (.cells #[.int .i64 xs[k].1, .int .i64 xs[k].2.1, .string xs[k].2.2] 40) ∧ TSet w' w.heap.size k (seenF xs k) ∧ SRow encMark w' (some ⟨b, off, none⟩) xs ∧ Below w.heap.size w w')) (by kernel_rfl) ⟨hL1, hT1, (H.out.next hB1.drew), hB1.drew⟩ (fun hHeld => ?_)
                obtain ⟨hL_0, hT_0, hR_0, hB_0⟩ := id hHeld
                refine wpAnyH_take (i := 0) (oi := _) (v := ?_) rfl (by kernel_rfl) (by kernel_rfl) (by kernel_rfl) (fun _ _ _ h => h) (Or.inl ⟨by rfl, ?_⟩) (by assumption) ?_
                (rotate_left); (focus (intro wv hSw; (obtain ⟨qL, qT, qR, qB⟩ := hSw);  go_simp; (try with_reducible rfl)))
                try simp only [Act.put, List.getElem_toArray, List.getElem_cons_succ, List.getElem_cons_zero, List.setIfInBounds_toArray, List.set_cons_zero, List.set_cons_succ]
                refine wpAnyH_take (i := 1) (oi := _) (v := ?_) rfl (by kernel_rfl) (by kernel_rfl) (by kernel_rfl) (fun _ _ _ h => h) (Or.inl ⟨by rfl, ?_⟩) (by assumption) ?_
                (rotate_left); (focus (intro wv hSw; (obtain ⟨qL, qT, qR, qB⟩ := hSw);  go_simp; (try with_reducible rfl)))
                try simp only [Act.put, List.getElem_toArray, List.getElem_cons_succ, List.getElem_cons_zero, List.setIfInBounds_toArray, List.set_cons_zero, List.set_cons_succ]
                refine wpAnyH_take (i := 2) (oi := _) (v := ?_) rfl (by kernel_rfl) (by kernel_rfl) (by kernel_rfl) (fun _ _ _ h => h) (Or.inl ⟨by rfl, ?_⟩) (by assumption) ?_
                (rotate_left); (focus (intro wv hSw; (obtain ⟨qL, qT, qR, qB⟩ := hSw);  go_simp; (try with_reducible rfl)))
                try simp only [Act.put, List.getElem_toArray, List.getElem_cons_succ, List.getElem_cons_zero, List.setIfInBounds_toArray, List.set_cons_zero, List.set_cons_succ]
                refine wpAnyH_take (i := 3) (oi := _) (v := undef) rfl (by kernel_rfl) (by kernel_rfl) (by kernel_rfl) (fun _ _ _ h => h) (Or.inr ⟨by kernel_rfl, rfl⟩) (by assumption) ?_
                try simp only [Act.put, List.getElem_toArray, List.getElem_cons_succ, List.getElem_cons_zero, List.setIfInBounds_toArray, List.set_cons_zero, List.set_cons_succ]
                refine wpAnyH_take (i := 4) (oi := _) (v := undef) rfl (by kernel_rfl) (by kernel_rfl) (by kernel_rfl) (fun _ _ _ h => h) (Or.inr ⟨by kernel_rfl, rfl⟩) (by assumption) ?_
                try simp only [Act.put, List.getElem_toArray, List.getElem_cons_succ, List.getElem_cons_zero, List.setIfInBounds_toArray, List.set_cons_zero, List.set_cons_succ]
                refine wpAnyH_take (i := 5) (oi := _) (v := undef) rfl (by kernel_rfl) (by kernel_rfl) (by kernel_rfl) (fun _ _ _ h => h) (Or.inr ⟨by kernel_rfl, rfl⟩) (by assumption) ?_
                try simp only [Act.put, List.getElem_toArray, List.getElem_cons_succ, List.getElem_cons_zero, List.setIfInBounds_toArray, List.set_cons_zero, List.set_cons_succ]
                refine wpAnyH_take (i := 6) (oi := _) (v := undef) rfl (by kernel_rfl) (by kernel_rfl) (by kernel_rfl) (fun _ _ _ h => h) (Or.inr ⟨by kernel_rfl, rfl⟩) (by assumption) ?_
                try simp only [Act.put, List.getElem_toArray, List.getElem_cons_succ, List.getElem_cons_zero, List.setIfInBounds_toArray, List.set_cons_zero, List.set_cons_succ]
                refine wpAnyH_take (i := 7) (oi := _) (v := undef) rfl (by kernel_rfl) (by kernel_rfl) (by kernel_rfl) (fun _ _ _ h => h) (Or.inr ⟨by kernel_rfl, rfl⟩) (by assumption) ?_
                try simp only [Act.put, List.getElem_toArray, List.getElem_cons_succ, List.getElem_cons_zero, List.setIfInBounds_toArray, List.set_cons_zero, List.set_cons_succ]
                refine wpAnyH_take (i := 8) (oi := _) (v := undef) rfl (by kernel_rfl) (by kernel_rfl) (by kernel_rfl) (fun _ _ _ h => h) (Or.inr ⟨by kernel_rfl, rfl⟩) (by assumption) ?_
                try simp only [Act.put, List.getElem_toArray, List.getElem_cons_succ, List.getElem_cons_zero, List.setIfInBounds_toArray, List.set_cons_zero, List.set_cons_succ]
                refine wpAnyH_take (i := 9) (oi := _) (v := undef) rfl (by kernel_rfl) (by kernel_rfl) (by kernel_rfl) (fun _ _ _ h => h) (Or.inr ⟨by kernel_rfl, rfl⟩) (by assumption) ?_
                try simp only [Act.put, List.getElem_toArray, List.getElem_cons_succ, List.getElem_cons_zero, List.setIfInBounds_toArray, List.set_cons_zero, List.set_cons_succ]
                refine wpAnyH_take (i := 10) (oi := _) (v := undef) rfl (by kernel_rfl) (by kernel_rfl) (by kernel_rfl) (fun _ _ _ h => h) (Or.inr ⟨by kernel_rfl, rfl⟩) (by assumption) ?_
                try simp only [Act.put, List.getElem_toArray, List.getElem_cons_succ, List.getElem_cons_zero, List.setIfInBounds_toArray, List.set_cons_zero, List.set_cons_succ]
                refine wpAnyH_take (i := 11) (oi := _) (v := undef) rfl (by kernel_rfl) (by kernel_rfl) (by kernel_rfl) (fun _ _ _ h => h) (Or.inr ⟨by kernel_rfl, rfl⟩) (by assumption) ?_
                try simp only [Act.put, List.getElem_toArray, List.getElem_cons_succ, List.getElem_cons_zero, List.setIfInBounds_toArray, List.set_cons_zero, List.set_cons_succ]
                refine wpAnyH_take (i := 12) (oi := _) (v := undef) rfl (by kernel_rfl) (by kernel_rfl) (by kernel_rfl) (fun _ _ _ h => h) (Or.inr ⟨by kernel_rfl, rfl⟩) (by assumption) ?_
                try simp only [Act.put, List.getElem_toArray, List.getElem_cons_succ, List.getElem_cons_zero, List.setIfInBounds_toArray, List.set_cons_zero, List.set_cons_succ]
                refine wpAnyH_take (i := 13) (oi := _) (v := ?_) rfl (by kernel_rfl) (by kernel_rfl) (by kernel_rfl) (fun _ _ _ h => h) (Or.inl ⟨by rfl, ?_⟩) (by assumption) ?_
                (rotate_left); (focus (intro wv hSw; (obtain ⟨qL, qT, qR, qB⟩ := hSw);  go_simp; (try with_reducible rfl)))
                try simp only [Act.put, List.getElem_toArray, List.getElem_cons_succ, List.getElem_cons_zero, List.setIfInBounds_toArray, List.set_cons_zero, List.set_cons_succ]
                refine wpAnyH_done (by kernel_rfl) ?_ _
                obtain ⟨D, hD1, hown, hD3⟩ := hT_0
                obtain ⟨m0, m1, m2, _, _, _, _⟩ := blk3 hL_0
                go_wp2_with (at_mapUpdate; refine wpList_mapUpdate_own _ rfl _ _ _ 81 rfl 9 4 keyS Try.underlying81 _ w.heap.size k D rfl hown (by unfold maxLen; omega) _ _ _ rfl rfl (keyOf_string_mk Try.underlying9 HZ.out) _ [] (plainElem_bool Try.underlying4 true) ?_; intro w9 hown9 hgr9)
                go_roundw
                case rel =>
                  have hT9 := TSet.put HZ.out hD1 hD3 hown9
                  rw [seenF_succ hk] at hT9
                  exact ⟨k + 1, by omega, by go_num, Lib.hid (seen_good hk HS.out HG.out HGO.out HTK.out (fun h => absurd h (by omega))), hT9, hB_0.grown hgr9 hB_0.size (fun j hj => by have := Option.some.inj hj; omega)⟩
                case measure => simp [intOf]; omega
              · have hp : k - 1 < xs.length := by omega
                obtain ⟨v, hv⟩ : ∃ v, rlB xs[k - 1].1 xs[k - 1].2.1 xs[k].1 xs[k].2.1 = v := ⟨_, rfl⟩
                have HRL := Lib.hid hv
                clear hv
                have i0 : 0 < (k : Int) := by omega
                have i0n : 0 < k := by omega
                have i1 : IntKind.i64.wrap ((k : Int) - 1) = (k : Int) - 1 := IntWalk.i64_in _ (by omega)
                have i2 : 0 ≤ (k : Int) - 1 := by omega
                have i3 : ((k : Int) - 1).toNat = k - 1 := by omega
                have i4 : (k : Int) - 1 < (n : Int) := by omega
                have i5 : 1 ≤ (k : Int) := by omega
                cases v
                · have HB : Hid (r = false) := HR0.trans_false (fun h => by have := (h.1 k (by rw [HN.out]; exact hlt)).2.2.1 (by omega); rw [mkAt_get hk, mkAt_get hp, HRL.out] at this; cases this)
                  go_wp2_with fail
                  refine wp_region_held_drew (S := (fun w' => w'.heap[wr.heap.size]? = some (.cells #[.int .i64 xs[k].1, .int .i64 xs[k].2.1, .string xs[k].2.2] 40) ∧ TSet w' w.heap.size k (seenF xs k) ∧ SRow encMark w' (some ⟨b, off, none⟩) xs ∧ Below w.heap.size w w')) (by kernel_rfl) ⟨hL1, hT1, (H.out.next hB1.drew), hB1.drew⟩ (fun hHeld => ?_)
                  obtain ⟨hL_0, hT_0, hR_0, hB_0⟩ := id hHeld
                  refine wpAnyH_take (i := 0) (oi := _) (v := ?_) rfl (by kernel_rfl) (by kernel_rfl) (by kernel_rfl) (fun _ _ _ h => h) (Or.inl ⟨by rfl, ?_⟩) (by assumption) ?_
                  (rotate_left); (focus (intro wv hSw; (obtain ⟨qL, qT, qR, qB⟩ := hSw);  go_simp; (try with_reducible rfl)))
                  try simp only [Act.put, List.getElem_toArray, List.getElem_cons_succ, List.getElem_cons_zero, List.setIfInBounds_toArray, List.set_cons_zero, List.set_cons_succ]
                  refine wpAnyH_take (i := 1) (oi := _) (v := ?_) rfl (by kernel_rfl) (by kernel_rfl) (by kernel_rfl) (fun _ _ _ h => h) (Or.inl ⟨by rfl, ?_⟩) (by assumption) ?_
                  (rotate_left); (focus (intro wv hSw; (obtain ⟨qL, qT, qR, qB⟩ := hSw);  go_simp; (try with_reducible rfl)))
                  try simp only [Act.put, List.getElem_toArray, List.getElem_cons_succ, List.getElem_cons_zero, List.setIfInBounds_toArray, List.set_cons_zero, List.set_cons_succ]
                  refine wpAnyH_take (i := 2) (oi := _) (v := ?_) rfl (by kernel_rfl) (by kernel_rfl) (by kernel_rfl) (fun _ _ _ h => h) (Or.inl ⟨by rfl, ?_⟩) (by assumption) ?_
                  (rotate_left); (focus (intro wv hSw; (obtain ⟨qL, qT, qR, qB⟩ := hSw);  go_simp; (try with_reducible rfl)))
                  try simp only [Act.put, List.getElem_toArray, List.getElem_cons_succ, List.getElem_cons_zero, List.setIfInBounds_toArray, List.set_cons_zero, List.set_cons_succ]
                  refine wpAnyH_take (i := 3) (oi := _) (v := ?_) rfl (by kernel_rfl) (by kernel_rfl) (by kernel_rfl) (fun _ _ _ h => h) (Or.inl ⟨by rfl, ?_⟩) (by assumption) ?_
                  (rotate_left); (focus (intro wv hSw; (obtain ⟨qL, qT, qR, qB⟩ := hSw);  go_simp; (try with_reducible rfl)))
                  try simp only [Act.put, List.getElem_toArray, List.getElem_cons_succ, List.getElem_cons_zero, List.setIfInBounds_toArray, List.set_cons_zero, List.set_cons_succ]
                  refine wpAnyH_take (i := 4) (oi := _) (v := ?_) rfl (by kernel_rfl) (by kernel_rfl) (by kernel_rfl) (fun _ _ _ h => h) (Or.inl ⟨by rfl, ?_⟩) (by assumption) ?_
                  (rotate_left); (focus (intro wv hSw; (obtain ⟨qL, qT, qR, qB⟩ := hSw);  go_simp; (try with_reducible rfl)))
                  try simp only [Act.put, List.getElem_toArray, List.getElem_cons_succ, List.getElem_cons_zero, List.setIfInBounds_toArray, List.set_cons_zero, List.set_cons_succ]
                  refine wpAnyH_take (i := 5) (oi := _) (v := ?_) rfl (by kernel_rfl) (by kernel_rfl) (by kernel_rfl) (fun _ _ _ h => h) (Or.inl ⟨by rfl, ?_⟩) (by assumption) ?_
                  (rotate_left); (focus (intro wv hSw; (obtain ⟨qL, qT, qR, qB⟩ := hSw);  go_simp; (try with_reducible rfl)))
                  try simp only [Act.put, List.getElem_toArray, List.getElem_cons_succ, List.getElem_cons_zero, List.setIfInBounds_toArray, List.set_cons_zero, List.set_cons_succ]
                  refine wpAnyH_take (i := 6) (oi := _) (v := ?_) rfl (by kernel_rfl) (by kernel_rfl) (by kernel_rfl) (fun _ _ _ h => h) (Or.inl ⟨by rfl, ?_⟩) (by assumption) ?_
                  (rotate_left); (focus (intro wv hSw; (obtain ⟨qL, qT, qR, qB⟩ := hSw);  go_simp; (try with_reducible rfl)))
                  try simp only [Act.put, List.getElem_toArray, List.getElem_cons_succ, List.getElem_cons_zero, List.setIfInBounds_toArray, List.set_cons_zero, List.set_cons_succ]
                  refine wpAnyH_take (i := 7) (oi := _) (v := ?_) rfl (by kernel_rfl) (by kernel_rfl) (by kernel_rfl) (fun _ _ _ h => h) (Or.inl ⟨by rfl, ?_⟩) (by assumption) ?_
                  (rotate_left); (focus (intro wv hSw; (obtain ⟨qL, qT, qR, qB⟩ := hSw);  go_simp; (try with_reducible rfl)))
                  try simp only [Act.put, List.getElem_toArray, List.getElem_cons_succ, List.getElem_cons_zero, List.setIfInBounds_toArray, List.set_cons_zero, List.set_cons_succ]
                  refine wpAnyH_take (i := 8) (oi := _) (v := ?_) rfl (by kernel_rfl) (by kernel_rfl) (by kernel_rfl) (fun _ _ _ h => h) (Or.inl ⟨by rfl, ?_⟩) (by assumption) ?_
                  (rotate_left); (focus (intro wv hSw; (obtain ⟨qL, qT, qR, qB⟩ := hSw); obtain ⟨b2, off2, e2, _, u0, u1, _⟩ := rowMark qR (i := k - 1) (by omega); simp only [Option.some.injEq, Addr.mk.injEq, and_true] at e2; obtain ⟨rfl, rfl⟩ := e2; go_simp; (try with_reducible rfl)))
                  try simp only [Act.put, List.getElem_toArray, List.getElem_cons_succ, List.getElem_cons_zero, List.setIfInBounds_toArray, List.set_cons_zero, List.set_cons_succ]
                  refine wpAnyH_take (i := 9) (oi := _) (v := ?_) rfl (by kernel_rfl) (by kernel_rfl) (by kernel_rfl) (fun _ _ _ h => h) (Or.inl ⟨by rfl, ?_⟩) (by assumption) ?_
                  (rotate_left); (focus (intro wv hSw; (obtain ⟨qL, qT, qR, qB⟩ := hSw);  go_simp; (try with_reducible rfl)))
                  try simp only [Act.put, List.getElem_toArray, List.getElem_cons_succ, List.getElem_cons_zero, List.setIfInBounds_toArray, List.set_cons_zero, List.set_cons_succ]
                  refine wpAnyH_take (i := 10) (oi := _) (v := ?_) rfl (by kernel_rfl) (by kernel_rfl) (by kernel_rfl) (fun _ _ _ h => h) (Or.inl ⟨by rfl, ?_⟩) (by assumption) ?_
                  (rotate_left); (focus (intro wv hSw; (obtain ⟨qL, qT, qR, qB⟩ := hSw); obtain ⟨u0, u1, u2, _, _, _, _⟩ := blk3 qL; go_simp; (try with_reducible rfl)))
                  try simp only [Act.put, List.getElem_toArray, List.getElem_cons_succ, List.getElem_cons_zero, List.setIfInBounds_toArray, List.set_cons_zero, List.set_cons_succ]
                  refine wpAnyH_ready (rs := [11]) (by kernel_rfl) (by simp) ?_
                  refine AllReadyH.cons (o := _) rfl (fun K hK => ?_) AllReadyH.nil
                  go_simp
                  (go_at_call 59; refine (iRLP_is _ HRL.out).mono ?_; rintro e x0c ⟨rfl, hw_0c⟩)
                  refine hK.out _ _ ⟨blk_next hL_0 hw_0c, hT_0.next hw_0c, hR_0.next hw_0c, bel_next hB_0 hw_0c⟩ (fun hHeld => ?_)
                  clear hK K
                  try simp only [Act.put, List.getElem_toArray, List.getElem_cons_succ, List.getElem_cons_zero, List.setIfInBounds_toArray, List.set_cons_zero, List.set_cons_succ]
                  obtain ⟨hL_0c, hT_0c, hR_0c, hB_0c⟩ := id hHeld
                  refine wpAnyH_take (i := 12) (oi := _) (v := ?_) rfl (by kernel_rfl) (by kernel_rfl) (by kernel_rfl) (fun _ _ _ h => h) (Or.inl ⟨by rfl, ?_⟩) (by assumption) ?_
                  (rotate_left); (focus (intro wv hSw; (obtain ⟨qL, qT, qR, qB⟩ := hSw);  go_simp; (try with_reducible rfl)))
                  try simp only [Act.put, List.getElem_toArray, List.getElem_cons_succ, List.getElem_cons_zero, List.setIfInBounds_toArray, List.set_cons_zero, List.set_cons_succ]
                  refine wpAnyH_take (i := 13) (oi := _) (v := ?_) rfl (by kernel_rfl) (by kernel_rfl) (by kernel_rfl) (fun _ _ _ h => h) (Or.inl ⟨by rfl, ?_⟩) (by assumption) ?_
                  (rotate_left); (focus (intro wv hSw; (obtain ⟨qL, qT, qR, qB⟩ := hSw);  go_simp; (try with_reducible rfl)))
                  try simp only [Act.put, List.getElem_toArray, List.getElem_cons_succ, List.getElem_cons_zero, List.setIfInBounds_toArray, List.set_cons_zero, List.set_cons_succ]
                  refine wpAnyH_done (by kernel_rfl) ?_ _
                  go_wp2_with fail
                  go_ret
                  exact ⟨ret_bool HB.out.symm, hB_0c⟩
                · go_wp2_with fail
                  refine wp_region_held_drew (S := (fun w' => w'.heap[wr.heap.size]? = some (.cells #[.int .i64 xs[k].1, .int .i64 xs[k].2.1, .string xs[k].2.2] 40) ∧ TSet w' w.heap.size k (seenF xs k) ∧ SRow encMark w' (some ⟨b, off, none⟩) xs ∧ Below w.heap.size w w')) (by kernel_rfl) ⟨hL1, hT1, (H.out.next hB1.drew), hB1.drew⟩ (fun hHeld => ?_)
                  obtain ⟨hL_0, hT_0, hR_0, hB_0⟩ := id hHeld
                  refine wpAnyH_take (i := 0) (oi := _) (v := ?_) rfl (by kernel_rfl) (by kernel_rfl) (by kernel_rfl) (fun _ _ _ h => h) (Or.inl ⟨by rfl, ?_⟩) (by assumption) ?_
                  (rotate_left); (focus (intro wv hSw; (obtain ⟨qL, qT, qR, qB⟩ := hSw);  go_simp; (try with_reducible rfl)))
                  try simp only [Act.put, List.getElem_toArray, List.getElem_cons_succ, List.getElem_cons_zero, List.setIfInBounds_toArray, List.set_cons_zero, List.set_cons_succ]
                  refine wpAnyH_take (i := 1) (oi := _) (v := ?_) rfl (by kernel_rfl) (by kernel_rfl) (by kernel_rfl) (fun _ _ _ h => h) (Or.inl ⟨by rfl, ?_⟩) (by assumption) ?_
                  (rotate_left); (focus (intro wv hSw; (obtain ⟨qL, qT, qR, qB⟩ := hSw);  go_simp; (try with_reducible rfl)))
                  try simp only [Act.put, List.getElem_toArray, List.getElem_cons_succ, List.getElem_cons_zero, List.setIfInBounds_toArray, List.set_cons_zero, List.set_cons_succ]
                  refine wpAnyH_take (i := 2) (oi := _) (v := ?_) rfl (by kernel_rfl) (by kernel_rfl) (by kernel_rfl) (fun _ _ _ h => h) (Or.inl ⟨by rfl, ?_⟩) (by assumption) ?_
                  (rotate_left); (focus (intro wv hSw; (obtain ⟨qL, qT, qR, qB⟩ := hSw);  go_simp; (try with_reducible rfl)))
                  try simp only [Act.put, List.getElem_toArray, List.getElem_cons_succ, List.getElem_cons_zero, List.setIfInBounds_toArray, List.set_cons_zero, List.set_cons_succ]
                  refine wpAnyH_take (i := 3) (oi := _) (v := ?_) rfl (by kernel_rfl) (by kernel_rfl) (by kernel_rfl) (fun _ _ _ h => h) (Or.inl ⟨by rfl, ?_⟩) (by assumption) ?_
                  (rotate_left); (focus (intro wv hSw; (obtain ⟨qL, qT, qR, qB⟩ := hSw);  go_simp; (try with_reducible rfl)))
                  try simp only [Act.put, List.getElem_toArray, List.getElem_cons_succ, List.getElem_cons_zero, List.setIfInBounds_toArray, List.set_cons_zero, List.set_cons_succ]
                  refine wpAnyH_take (i := 4) (oi := _) (v := ?_) rfl (by kernel_rfl) (by kernel_rfl) (by kernel_rfl) (fun _ _ _ h => h) (Or.inl ⟨by rfl, ?_⟩) (by assumption) ?_
                  (rotate_left); (focus (intro wv hSw; (obtain ⟨qL, qT, qR, qB⟩ := hSw);  go_simp; (try with_reducible rfl)))
                  try simp only [Act.put, List.getElem_toArray, List.getElem_cons_succ, List.getElem_cons_zero, List.setIfInBounds_toArray, List.set_cons_zero, List.set_cons_succ]
                  refine wpAnyH_take (i := 5) (oi := _) (v := ?_) rfl (by kernel_rfl) (by kernel_rfl) (by kernel_rfl) (fun _ _ _ h => h) (Or.inl ⟨by rfl, ?_⟩) (by assumption) ?_
                  (rotate_left); (focus (intro wv hSw; (obtain ⟨qL, qT, qR, qB⟩ := hSw);  go_simp; (try with_reducible rfl)))
                  try simp only [Act.put, List.getElem_toArray, List.getElem_cons_succ, List.getElem_cons_zero, List.setIfInBounds_toArray, List.set_cons_zero, List.set_cons_succ]
                  refine wpAnyH_take (i := 6) (oi := _) (v := ?_) rfl (by kernel_rfl) (by kernel_rfl) (by kernel_rfl) (fun _ _ _ h => h) (Or.inl ⟨by rfl, ?_⟩) (by assumption) ?_
                  (rotate_left); (focus (intro wv hSw; (obtain ⟨qL, qT, qR, qB⟩ := hSw);  go_simp; (try with_reducible rfl)))
                  try simp only [Act.put, List.getElem_toArray, List.getElem_cons_succ, List.getElem_cons_zero, List.setIfInBounds_toArray, List.set_cons_zero, List.set_cons_succ]
                  refine wpAnyH_take (i := 7) (oi := _) (v := ?_) rfl (by kernel_rfl) (by kernel_rfl) (by kernel_rfl) (fun _ _ _ h => h) (Or.inl ⟨by rfl, ?_⟩) (by assumption) ?_
                  (rotate_left); (focus (intro wv hSw; (obtain ⟨qL, qT, qR, qB⟩ := hSw);  go_simp; (try with_reducible rfl)))
                  try simp only [Act.put, List.getElem_toArray, List.getElem_cons_succ, List.getElem_cons_zero, List.setIfInBounds_toArray, List.set_cons_zero, List.set_cons_succ]
                  refine wpAnyH_take (i := 8) (oi := _) (v := ?_) rfl (by kernel_rfl) (by kernel_rfl) (by kernel_rfl) (fun _ _ _ h => h) (Or.inl ⟨by rfl, ?_⟩) (by assumption) ?_
                  (rotate_left); (focus (intro wv hSw; (obtain ⟨qL, qT, qR, qB⟩ := hSw); obtain ⟨b2, off2, e2, _, u0, u1, _⟩ := rowMark qR (i := k - 1) (by omega); simp only [Option.some.injEq, Addr.mk.injEq, and_true] at e2; obtain ⟨rfl, rfl⟩ := e2; go_simp; (try with_reducible rfl)))
                  try simp only [Act.put, List.getElem_toArray, List.getElem_cons_succ, List.getElem_cons_zero, List.setIfInBounds_toArray, List.set_cons_zero, List.set_cons_succ]
                  refine wpAnyH_take (i := 9) (oi := _) (v := ?_) rfl (by kernel_rfl) (by kernel_rfl) (by kernel_rfl) (fun _ _ _ h => h) (Or.inl ⟨by rfl, ?_⟩) (by assumption) ?_
                  (rotate_left); (focus (intro wv hSw; (obtain ⟨qL, qT, qR, qB⟩ := hSw);  go_simp; (try with_reducible rfl)))
                  try simp only [Act.put, List.getElem_toArray, List.getElem_cons_succ, List.getElem_cons_zero, List.setIfInBounds_toArray, List.set_cons_zero, List.set_cons_succ]
                  refine wpAnyH_take (i := 10) (oi := _) (v := ?_) rfl (by kernel_rfl) (by kernel_rfl) (by kernel_rfl) (fun _ _ _ h => h) (Or.inl ⟨by rfl, ?_⟩) (by assumption) ?_
                  (rotate_left); (focus (intro wv hSw; (obtain ⟨qL, qT, qR, qB⟩ := hSw); obtain ⟨u0, u1, u2, _, _, _, _⟩ := blk3 qL; go_simp; (try with_reducible rfl)))
                  try simp only [Act.put, List.getElem_toArray, List.getElem_cons_succ, List.getElem_cons_zero, List.setIfInBounds_toArray, List.set_cons_zero, List.set_cons_succ]
                  refine wpAnyH_ready (rs := [11]) (by kernel_rfl) (by simp) ?_
                  refine AllReadyH.cons (o := _) rfl (fun K hK => ?_) AllReadyH.nil
                  go_simp
                  (go_at_call 59; refine (iRLP_is _ HRL.out).mono ?_; rintro e x0c ⟨rfl, hw_0c⟩)
                  refine hK.out _ _ ⟨blk_next hL_0 hw_0c, hT_0.next hw_0c, hR_0.next hw_0c, bel_next hB_0 hw_0c⟩ (fun hHeld => ?_)
                  clear hK K
                  try simp only [Act.put, List.getElem_toArray, List.getElem_cons_succ, List.getElem_cons_zero, List.setIfInBounds_toArray, List.set_cons_zero, List.set_cons_succ]
                  obtain ⟨hL_0c, hT_0c, hR_0c, hB_0c⟩ := id hHeld
                  refine wpAnyH_take (i := 12) (oi := _) (v := ?_) rfl (by kernel_rfl) (by kernel_rfl) (by kernel_rfl) (fun _ _ _ h => h) (Or.inl ⟨by rfl, ?_⟩) (by assumption) ?_
                  (rotate_left); (focus (intro wv hSw; (obtain ⟨qL, qT, qR, qB⟩ := hSw);  go_simp; (try with_reducible rfl)))
                  try simp only [Act.put, List.getElem_toArray, List.getElem_cons_succ, List.getElem_cons_zero, List.setIfInBounds_toArray, List.set_cons_zero, List.set_cons_succ]
                  refine wpAnyH_take (i := 13) (oi := _) (v := ?_) rfl (by kernel_rfl) (by kernel_rfl) (by kernel_rfl) (fun _ _ _ h => h) (Or.inl ⟨by rfl, ?_⟩) (by assumption) ?_
                  (rotate_left); (focus (intro wv hSw; (obtain ⟨qL, qT, qR, qB⟩ := hSw);  go_simp; (try with_reducible rfl)))
                  try simp only [Act.put, List.getElem_toArray, List.getElem_cons_succ, List.getElem_cons_zero, List.setIfInBounds_toArray, List.set_cons_zero, List.set_cons_succ]
                  refine wpAnyH_done (by kernel_rfl) ?_ _
                  obtain ⟨D, hD1, hown, hD3⟩ := hT_0c
                  obtain ⟨m0, m1, m2, _, _, _, _⟩ := blk3 hL_0c
                  go_wp2_with (at_mapUpdate; refine wpList_mapUpdate_own _ rfl _ _ _ 81 rfl 9 4 keyS Try.underlying81 _ w.heap.size k D rfl hown (by unfold maxLen; omega) _ _ _ rfl rfl (keyOf_string_mk Try.underlying9 HZ.out) _ [] (plainElem_bool Try.underlying4 true) ?_; intro w9 hown9 hgr9)
                  go_roundw
                  case rel =>
                    have hT9 := TSet.put HZ.out hD1 hD3 hown9
                    rw [seenF_succ hk] at hT9
                    exact ⟨k + 1, by omega, by go_num, Lib.hid (seen_good hk HS.out HG.out HGO.out HTK.out (fun _ => by rw [mkAt_get (by omega)]; exact HRL.out)), hT9, hB_0c.grown hgr9 hB_0c.size (fun j hj => by have := Option.some.inj hj; omega)⟩
                  case measure => simp [intOf]; omega
            · have HB : Hid (r = false) := HR0.trans_false (seen_bad hk HS.out)
              go_wp2_with fail
              go_ret
              exact ⟨ret_bool HB.out.symm, hB1⟩
      · have hk2 : ¬ (k : Int) < (n : Int) := by omega
        have HB : Hid (r = true) := by
          show _ = _
          have h' : plB xs = r := HR0
          rw [← h']
          refine plB_iff.2 ⟨?_, by rw [HN.out]; omega⟩
          have := HG.out
          rwa [show k = xs.length by rw [HN.out]; omega] at this
        go_wp2_with fail
        go_ret
        exact ⟨ret_bool HB.out.symm, hB⟩
end Go.Proofs.Ytidppabconifkab
