/- slices.Repeat of one number, slices.Index and slices.Contains at numbers. -/
import Derived.Test.YtaikodebmkjafaaGNum
import Derived.Test.YtaikodebmkjafaaHlp2
import Derived.Test.YtaikodebmkjafaaSo
import Derived.Laws.CopyOwn
import Derived.Deep.RegionLaw
import Derived.RegionTactic
namespace Go.Proofs.Ytaikodebmkjafaa
open Go Go.ChangeShapes Go.WideShapes Go.ChangeAt Go.RowKit Go.Deep
set_option linter.unusedSimpArgs false
set_option linter.unusedVariables false
set_option linter.unnecessarySimpa false

set_option maxRecDepth 100000 in
theorem mul64_any (n : Nat) (w : World) (hn : n ≤ 8) : Calls Try.prog 96 #[.int .u64 1, .int .u64 n] w fun e w' => e = .returned (.tuple #[.int .u64 0, .int .u64 n]) ∧ w = w' := by
  have : n = 0 ∨ n = 1 ∨ n = 2 ∨ n = 3 ∨ n = 4 ∨ n = 5 ∨ n = 6 ∨ n = 7 ∨ n = 8 := by omega
  rcases this with rfl | rfl | rfl | rfl | rfl | rfl | rfl | rfl | rfl
  all_goals
    go_enter Try.func96, Try.ntmps96
    go_wp2
    go_ret2
    exact ⟨rfl, rfl⟩
set_option maxRecDepth 100000 in
theorem mul_any (n : Nat) (w : World) (hn : n ≤ 8) : Calls Try.prog 90 #[.int .u64 1, .int .u64 n] w fun e w' => e = .returned (.tuple #[.int .u64 0, .int .u64 n]) ∧ w = w' := by
  have h0 : (0 : Int) ≤ (n : Int) := by omega
  have h1 : (n : Int) ≤ 8 := by omega
  go_enter Try.func90, Try.ntmps90
  go_wp2_with (go_at_call 96; refine (mul64_any n _ hn).mono ?_; rintro E w' ⟨rfl, rfl⟩)
  all_goals go_ret2
  all_goals exact ⟨rfl, rfl⟩
/-- A list of which the first c places hold x. -/
def fillR (x : Int) (n c : Nat) : List Int := List.replicate c x ++ List.replicate (n - c) 0
theorem fillR_len {x : Int} {n c : Nat} (h : c ≤ n) : (fillR x n c).length = n := by simp [fillR]; omega
theorem fillR_flat (x : Int) (n c : Nat) : encNum.flat (fillR x n c) = List.replicate c (.int .i64 x) ++ List.replicate (n - c) (.int .i64 0) := by
  have e : ∀ (l : List Int), encNum.flat l = l.map (Value.int .i64) := by
    intro l; induction l with
    | nil => rfl
    | cons y l ih => show encNum.enc y ++ encNum.flat l = _; rw [ih]; rfl
  rw [e, fillR]; simp
theorem fillR_next {x : Int} {n c m : Nat} (h : c + m ≤ n) : splice (encNum.flat (fillR x n c)) c (List.replicate m (.int .i64 x)) = encNum.flat (fillR x n (c + m)) := by
  rw [fillR_flat, fillR_flat]
  unfold splice
  rw [List.take_append_of_le_length (by simp), List.take_of_length_le (by simp), List.length_replicate, List.drop_append]
  simp only [List.drop_replicate, List.length_replicate]
  rw [show c - (c + m) = 0 by omega, show n - c - (c + m - c) = n - (c + m) by omega, ← List.append_assoc, List.replicate_append_replicate]
  simp
def RepRet (x : Int) (n : Nat) (w : World) (e : Ending) (w' : World) : Prop := ∃ q : Nat, e = .returned (.slice (some ⟨q, 0, none⟩) n n) ∧ w.heap.size ≤ q ∧ SBlk encNum w' q 3 (List.replicate n x) ∧ Below w.heap.size w w'
set_option maxRecDepth 100000 in
set_option maxHeartbeats 4000000 in
theorem repN (g : Nat) (x : Int) (n : Nat) (w : World) (hg : w.heap[g]? = some (.cells #[.int .i64 x] 3 (0, 0))) (hn8 : n ≤ 8) :
    Calls Try.prog 64 #[.slice (some ⟨g, 0, none⟩) 1 1, .int .i64 n] w (RepRet x n w) := by
  obtain ⟨i0, hi0, hz0, hz1, hz2⟩ := info_parts infoNum
  have hbn : i0.bytes * n ≤ 281474976710656 := by rw [hz2]; omega
  have HI := Lib.hid (And.intro hi0 (And.intro hz0 (And.intro hz1 hbn)))
  clear hi0 hz0 hz1 hz2 hbn
  have hsz : (Try.prog.info? 3).map (·.size) = some 1 := by kernel_rfl
  have HZ := Lib.hid hsz
  clear hsz
  have HG := Lib.hid hg
  clear hg
  have h0 : (0 : Int) ≤ (n : Int) := by omega
  have h1 : (n : Int) ≤ 8 := by omega
  have hB0 := bel1 w (.cells (encNum.flat (List.replicate n 0)).toArray 3)
  have hK0 : (w.alloc (.cells (encNum.flat (List.replicate n 0)).toArray 3)).heap[w.heap.size]? = some (.cells (encNum.flat (fillR x n 0)).toArray 3 (0, 0)) := by
    have := blk_new w (.cells (encNum.flat (List.replicate n 0)).toArray 3)
    rw [this]; simp [fillR]
  have HK0 := Lib.hid hK0
  have HB0 := Lib.hid hB0
  clear hK0 hB0
  by_cases hn0 : n = 0
  · subst hn0
    go_enter Try.func64, Try.ntmps64
    go_wp2_with (first | (go_at_call 90; refine (mul_any 0 _ (by omega)).mono ?_; rintro E w' ⟨rfl, rfl⟩) | (at_make; refine wpList_make_structs _ encNum (0 : Int) rfl _ _ 23 rfl 3 i0 _ Try.underlying23 HI.out.1 HI.out.2.1 HI.out.2.2.1 rfl .i64 .i64 0 rfl rfl HI.out.2.2.2 (by omega) ?_) | (refine wpList_copy_splice rfl (.tmp 31) (.tmp 32) _ _ rfl 3 Try.underlying23 HZ.out _ _ _ _ _ _ rfl rfl w.heap.size 0 (encNum.flat (fillR x 0 0)) 3 HK0.out [] rfl (by intro h; simp at h) (by simp [fillR_flat]) (by simp) w.heap.size w HB0.out (Nat.le_refl _) ?_; intro w2 HG2 hB2))
    go_loopw [8] (fun v wr => v = .int .i64 0 ∧ w2 = wr) (fun _ _ => 0)
    case atStart => exact ⟨rfl, rfl⟩
    case round =>
      obtain ⟨rfl, rfl⟩ := hrel
      go_wp2
      go_ret
      exact ⟨w.heap.size, rfl, Nat.le_refl _, by have := HG2.out; simpa [splice, fillR, SBlk] using this, hB2⟩
  · have hsrc : ∀ j v, [Value.int .i64 x][j]? = some v → (w.alloc (.cells (encNum.flat (List.replicate n 0)).toArray 3)).cell? ((⟨g, 0, none⟩ : Addr).add j) = some v := by
      intro j v hj
      have hlt := blk_lt HG.out
      have hb := HB0.out.block g hlt
      obtain rfl : j = 0 := by have := (List.getElem?_eq_some_iff.1 hj).1; simp at this; exact this
      simp at hj; subst hj
      rw [Addr.add_lit]
      have h9 := hb.trans HG.out
      simp [World.cell?, h9]
    have HS := Lib.hid hsrc
    clear hsrc
    go_enter Try.func64, Try.ntmps64
    go_wp2_with (first | (go_at_call 90; refine (mul_any n _ hn8).mono ?_; rintro E w' ⟨rfl, rfl⟩) | (at_make; refine wpList_make_structs _ encNum (0 : Int) rfl _ _ 23 rfl 3 i0 _ Try.underlying23 HI.out.1 HI.out.2.1 HI.out.2.2.1 rfl .i64 .i64 n rfl rfl HI.out.2.2.2 (by omega) ?_) | (refine wpList_copy_splice rfl (.tmp 31) (.tmp 32) _ _ rfl 3 Try.underlying23 HZ.out _ _ _ _ _ _ rfl rfl w.heap.size 0 (encNum.flat (fillR x n 0)) 3 HK0.out [.int .i64 x] (by show 1 = min 1 n; omega) (fun _ => ⟨rfl, _, rfl, HS.out⟩) (by rw [fillR_flat]; simp; omega) (by intro u hu; simp at hu; subst hu; rfl) w.heap.size w HB0.out (Nat.le_refl _) ?_; intro w2 HG2 hB2))
    go_loopw [8] (fun v wr => ∃ c : Nat, v = .int .i64 c ∧ 1 ≤ c ∧ c ≤ n ∧ SBlk encNum wr w.heap.size 3 (fillR x n c) ∧ Below w.heap.size w wr) (fun v _ => (n - intOf v).toNat)
    case atStart =>
      refine ⟨1, rfl, by omega, by omega, ?_, hB2⟩
      have h9 := HG2.out
      have e9 := fillR_next (x := x) (n := n) (c := 0) (m := 1) (by omega)
      rw [show List.replicate 1 (Value.int .i64 x) = [Value.int .i64 x] from rfl] at e9
      rw [e9] at h9
      exact h9
    case round =>
      clear HG2 hB2
      obtain ⟨c, rfl, c1, c2, hQ, hB⟩ := hrel
      by_cases hlt : c < n
      · obtain ⟨m, hm⟩ : ∃ m, min c (n - c) = m := ⟨_, rfl⟩
        have hm1 : 1 ≤ m := by omega
        have hm2 : c + m ≤ n := by omega
        have HM := Lib.hid hm
        clear hm
        have hci : (c : Int) < (n : Int) := by omega
        have hci2 : (c : Int) ≤ (n : Int) := by omega
        have hcn : ¬ (n = c) := by omega
        have hw9 : IntKind.i64.wrap ((c : Int) + (m : Int)) = (c : Int) + (m : Int) := IntWalk.i64_in _ (by omega)
        have hsrc2 : ∀ j v, (List.replicate m (Value.int .i64 x))[j]? = some v → wr.drew.cell? ((⟨w.heap.size, 0, none⟩ : Addr).add j) = some v := by
          intro j v hj
          have hjl := (List.getElem?_eq_some_iff.1 hj).1
          rw [List.length_replicate] at hjl
          have hjm : j < (fillR x n c).length := by rw [fillR_len c2]; omega
          have hjc : j < c := by have := HM.out; omega
          have h9 := blkNum hQ hjm
          have e9 : (fillR x n c)[j] = x := by simp [fillR, List.getElem_append, hjc]
          rw [e9] at h9
          rw [Addr.add_lit, Nat.zero_add]
          simp [hjl] at hj
          rw [← hj]; exact h9
        have HS2 := Lib.hid hsrc2
        have HQ2 : Hid (wr.drew.heap[w.heap.size]? = some (.cells (encNum.flat (fillR x n c)).toArray 3 (0, 0))) := Lib.hid hQ
        have HB2 := Lib.hid hB.drew
        clear hsrc2 hQ hB
        go_wp2_with fail
        refine wp_region_held_drew (S := (fun w' => Below w.heap.size w w')) (by kernel_rfl) HB2.out (fun hHeld => ?_)
        have hB_0 := id hHeld
        refine wpAnyH_take (i := 0) (oi := _) (v := ?_) rfl (by kernel_rfl) (by kernel_rfl) (by kernel_rfl) (fun _ _ _ h => h) (Or.inl ⟨by rfl, ?_⟩) (by assumption) ?_
        (rotate_left); (focus (intro wv hSw; (try dsimp only at hSw); go_simp; (try with_reducible rfl)))
        try simp only [Act.put, List.getElem_toArray, List.getElem_cons_succ, List.getElem_cons_zero, List.setIfInBounds_toArray, List.set_cons_zero, List.set_cons_succ]
        refine wpAnyH_take (i := 1) (oi := _) (v := ?_) rfl (by kernel_rfl) (by kernel_rfl) (by kernel_rfl) (fun _ _ _ h => h) (Or.inl ⟨by rfl, ?_⟩) (by assumption) ?_
        (rotate_left); (focus (intro wv hSw; (try dsimp only at hSw); go_simp; (try with_reducible rfl)))
        try simp only [Act.put, List.getElem_toArray, List.getElem_cons_succ, List.getElem_cons_zero, List.setIfInBounds_toArray, List.set_cons_zero, List.set_cons_succ]
        refine wpAnyH_take (i := 2) (oi := _) (v := ?_) rfl (by kernel_rfl) (by kernel_rfl) (by kernel_rfl) (fun _ _ _ h => h) (Or.inl ⟨by rfl, ?_⟩) (by assumption) ?_
        (rotate_left); (focus (intro wv hSw; (try dsimp only at hSw); go_simp; (try with_reducible rfl)))
        try simp only [Act.put, List.getElem_toArray, List.getElem_cons_succ, List.getElem_cons_zero, List.setIfInBounds_toArray, List.set_cons_zero, List.set_cons_succ]
        refine wpAnyH_take (i := 3) (oi := _) (v := ?_) rfl (by kernel_rfl) (by kernel_rfl) (by kernel_rfl) (fun _ _ _ h => h) (Or.inl ⟨by rfl, ?_⟩) (by assumption) ?_
        (rotate_left); (focus (intro wv hSw; (try dsimp only at hSw); go_simp; (try with_reducible rfl)))
        try simp only [Act.put, List.getElem_toArray, List.getElem_cons_succ, List.getElem_cons_zero, List.setIfInBounds_toArray, List.set_cons_zero, List.set_cons_succ]
        refine wpAnyH_take (i := 4) (oi := _) (v := ?_) rfl (by kernel_rfl) (by kernel_rfl) (by kernel_rfl) (fun _ _ _ h => h) (Or.inl ⟨by rfl, ?_⟩) (by assumption) ?_
        (rotate_left); (focus (intro wv hSw; (try dsimp only at hSw); go_simp; (try with_reducible rfl)))
        try simp only [Act.put, List.getElem_toArray, List.getElem_cons_succ, List.getElem_cons_zero, List.setIfInBounds_toArray, List.set_cons_zero, List.set_cons_succ]
        refine wpAnyH_take (i := 5) (oi := _) (v := ?_) rfl (by kernel_rfl) (by kernel_rfl) (by kernel_rfl) (fun _ _ _ h => h) (Or.inl ⟨by rfl, ?_⟩) (by assumption) ?_
        (rotate_left); (focus (intro wv hSw; (try dsimp only at hSw); go_simp; (try with_reducible rfl)))
        try simp only [Act.put, List.getElem_toArray, List.getElem_cons_succ, List.getElem_cons_zero, List.setIfInBounds_toArray, List.set_cons_zero, List.set_cons_succ]
        refine wpAnyH_take (i := 6) (oi := _) (v := ?_) rfl (by kernel_rfl) (by kernel_rfl) (by kernel_rfl) (fun _ _ _ h => h) (Or.inl ⟨by rfl, ?_⟩) (by assumption) ?_
        (rotate_left); (focus (intro wv hSw; (try dsimp only at hSw); go_simp; (try with_reducible rfl)))
        try simp only [Act.put, List.getElem_toArray, List.getElem_cons_succ, List.getElem_cons_zero, List.setIfInBounds_toArray, List.set_cons_zero, List.set_cons_succ]
        refine wpAnyH_ready (rs := [7]) (by kernel_rfl) (by simp) ?_
        refine AllReadyH.cons (o := _) rfl (fun K hK => ?_) AllReadyH.nil
        refine step_copy_splice rfl (.tmp 41) (.tmp 44) _ _ rfl 3 Try.underlying23 HZ.out _ _ _ _ _ _ rfl rfl w.heap.size c (encNum.flat (fillR x n c)) 3 HQ2.out (List.replicate m (Value.int .i64 x)) (by rw [List.length_replicate]; exact HM.out.symm) (fun _ => ⟨rfl, _, rfl, HS2.out⟩) (by rw [fillR_flat]; simp; omega) (by intro u hu; obtain ⟨_, rfl⟩ := List.mem_replicate.1 hu; rfl) w.heap.size w HB2.out (Nat.le_refl _) ?_
        intro w4 HG4 hB4
        refine hK.out _ _ hB4 (fun hHeld => ?_)
        clear hK K
        try simp only [Act.put, List.getElem_toArray, List.getElem_cons_succ, List.getElem_cons_zero, List.setIfInBounds_toArray, List.set_cons_zero, List.set_cons_succ]
        have hB_1 := id hHeld
        have hlr : (List.replicate m (Value.int .i64 x)).length = m := List.length_replicate
        rw [hlr]
        clear hlr
        refine wpAnyH_take (i := 8) (oi := _) (v := ?_) rfl (by kernel_rfl) (by kernel_rfl) (by kernel_rfl) (fun _ _ _ h => h) (Or.inl ⟨by rfl, ?_⟩) (by assumption) ?_
        (rotate_left); (focus (intro wv hSw; (try dsimp only at hSw); go_simp; (try with_reducible rfl)))
        try simp only [Act.put, List.getElem_toArray, List.getElem_cons_succ, List.getElem_cons_zero, List.setIfInBounds_toArray, List.set_cons_zero, List.set_cons_succ]
        refine wpAnyH_take (i := 9) (oi := _) (v := ?_) rfl (by kernel_rfl) (by kernel_rfl) (by kernel_rfl) (fun _ _ _ h => h) (Or.inl ⟨by rfl, ?_⟩) (by assumption) ?_
        (rotate_left); (focus (intro wv hSw; (try dsimp only at hSw); go_simp; (try with_reducible rfl)))
        try simp only [Act.put, List.getElem_toArray, List.getElem_cons_succ, List.getElem_cons_zero, List.setIfInBounds_toArray, List.set_cons_zero, List.set_cons_succ]
        refine wpAnyH_done (by kernel_rfl) ?_ _
        go_wp2_with fail
        go_roundw
        case rel => exact ⟨c + m, by go_num, by omega, by omega, by have h9 := HG4.out; rw [fillR_next hm2] at h9; exact h9, hB4⟩
        case measure => simp [intOf]; omega
      · obtain rfl : c = n := by omega
        go_wp2_with fail
        go_ret
        exact ⟨w.heap.size, rfl, Nat.le_refl _, by simpa [fillR] using hQ, hB⟩
/-- The index of the first x, or -1. -/
def fst9 (xs : List Int) (x : Int) : Int := if x ∈ xs then ((xs.idxOf x : Nat) : Int) else -1
theorem fst9_no {xs : List Int} {x : Int} {n : Nat} (hn : xs.length = n) (h : ∀ y ∈ xs.take n, y ≠ x) : fst9 xs x = -1 := by
  unfold fst9; rw [if_neg]; intro hm; rw [List.take_of_length_le (by omega)] at h; exact h x hm rfl
theorem fst9_at {xs : List Int} {x : Int} {k : Nat} (hk : k < xs.length) (h : ∀ y ∈ xs.take k, y ≠ x) (he : xs[k] = x) : fst9 xs x = k := by
  have hm : x ∈ xs := by rw [← he]; exact List.getElem_mem hk
  unfold fst9; rw [if_pos hm]
  have e : xs = xs.take k ++ xs[k] :: xs.drop (k + 1) := by
    conv => lhs; rw [← List.take_append_drop k xs, List.drop_eq_getElem_cons hk]
  have e2 : xs.idxOf x = k := by
    rw [e, List.idxOf_append, if_neg (fun hc => h x hc rfl), he, List.idxOf_cons_self]
    simp; omega
  rw [e2]
theorem fst9_nn {xs : List Int} {x : Int} : decide (0 ≤ fst9 xs x) = xs.contains x := by
  unfold fst9
  by_cases h : x ∈ xs
  · rw [if_pos h]; simp [h]
  · rw [if_neg h]; simp [h]
set_option maxHeartbeats 4000000 in
theorem s9Has (A : Option Addr) (cap : Nat) (xs : List Int) (x : Int) {n : Nat} {r : Bool} (w : World) (hn : xs.length = n) (hA : SRow encNum w A xs) (hl : n ≤ 2000000) (hr : xs.contains x = r) :
    Calls Try.prog 60 #[.slice A n cap, .int .i64 x] w fun e w' => e = .returned (.bool r) ∧ Below w.heap.size w w' := by
  have HR := Lib.hid hr
  have HN := Lib.hid hn
  clear hr hn
  go_enter Try.func60, Try.ntmps60
  go_wp2_with fail
  go_loopw [5] (fun i wr => ∃ k : Nat, k ≤ n ∧ i = .int .i64 k ∧ Hid (∀ y ∈ xs.take k, y ≠ x) ∧ Below w.heap.size w wr) (fun i _ => (n - intOf i).toNat)
  case atStart => exact ⟨0, by omega, rfl, Lib.hid (by simp), Below.refl _ _⟩
  case round =>
    obtain ⟨k, k1, rfl, HF, hB⟩ := hrel
    by_cases hlt : k < n
    · have hk : k < xs.length := by rw [HN.out]; exact hlt
      obtain ⟨b, off, rfl, hb, c0⟩ := rowNum (hA.next hB) hk
      have hi1 : (k : Int) < (n : Int) := by omega
      by_cases he : xs[k] = x
      · have HE : Hid (r = true) := Lib.hid (by rw [← HR.out, List.contains_iff_mem, ← he]; exact List.getElem_mem hk)
        have he2 : (xs[k] == x) = true := by simpa using he
        clear he
        go_wp2_with fail
        go_ret
        exact ⟨ret_bool HE.out.symm, hB⟩
      · have HF2 : Hid (∀ y ∈ xs.take (k + 1), y ≠ x) := by
          refine Lib.hid ?_
          intro y hy
          rw [List.take_succ_eq_append_getElem hk] at hy
          rcases List.mem_append.1 hy with h1 | h1
          · exact HF.out y h1
          · rw [List.mem_singleton.1 h1]; exact he
        have he2 : (xs[k] == x) = false := by simpa using he
        clear he HF
        go_wp2_with fail
        go_roundw
        case rel => exact ⟨k + 1, by omega, by go_num, HF2, hB⟩
        case measure => simp [intOf]; omega
    · obtain rfl : k = n := by omega
      have hki : ¬ (k : Int) < (k : Int) := by omega
      have HE : Hid (r = false) := Lib.hid (by
        rw [← HR.out, ← Bool.not_eq_true, List.contains_iff_mem]
        intro h9
        have := HF.out
        rw [List.take_of_length_le (by rw [HN.out]; omega)] at this
        exact this x h9 rfl)
      go_wp2_with fail
      go_ret
      exact ⟨ret_bool HE.out.symm, hB⟩
end Go.Proofs.Ytaikodebmkjafaa
