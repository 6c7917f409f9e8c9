/- Contracts of chapter 9: the table of lines, the program. -/
import Derived.Laws.AppendOwn
import Derived.Test.YtoklehmoeollfaaNc
import Derived.Test.YtoklehmoeollfaaQf
namespace Go.Proofs.Ytoklehmoeollfaa
open Go Go.ChangeShapes Go.WideShapes Go.ChangeAt Go.RowKit
set_option linter.unusedSimpArgs false
set_option linter.unusedVariables false

def enc6 : Enc (Int × Int × Int × Int × Int × Int) := ⟨6, fun x => [.int .i64 x.1, .int .i64 x.2.1, .int .i64 x.2.2.1, .int .i64 x.2.2.2.1, .int .i64 x.2.2.2.2.1, .int .i64 x.2.2.2.2.2], fun _ => rfl, by intro x u hu; simp at hu; rcases hu with rfl | rfl | rfl | rfl | rfl | rfl <;> rfl, by omega⟩
theorem info6 : (Try.prog.info? 62).map (fun i => (i.zero, i.size, i.bytes)) = some (some (.agg #[.int .i64 0, .int .i64 0, .int .i64 0, .int .i64 0, .int .i64 0, .int .i64 0]), 6, 48) := by kernel_rfl
theorem flat6 : ∀ N : Nat, enc6.flat (List.replicate N (0, 0, 0, 0, 0, 0)) = encNum.flat (List.replicate (6 * N) 0)
  | 0 => rfl
  | N + 1 => by
    rw [List.replicate_succ, Enc.flat_cons, flat6 N, show 6 * (N + 1) = 6 * N + 1 + 1 + 1 + 1 + 1 + 1 by omega]
    simp only [List.replicate_succ, Enc.flat_cons]
    rfl
/-- The table so far: whole rows, and the first places of one. -/
structure TabIs (fs : List Int) (N k j : Nat) (xs : List Int) : Prop where
  len : xs.length = 6 * N
  at_ : ∀ s q, s < N → q < 6 → xs.getD (s * 6 + q) 0 = if s < k ∨ (s = k ∧ q < j) then LT fs (s : Int) q else 0
section
variable {fs xs : List Int} {N k j : Nat}
theorem TabIs.zero : TabIs fs N 0 0 (List.replicate (6 * N) 0) := ⟨by simp, fun s q hs hq => by
  rw [if_neg (by omega)]; simp [List.getD, List.getElem?_replicate]; split <;> rfl⟩
theorem TabIs.set (h : TabIs fs N k j xs) (hk : k < N) (hj : j < 6) : TabIs fs N k (j + 1) (xs.set (k * 6 + j) (LT fs (k : Int) j)) := ⟨by simp [h.len], fun s q hs hq => by
  have hl := h.len
  by_cases e : s = k ∧ q = j
  · obtain ⟨rfl, rfl⟩ := e
    rw [if_pos (by omega)]
    simp [List.getD, show s * 6 + q < xs.length by omega]
  · have hne : k * 6 + j ≠ s * 6 + q := by omega
    have := h.at_ s q hs hq
    simp only [List.getD, List.getElem?_set_ne hne] at this ⊢
    rw [this]
    by_cases c : s < k ∨ (s = k ∧ q < j)
    · rw [if_pos c, if_pos (by omega)]
    · rw [if_neg c, if_neg (by omega)]⟩
theorem TabIs.skip (h : TabIs fs N k j xs) (h0 : LT fs (k : Int) j = 0) : TabIs fs N k (j + 1) xs := ⟨h.len, fun s q hs hq => by
  rw [h.at_ s q hs hq]
  by_cases e : s = k ∧ q = j
  · obtain ⟨rfl, rfl⟩ := e
    rw [if_neg (by omega), if_pos (by omega), h0]
  · by_cases c : s < k ∨ (s = k ∧ q < j)
    · rw [if_pos c, if_pos (by omega)]
    · rw [if_neg c, if_neg (by omega)]⟩
theorem TabIs.row (h : TabIs fs N k j xs) (h0 : ∀ q, j ≤ q → q < 6 → LT fs (k : Int) q = 0) : TabIs fs N (k + 1) 0 xs := ⟨h.len, fun s q hs hq => by
  rw [h.at_ s q hs hq]
  by_cases c : s < k ∨ (s = k ∧ q < j)
  · rw [if_pos c, if_pos (by omega)]
  · rw [if_neg c]
    by_cases e : s = k
    · subst e
      rw [if_pos (by omega), h0 q (by omega) hq]
    · rw [if_neg (by omega)]⟩
theorem TabIs.old (h : TabIs fs N k j xs) {s q : Nat} (hs : s < k) (hk : k ≤ N) (hq : q < 6) : xs.getD (s * 6 + q) 0 = LT fs (s : Int) q := by
  rw [h.at_ s q (by omega) hq, if_pos (Or.inl hs)]
end
theorem out_al : ∀ n : Fin 7, ∀ s : Fin 64, ∀ q : Fin 6, (s : Nat) < 2 ^ (n : Nat) → (n : Nat) ≤ q → isB (s : Nat) q = false := by decide +kernel
theorem two_N : ∀ n : Fin 7, (2 : Int) ^ (n : Nat) = ((2 ^ (n : Nat) : Nat) : Int) ∧ 2 ^ (n : Nat) ≤ 64 ∧ 1 ≤ 2 ^ (n : Nat) ∧ alI n = ((2 ^ (n : Nat) : Nat) : Int) - 1 := by decide +kernel
theorem lt_out {fs : List Int} {n s q : Nat} (hn : n ≤ 6) (hs : s < 2 ^ n) (h1 : n ≤ q) (h2 : q < 6) : LT fs (s : Int) q = 0 := by
  have h64 := (two_N ⟨n, by omega⟩).2.1
  simp only at h64
  exact LT_no (by omega) (by omega) h2 (out_al ⟨n, by omega⟩ ⟨s, by omega⟩ ⟨q, h2⟩ hs h1)
theorem getD_at {xs : List Int} {i : Nat} (h : i < xs.length) : xs[i] = xs.getD i 0 := by simp [h]
theorem iLb_tab {fs xs : List Int} {g N cap s k j : Nat} {F r : Int} (w : World) (hs0 : 0 < s) (hsk : s < k) (hk : k ≤ N) (hN : N ≤ 64) (hT : SBlk encNum w g 62 xs) (ht : TabIs fs N k j xs) (hr : lB fs (s : Int) F = r) :
    Calls Try.prog 55 #[.slice (some ⟨g, 0, none⟩) N cap, .int .i64 s, .int .i64 F] w fun E w' => E = .returned (.int .i64 r) ∧ Below w.heap.size w w' := by
  have hl := ht.len
  have c : ∀ q, q < 6 → w.cell? ⟨g, s * 6 + q, none⟩ = some (.int .i64 (LT fs s q)) := fun q hq => by
    have := blkNum hT (i := s * 6 + q) (by omega)
    rw [this, getD_at (by omega), ht.old hsk hk hq]
  have b : ∀ q, 0 ≤ LT fs s q ∧ LT fs s q ≤ 50000 := fun q => ⟨LT_nn _ _, by have := LT_le (fs := fs) (s : Int) q; omega⟩
  refine (iLb_is w hs0 (by omega) hN (c 0 (by omega)) (c 1 (by omega)) (c 2 (by omega)) (c 3 (by omega)) (c 4 (by omega)) (c 5 (by omega)) (b 0) (b 1) (b 2) (b 3) (b 4) (b 5) (r := r) ?_).mono fun _ _ h => ⟨h.1, h.2 ▸ Below.refl _ _⟩
  rw [← hr, lB_some F (by omega)]
  refine sm_congr (fun q hq => ?_)
  have e : q = 0 ∨ q = 1 ∨ q = 2 ∨ q = 3 ∨ q = 4 ∨ q = 5 := by omega
  unfold hQ
  rcases e with rfl | rfl | rfl | rfl | rfl | rfl <;> rfl
theorem iLb_nil {g N cap : Nat} {F : Int} (w : World) : Calls Try.prog 55 #[.slice (some ⟨g, 0, none⟩) N cap, .int .i64 0, .int .i64 F] w fun E w' => E = .returned (.int .i64 1) ∧ Below w.heap.size w w' := (iLb_zero w).mono fun _ _ h => ⟨h.1, h.2 ▸ Below.refl _ _⟩
def TabRet (fs : List Int) (N : Nat) (w : World) (E : Ending) (w' : World) : Prop := ∃ (g : Nat) (xs : List Int), E = .returned (.slice (some ⟨g, 0, none⟩) N N) ∧ w.heap.size ≤ g ∧ SBlk encNum w' g 62 xs ∧ TabIs fs N N 0 xs ∧ Below w.heap.size w w'
set_option maxRecDepth 100000 in
set_option maxHeartbeats 4000000 in
theorem iLt_is (A : Option Addr) (cap : Nat) (fs : List Int) {n : Nat} (w : World) (hn : fs.length = n) (h : SRow encNum w A fs) (h6 : n ≤ 6) (hf : frB fs = true) {N : Nat} (hN : 2 ^ n = N) :
    Calls Try.prog 53 #[.slice A n cap] w fun E w' => TabRet fs N w E w' := by
  obtain ⟨hpow, hN64, hN1, halN⟩ := two_N ⟨n, by omega⟩
  simp only at hpow hN64 hN1 halN
  have HAL := Lib.hid halN
  have HFR : Hid (∀ a, a < n → FrAt fs fs.length a) := Lib.hid (fun a ha => (frB_iff.1 hf).2 a (by omega))
  have HF := Lib.hid hf
  have HN := Lib.hid hn
  have HOUT : Hid (∀ s q : Nat, s < 2 ^ n → n ≤ q → q < 6 → LT fs (s : Int) q = 0) := Lib.hid (fun s q a c d => lt_out h6 a c d)
  have hwp : wrap64 ((2 : Int) ^ n) = ((2 ^ n : Nat) : Int) := by rw [hpow]; exact IntWalk.wrap64_in _ (by omega)
  clear hf hn hpow halN
  rw [hN] at hN64 hN1 hwp HAL HOUT
  clear hN
  have hni : (n : Int) ≤ 64 := by omega
  obtain ⟨i0, hi0, hz0, hz1, hz2⟩ := info_parts info6
  have hbn : i0.bytes * N ≤ 281474976710656 := by rw [hz2]; omega
  have HI := Lib.hid (And.intro hi0 (And.intro hz0 (And.intro hz1 hbn)))
  clear hi0 hz0 hz1 hz2 hbn
  go_enter Try.func53, Try.ntmps53
  go_wp2_with (at_make; refine wpList_make_structs _ enc6 (0, 0, 0, 0, 0, 0) rfl _ _ 59 rfl 62 i0 _ Try.underlying59 HI.out.1 HI.out.2.1 HI.out.2.2.1 rfl .i64 .i64 N ?_ ?_ HI.out.2.2.2 (by omega) ?_; (exact congrArg (Value.int .i64) hwp); (exact congrArg (Value.int .i64) hwp))
  clear hwp
  go_loopw [12] (fun v wr => ∃ (k : Nat) (xs : List Int), v = .int .i64 k ∧ k ≤ N ∧ Hid (TabIs fs N k 0 xs) ∧ SBlk encNum wr w.heap.size 62 xs ∧ Below w.heap.size w wr) (fun v _ => (N - intOf v).toNat)
  case atStart => exact ⟨0, _, rfl, by omega, Lib.hid TabIs.zero, by unfold SBlk; rw [flat6]; exact blk_new w _, bel1 _ _⟩
  case round =>
    obtain ⟨k, xs, rfl, k1, HT, hT, hB⟩ := hrel
    by_cases hlt : k < N
    · have hki : (k : Int) < (N : Int) := by omega
      go_wp2_with fail
      go_loopw [17] (fun v wr => ∃ (j : Nat) (xs : List Int), v = .int .i64 j ∧ j ≤ n ∧ Hid (TabIs fs N k j xs) ∧ SBlk encNum wr w.heap.size 62 xs ∧ Below w.heap.size w wr) (fun v _ => (n - intOf v).toNat)
      case atStart => exact ⟨0, xs, rfl, by omega, HT, hT, hB⟩
      case round =>
        clear HT hT hB
        clear xs
        obtain ⟨j, xs, rfl, j1, HT, hT, hB⟩ := hrel
        by_cases hjt : j < n
        · have hji : (j : Int) < (n : Int) := by omega
          have hj : j < fs.length := by rw [HN.out]; exact hjt
          have hj6 : j < 6 := by omega
          have hj6i : (j : Int) < 6 := by omega
          obtain ⟨b, off, rfl, hb, c0⟩ := rowNum h hj
          have hne : b ≠ w.heap.size := by omega
          obtain ⟨v, hv⟩ : ∃ v, isB (k : Int) j = v := ⟨_, rfl⟩
          have HV := Lib.hid hv
          clear hv
          go_wp2_with fail
          refine (iIs_q (j := j) _ (by omega) HV.out).mono ?_; rintro E w' ⟨rfl, rfl⟩
          cases v
          · have HT2 := Lib.hid (HT.out.skip (LT_no (by omega) (by omega) hj6 HV.out))
            clear HT
            go_wp2_with fail
            go_roundw
            case rel => exact ⟨j + 1, _, by go_num, by omega, HT2, hT, hB⟩
            case measure => simp [intOf]; omega
          · have hwb := woI_bd (x := (k : Int)) (j := j) (by omega) (by omega) hj6
            have hwl := wo_lt (x := (k : Int)) (j := j) (by omega) (by omega) hj6 HV.out
            have HG : Hid (fs.getD j 0 = fs[j]) := Lib.hid (by simp [hj])
            have HL := Lib.hid (LT_yes (fs := fs) (S := (k : Int)) (p := j) (by omega) (by omega) hj6 HV.out)
            have hlen := HT.out.len
            have hidx : k * 6 + j < xs.length := by omega
            generalize fs[j] = F at c0 HG
            have HLen := Lib.hid hlen
            clear hlen
            have hT_0 : SBlk encNum wr.drew w.heap.size 62 xs := hT
            by_cases hz : woI (k : Int) j = 0
            · have HS := Lib.hid hz
              have HQ : Hid (TabIs fs N k (j + 1) (xs.set (k * 6 + j) 1)) := Lib.hid (by have := HT.out.set hlt hj6; rwa [HL.out, hz, lB_zero] at this)
              clear hz hwb hwl HL
              go_wp2_with fail
              refine wp_region_held_drew (S := (fun w' => Below w.heap.size w w')) (by kernel_rfl) (hB.drew) (fun hHeld => ?_)
              have hB_0 := id hHeld
              refine wpAnyH_take (i := 0) (oi := _) (v := ?_) rfl (by kernel_rfl) (by kernel_rfl) (by kernel_rfl) (fun _ _ _ h => h) (Or.inl ⟨by rfl, ?_⟩) (by assumption) ?_
              (rotate_left); (focus (intro wv hSw; (have qB := hSw); have cc := celS_next c0 qB; go_simp; (try with_reducible rfl)))
              try simp only [Act.put, List.getElem_toArray, List.getElem_cons_succ, List.getElem_cons_zero, List.setIfInBounds_toArray, List.set_cons_zero, List.set_cons_succ]
              refine wpAnyH_take (i := 1) (oi := _) (v := ?_) rfl (by kernel_rfl) (by kernel_rfl) (by kernel_rfl) (fun _ _ _ h => h) (Or.inl ⟨by rfl, ?_⟩) (by assumption) ?_
              (rotate_left); (focus (intro wv hSw; (have qB := hSw); have cc := celS_next c0 qB; go_simp; (try with_reducible rfl)))
              try simp only [Act.put, List.getElem_toArray, List.getElem_cons_succ, List.getElem_cons_zero, List.setIfInBounds_toArray, List.set_cons_zero, List.set_cons_succ]
              refine wpAnyH_take (i := 2) (oi := _) (v := ?_) rfl (by kernel_rfl) (by kernel_rfl) (by kernel_rfl) (fun _ _ _ h => h) (Or.inl ⟨by rfl, ?_⟩) (by assumption) ?_
              (rotate_left); (focus (intro wv hSw; (have qB := hSw); have cc := celS_next c0 qB; go_simp; (try with_reducible rfl)))
              try simp only [Act.put, List.getElem_toArray, List.getElem_cons_succ, List.getElem_cons_zero, List.setIfInBounds_toArray, List.set_cons_zero, List.set_cons_succ]
              refine wpAnyH_take (i := 3) (oi := _) (v := ?_) rfl (by kernel_rfl) (by kernel_rfl) (by kernel_rfl) (fun _ _ _ h => h) (Or.inl ⟨by rfl, ?_⟩) (by assumption) ?_
              (rotate_left); (focus (intro wv hSw; (have qB := hSw); have cc := celS_next c0 qB; go_simp; (try with_reducible rfl)))
              try simp only [Act.put, List.getElem_toArray, List.getElem_cons_succ, List.getElem_cons_zero, List.setIfInBounds_toArray, List.set_cons_zero, List.set_cons_succ]
              refine wpAnyH_take (i := 4) (oi := _) (v := ?_) rfl (by kernel_rfl) (by kernel_rfl) (by kernel_rfl) (fun _ _ _ h => h) (Or.inl ⟨by rfl, ?_⟩) (by assumption) ?_
              (rotate_left); (focus (intro wv hSw; (have qB := hSw); have cc := celS_next c0 qB; go_simp; (try with_reducible rfl)))
              try simp only [Act.put, List.getElem_toArray, List.getElem_cons_succ, List.getElem_cons_zero, List.setIfInBounds_toArray, List.set_cons_zero, List.set_cons_succ]
              refine wpAnyH_take (i := 5) (oi := _) (v := ?_) rfl (by kernel_rfl) (by kernel_rfl) (by kernel_rfl) (fun _ _ _ h => h) (Or.inl ⟨by rfl, ?_⟩) (by assumption) ?_
              (rotate_left); (focus (intro wv hSw; (have qB := hSw); have cc := celS_next c0 qB; go_simp; (try with_reducible rfl)))
              try simp only [Act.put, List.getElem_toArray, List.getElem_cons_succ, List.getElem_cons_zero, List.setIfInBounds_toArray, List.set_cons_zero, List.set_cons_succ]
              refine wpAnyH_take (i := 7) (oi := _) (v := ?_) rfl (by kernel_rfl) (by kernel_rfl) (by kernel_rfl) (fun _ _ _ h => h) (Or.inl ⟨by rfl, ?_⟩) (by assumption) ?_
              (rotate_left); (focus (intro wv hSw; (have qB := hSw); have cc := celS_next c0 qB; go_simp; (try with_reducible rfl)))
              try simp only [Act.put, List.getElem_toArray, List.getElem_cons_succ, List.getElem_cons_zero, List.setIfInBounds_toArray, List.set_cons_zero, List.set_cons_succ]
              refine wpAnyH_take (i := 8) (oi := _) (v := ?_) rfl (by kernel_rfl) (by kernel_rfl) (by kernel_rfl) (fun _ _ _ h => h) (Or.inl ⟨by rfl, ?_⟩) (by assumption) ?_
              (rotate_left); (focus (intro wv hSw; (have qB := hSw); have cc := celS_next c0 qB; go_simp; (try with_reducible rfl)))
              try simp only [Act.put, List.getElem_toArray, List.getElem_cons_succ, List.getElem_cons_zero, List.setIfInBounds_toArray, List.set_cons_zero, List.set_cons_succ]
              refine wpAnyH_take (i := 9) (oi := _) (v := ?_) rfl (by kernel_rfl) (by kernel_rfl) (by kernel_rfl) (fun _ _ _ h => h) (Or.inl ⟨by rfl, ?_⟩) (by assumption) ?_
              (rotate_left); (focus (intro wv hSw; (have qB := hSw); have cc := celS_next c0 qB; go_simp; (try with_reducible rfl)))
              try simp only [Act.put, List.getElem_toArray, List.getElem_cons_succ, List.getElem_cons_zero, List.setIfInBounds_toArray, List.set_cons_zero, List.set_cons_succ]
              refine wpAnyH_take (i := 10) (oi := _) (v := ?_) rfl (by kernel_rfl) (by kernel_rfl) (by kernel_rfl) (fun _ _ _ h => h) (Or.inl ⟨by rfl, ?_⟩) (by assumption) ?_
              (rotate_left); (focus (intro wv hSw; (have qB := hSw); have cc := celS_next c0 qB; go_simp; (try with_reducible rfl)))
              try simp only [Act.put, List.getElem_toArray, List.getElem_cons_succ, List.getElem_cons_zero, List.setIfInBounds_toArray, List.set_cons_zero, List.set_cons_succ]
              refine wpAnyH_take (i := 12) (oi := _) (v := ?_) rfl (by kernel_rfl) (by kernel_rfl) (by kernel_rfl) (fun _ _ _ h => h) (Or.inl ⟨by rfl, ?_⟩) (by assumption) ?_
              (rotate_left); (focus (intro wv hSw; (have qB := hSw); have cc := celS_next c0 qB; go_simp; (try with_reducible rfl)))
              try simp only [Act.put, List.getElem_toArray, List.getElem_cons_succ, List.getElem_cons_zero, List.setIfInBounds_toArray, List.set_cons_zero, List.set_cons_succ]
              refine wpAnyH_ready (rs := [6]) (by kernel_rfl) (by simp) ?_
              refine AllReadyH.cons (o := _) rfl (fun K hK => ?_) AllReadyH.nil
              go_simp
              (go_at_call 50; refine (iWo_bl _ (by omega) (by omega) hj6 HS.out).mono ?_; rintro e x0c ⟨rfl, hw_0c⟩)
              refine hK.out _ _ (bel_next hB_0 hw_0c) (fun hHeld => ?_)
              clear hK K
              try simp only [Act.put, List.getElem_toArray, List.getElem_cons_succ, List.getElem_cons_zero, List.setIfInBounds_toArray, List.set_cons_zero, List.set_cons_succ]
              have hB_0c := id hHeld
              have hT_0c := hT_0.next hw_0c
              refine wpAnyH_ready (rs := [11]) (by kernel_rfl) (by simp) ?_
              refine AllReadyH.cons (o := _) rfl (fun K hK => ?_) AllReadyH.nil
              go_simp
              (go_at_call 55; refine (iLb_nil _).mono ?_; rintro e x0cc ⟨rfl, hw_0cc⟩)
              refine hK.out _ _ (bel_next hB_0c hw_0cc) (fun hHeld => ?_)
              clear hK K
              try simp only [Act.put, List.getElem_toArray, List.getElem_cons_succ, List.getElem_cons_zero, List.setIfInBounds_toArray, List.set_cons_zero, List.set_cons_succ]
              have hB_0cc := id hHeld
              have hT_0cc := hT_0c.next hw_0cc
              refine wpAnyH_take (i := 13) (oi := _) (v := ?_) rfl (by kernel_rfl) (by kernel_rfl) (by kernel_rfl) (fun _ _ _ h => h) (Or.inl ⟨by rfl, ?_⟩) (by assumption) ?_
              (rotate_left); (focus (intro wv hSw; (have qB := hSw); have cc := celS_next c0 qB; go_simp; (try with_reducible rfl)))
              try simp only [Act.put, List.getElem_toArray, List.getElem_cons_succ, List.getElem_cons_zero, List.setIfInBounds_toArray, List.set_cons_zero, List.set_cons_succ]
              have d0 := blkNum hT_0cc hidx
              have d1 := hT_0cc.frozen (k * 6 + j)
              refine wpAnyH_ready (rs := [14]) (by kernel_rfl) (by simp) ?_
              refine AllReadyH.cons (o := _) rfl (fun K hK => ?_) AllReadyH.nil
              go_simp
              refine hK.out _ _ (hB_0cc.setCell (p := ⟨w.heap.size, k * 6 + j, none⟩) (Nat.le_refl _) _) (fun hHeld => ?_)
              clear hK K
              try simp only [Act.put, List.getElem_toArray, List.getElem_cons_succ, List.getElem_cons_zero, List.setIfInBounds_toArray, List.set_cons_zero, List.set_cons_succ]
              have hB_0ccw := id hHeld
              have hT_0ccw := setNumB hT_0cc (k * 6 + j) hidx (1)
              refine wpAnyH_done (by kernel_rfl) ?_ _
              have HT2 : Hid (TabIs fs N k (j + 1) (xs.set (k * 6 + j) (1))) := HQ
              clear HT HQ
              go_wp2_with fail
              go_roundw
              case rel => exact ⟨j + 1, _, by go_num, by omega, HT2, hT_0ccw, hB_0ccw⟩
              case measure => simp [intOf]; omega
            · obtain ⟨s, hs⟩ : ∃ s : Nat, woI (k : Int) j = s := ⟨(woI (k : Int) j).toNat, by omega⟩
              have hs0 : 0 < s := by omega
              have hsk : s < k := by omega
              have HS := Lib.hid hs
              obtain ⟨m, hm⟩ : ∃ m, lB fs (s : Int) F = m := ⟨_, rfl⟩
              have HM := Lib.hid hm
              have HQ : Hid (TabIs fs N k (j + 1) (xs.set (k * 6 + j) m)) := Lib.hid (by have := HT.out.set hlt hj6; rwa [HL.out, hs, HG.out, hm] at this)
              clear hz hs hm hwb hwl HL
              go_wp2_with fail
              refine wp_region_held_drew (S := (fun w' => Below w.heap.size w w')) (by kernel_rfl) (hB.drew) (fun hHeld => ?_)
              have hB_0 := id hHeld
              refine wpAnyH_take (i := 0) (oi := _) (v := ?_) rfl (by kernel_rfl) (by kernel_rfl) (by kernel_rfl) (fun _ _ _ h => h) (Or.inl ⟨by rfl, ?_⟩) (by assumption) ?_
              (rotate_left); (focus (intro wv hSw; (have qB := hSw); have cc := celS_next c0 qB; go_simp; (try with_reducible rfl)))
              try simp only [Act.put, List.getElem_toArray, List.getElem_cons_succ, List.getElem_cons_zero, List.setIfInBounds_toArray, List.set_cons_zero, List.set_cons_succ]
              refine wpAnyH_take (i := 1) (oi := _) (v := ?_) rfl (by kernel_rfl) (by kernel_rfl) (by kernel_rfl) (fun _ _ _ h => h) (Or.inl ⟨by rfl, ?_⟩) (by assumption) ?_
              (rotate_left); (focus (intro wv hSw; (have qB := hSw); have cc := celS_next c0 qB; go_simp; (try with_reducible rfl)))
              try simp only [Act.put, List.getElem_toArray, List.getElem_cons_succ, List.getElem_cons_zero, List.setIfInBounds_toArray, List.set_cons_zero, List.set_cons_succ]
              refine wpAnyH_take (i := 2) (oi := _) (v := ?_) rfl (by kernel_rfl) (by kernel_rfl) (by kernel_rfl) (fun _ _ _ h => h) (Or.inl ⟨by rfl, ?_⟩) (by assumption) ?_
              (rotate_left); (focus (intro wv hSw; (have qB := hSw); have cc := celS_next c0 qB; go_simp; (try with_reducible rfl)))
              try simp only [Act.put, List.getElem_toArray, List.getElem_cons_succ, List.getElem_cons_zero, List.setIfInBounds_toArray, List.set_cons_zero, List.set_cons_succ]
              refine wpAnyH_take (i := 3) (oi := _) (v := ?_) rfl (by kernel_rfl) (by kernel_rfl) (by kernel_rfl) (fun _ _ _ h => h) (Or.inl ⟨by rfl, ?_⟩) (by assumption) ?_
              (rotate_left); (focus (intro wv hSw; (have qB := hSw); have cc := celS_next c0 qB; go_simp; (try with_reducible rfl)))
              try simp only [Act.put, List.getElem_toArray, List.getElem_cons_succ, List.getElem_cons_zero, List.setIfInBounds_toArray, List.set_cons_zero, List.set_cons_succ]
              refine wpAnyH_take (i := 4) (oi := _) (v := ?_) rfl (by kernel_rfl) (by kernel_rfl) (by kernel_rfl) (fun _ _ _ h => h) (Or.inl ⟨by rfl, ?_⟩) (by assumption) ?_
              (rotate_left); (focus (intro wv hSw; (have qB := hSw); have cc := celS_next c0 qB; go_simp; (try with_reducible rfl)))
              try simp only [Act.put, List.getElem_toArray, List.getElem_cons_succ, List.getElem_cons_zero, List.setIfInBounds_toArray, List.set_cons_zero, List.set_cons_succ]
              refine wpAnyH_take (i := 5) (oi := _) (v := ?_) rfl (by kernel_rfl) (by kernel_rfl) (by kernel_rfl) (fun _ _ _ h => h) (Or.inl ⟨by rfl, ?_⟩) (by assumption) ?_
              (rotate_left); (focus (intro wv hSw; (have qB := hSw); have cc := celS_next c0 qB; go_simp; (try with_reducible rfl)))
              try simp only [Act.put, List.getElem_toArray, List.getElem_cons_succ, List.getElem_cons_zero, List.setIfInBounds_toArray, List.set_cons_zero, List.set_cons_succ]
              refine wpAnyH_take (i := 7) (oi := _) (v := ?_) rfl (by kernel_rfl) (by kernel_rfl) (by kernel_rfl) (fun _ _ _ h => h) (Or.inl ⟨by rfl, ?_⟩) (by assumption) ?_
              (rotate_left); (focus (intro wv hSw; (have qB := hSw); have cc := celS_next c0 qB; go_simp; (try with_reducible rfl)))
              try simp only [Act.put, List.getElem_toArray, List.getElem_cons_succ, List.getElem_cons_zero, List.setIfInBounds_toArray, List.set_cons_zero, List.set_cons_succ]
              refine wpAnyH_take (i := 8) (oi := _) (v := ?_) rfl (by kernel_rfl) (by kernel_rfl) (by kernel_rfl) (fun _ _ _ h => h) (Or.inl ⟨by rfl, ?_⟩) (by assumption) ?_
              (rotate_left); (focus (intro wv hSw; (have qB := hSw); have cc := celS_next c0 qB; go_simp; (try with_reducible rfl)))
              try simp only [Act.put, List.getElem_toArray, List.getElem_cons_succ, List.getElem_cons_zero, List.setIfInBounds_toArray, List.set_cons_zero, List.set_cons_succ]
              refine wpAnyH_take (i := 9) (oi := _) (v := ?_) rfl (by kernel_rfl) (by kernel_rfl) (by kernel_rfl) (fun _ _ _ h => h) (Or.inl ⟨by rfl, ?_⟩) (by assumption) ?_
              (rotate_left); (focus (intro wv hSw; (have qB := hSw); have cc := celS_next c0 qB; go_simp; (try with_reducible rfl)))
              try simp only [Act.put, List.getElem_toArray, List.getElem_cons_succ, List.getElem_cons_zero, List.setIfInBounds_toArray, List.set_cons_zero, List.set_cons_succ]
              refine wpAnyH_take (i := 10) (oi := _) (v := ?_) rfl (by kernel_rfl) (by kernel_rfl) (by kernel_rfl) (fun _ _ _ h => h) (Or.inl ⟨by rfl, ?_⟩) (by assumption) ?_
              (rotate_left); (focus (intro wv hSw; (have qB := hSw); have cc := celS_next c0 qB; go_simp; (try with_reducible rfl)))
              try simp only [Act.put, List.getElem_toArray, List.getElem_cons_succ, List.getElem_cons_zero, List.setIfInBounds_toArray, List.set_cons_zero, List.set_cons_succ]
              refine wpAnyH_take (i := 12) (oi := _) (v := ?_) rfl (by kernel_rfl) (by kernel_rfl) (by kernel_rfl) (fun _ _ _ h => h) (Or.inl ⟨by rfl, ?_⟩) (by assumption) ?_
              (rotate_left); (focus (intro wv hSw; (have qB := hSw); have cc := celS_next c0 qB; go_simp; (try with_reducible rfl)))
              try simp only [Act.put, List.getElem_toArray, List.getElem_cons_succ, List.getElem_cons_zero, List.setIfInBounds_toArray, List.set_cons_zero, List.set_cons_succ]
              refine wpAnyH_ready (rs := [6]) (by kernel_rfl) (by simp) ?_
              refine AllReadyH.cons (o := _) rfl (fun K hK => ?_) AllReadyH.nil
              go_simp
              (go_at_call 50; refine (iWo_bl _ (by omega) (by omega) hj6 HS.out).mono ?_; rintro e x0c ⟨rfl, hw_0c⟩)
              refine hK.out _ _ (bel_next hB_0 hw_0c) (fun hHeld => ?_)
              clear hK K
              try simp only [Act.put, List.getElem_toArray, List.getElem_cons_succ, List.getElem_cons_zero, List.setIfInBounds_toArray, List.set_cons_zero, List.set_cons_succ]
              have hB_0c := id hHeld
              have hT_0c := hT_0.next hw_0c
              refine wpAnyH_ready (rs := [11]) (by kernel_rfl) (by simp) ?_
              refine AllReadyH.cons (o := _) rfl (fun K hK => ?_) AllReadyH.nil
              go_simp
              (go_at_call 55; refine (iLb_tab _ hs0 hsk k1 hN64 hT_0c HT.out HM.out).mono ?_; rintro e x0cc ⟨rfl, hw_0cc⟩)
              refine hK.out _ _ (bel_next hB_0c hw_0cc) (fun hHeld => ?_)
              clear hK K
              try simp only [Act.put, List.getElem_toArray, List.getElem_cons_succ, List.getElem_cons_zero, List.setIfInBounds_toArray, List.set_cons_zero, List.set_cons_succ]
              have hB_0cc := id hHeld
              have hT_0cc := hT_0c.next hw_0cc
              refine wpAnyH_take (i := 13) (oi := _) (v := ?_) rfl (by kernel_rfl) (by kernel_rfl) (by kernel_rfl) (fun _ _ _ h => h) (Or.inl ⟨by rfl, ?_⟩) (by assumption) ?_
              (rotate_left); (focus (intro wv hSw; (have qB := hSw); have cc := celS_next c0 qB; go_simp; (try with_reducible rfl)))
              try simp only [Act.put, List.getElem_toArray, List.getElem_cons_succ, List.getElem_cons_zero, List.setIfInBounds_toArray, List.set_cons_zero, List.set_cons_succ]
              have d0 := blkNum hT_0cc hidx
              have d1 := hT_0cc.frozen (k * 6 + j)
              refine wpAnyH_ready (rs := [14]) (by kernel_rfl) (by simp) ?_
              refine AllReadyH.cons (o := _) rfl (fun K hK => ?_) AllReadyH.nil
              go_simp
              refine hK.out _ _ (hB_0cc.setCell (p := ⟨w.heap.size, k * 6 + j, none⟩) (Nat.le_refl _) _) (fun hHeld => ?_)
              clear hK K
              try simp only [Act.put, List.getElem_toArray, List.getElem_cons_succ, List.getElem_cons_zero, List.setIfInBounds_toArray, List.set_cons_zero, List.set_cons_succ]
              have hB_0ccw := id hHeld
              have hT_0ccw := setNumB hT_0cc (k * 6 + j) hidx (m)
              refine wpAnyH_done (by kernel_rfl) ?_ _
              have HT2 : Hid (TabIs fs N k (j + 1) (xs.set (k * 6 + j) (m))) := HQ
              clear HT HQ
              go_wp2_with fail
              go_roundw
              case rel => exact ⟨j + 1, _, by go_num, by omega, HT2, hT_0ccw, hB_0ccw⟩
              case measure => simp [intOf]; omega
        · have hji : ¬ (j : Int) < (n : Int) := by omega
          have HT2 : Hid (TabIs fs N (k + 1) 0 xs) := Lib.hid (HT.out.row (fun q a c => HOUT.out k q hlt (by omega) c))
          clear HT
          go_wp2_with fail
          go_roundw
          case rel => exact ⟨k + 1, _, by go_num, by omega, HT2, hT, hB⟩
          case measure => simp [intOf]; omega
    · have hki : ¬ (k : Int) < (N : Int) := by omega
      obtain rfl : k = N := by omega
      go_wp2_with fail
      go_ret
      exact ⟨_, xs, rfl, Nat.le_refl _, hT, HT.out, hB⟩
end Go.Proofs.Ytoklehmoeollfaa
