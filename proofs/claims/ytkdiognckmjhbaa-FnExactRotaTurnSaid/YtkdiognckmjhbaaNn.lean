/- Rows of rows of numbers: copies, comparisons, sizes, arguments. -/
import Derived.Test.YtkdiognckmjhbaaNk
namespace Go.Proofs.Ytkdiognckmjhbaa
open Go Go.ChangeShapes Go.WideShapes Go.ChangeAt Go.RowKit
set_option linter.unusedSimpArgs false
set_option linter.unusedVariables false

/-- Copies of the first rows, each in a block of its own above the heads' block. -/
structure CpK (w : World) (g : Nat) (rows : List (List Int)) (k : Nat) (hs : List VH) : Prop where
  len : hs.length = k
  row : ∀ i (h : i < hs.length) (h' : i < rows.length), ∃ b : Nat, hs[i] = (some ⟨b, 0, none⟩, rows[i].length, rows[i].length) ∧ g < b ∧ SBlk encNum w b 3 rows[i]
theorem CpK.nil (w : World) (g : Nat) (rows : List (List Int)) : CpK w g rows 0 [] := ⟨rfl, fun i h => absurd h (Nat.not_lt_zero _)⟩
theorem CpK.next {w w' : World} {g k : Nat} {rows : List (List Int)} {hs : List VH} (h : CpK w g rows k hs) (hw : Below w.heap.size w w') : CpK w' g rows k hs := ⟨h.len, fun i a b => by obtain ⟨x, e, l, s⟩ := h.row i a b; exact ⟨x, e, l, s.next hw⟩⟩
theorem CpK.snoc {w : World} {g k b : Nat} {rows : List (List Int)} {hs : List VH} (h : CpK w g rows k hs) (hk : k < rows.length) (hg : g < b) (hb : SBlk encNum w b 3 rows[k]) (v : Value) : CpK (w.setCell ⟨g, k, none⟩ v) g rows (k + 1) (hs ++ [(some ⟨b, 0, none⟩, rows[k].length, rows[k].length)]) := by
  refine ⟨by simp [h.len], fun i a a' => ?_⟩
  by_cases c : i < hs.length
  · obtain ⟨x, e, l, s⟩ := h.row i c a'
    exact ⟨x, by rw [List.getElem_append_left c]; exact e, l, blk_far s (by omega) v⟩
  · have hl := h.len
    have hi : i = k := by simp at a; omega
    subst hi
    refine ⟨b, ?_, hg, blk_far hb (by omega) v⟩
    rw [List.getElem_append_right (by omega)]
    simp [hl]
theorem heads_set {hs : List VH} {k n : Nat} (hl : hs.length = k) (hk : k < n) (x z : VH) : (hs ++ List.replicate (n - k) z).set k x = (hs ++ [x]) ++ List.replicate (n - (k + 1)) z := by
  subst hl
  rw [show n - hs.length = (n - (hs.length + 1)) + 1 by omega, List.replicate_succ, List.set_append_right _ _ (Nat.le_refl _)]
  simp
theorem setH {w : World} {g : Nat} {hs : List VH} (h : SBlk encH w g 32 hs) (i : Nat) (hi : i < hs.length) (x : VH) : SBlk encH (w.setCell ⟨g, i, none⟩ (.slice x.1 x.2.1 x.2.2)) g 32 (hs.set i x) := by
  have := h.set i hi x
  simpa [setAll, encH] using this
theorem CpK.nrow {w : World} {g n : Nat} {rows : List (List Int)} {hs : List VH} (h : CpK w g rows n hs) (hn : rows.length = n) (hb : SBlk encH w g 32 hs) : NRow w (some ⟨g, 0, none⟩) hs rows :=
  ⟨hb.row, by rw [h.len, hn], fun i a b => by obtain ⟨x, e, _⟩ := h.row i a b; rw [e], fun i a b => by obtain ⟨x, e, _, s⟩ := h.row i a b; rw [e]; exact s.row⟩
def CopyNN (n : Nat) (rows : List (List Int)) (w : World) (e : Ending) (w' : World) : Prop := ∃ (g : Nat) (hs : List VH), e = .returned (.slice (some ⟨g, 0, none⟩) n n) ∧ NRow w' (some ⟨g, 0, none⟩) hs rows ∧ Below w.heap.size w w'
theorem toNumS_len (A : Option Addr) (cap : Nat) (xs : List Int) {n : Nat} (w : World) (hn : xs.length = n) (h : SRow encNum w A xs) (hl : n ≤ 2000000) :
    Calls Try.prog 23 #[.slice A n cap] w fun e w' => ∃ g : Nat, e = .returned (.slice (some ⟨g, 0, none⟩) n n) ∧ w.heap.size ≤ g ∧ SBlk encNum w' g 3 xs ∧ Below w.heap.size w w' := by
  subst hn; exact toNumS_any A cap xs w h hl
theorem SBlk.some {w : World} {g : Nat} {hs : List VH} (h : SBlk encH w g 32 hs) (i : Nat) (hi : i < hs.length) : ∃ v, w.cell? ⟨g, i, none⟩ = Option.some v := by
  have := h.cell i hi 0 _ rfl
  exact ⟨_, by simpa [encH] using this⟩
set_option maxRecDepth 100000 in
set_option maxHeartbeats 4000000 in
theorem toNN_any (A : Option Addr) (cap : Nat) (hs : List VH) (rows : List (List Int)) {n : Nat} (w : World) (hn : rows.length = n) (h : NRow w A hs rows) (hl : n ≤ 2000000) (hrl : ∀ j (hj : j < rows.length), rows[j].length ≤ 2000000) :
    Calls Try.prog 11 #[.slice A n cap] w fun E w' => CopyNN n rows w E w' := by
  obtain ⟨i0, hi0, hz0, hz1, hz2⟩ := info_parts infoH
  have hbn : i0.bytes * n ≤ 281474976710656 := by rw [hz2]; omega
  have HI := Lib.hid (And.intro hi0 (And.intro hz0 (And.intro hz1 hbn)))
  clear hi0 hz0 hz1 hz2 hbn
  have HRL := Lib.hid hrl
  have HN := Lib.hid hn
  clear hrl hn
  go_enter Try.func11, Try.ntmps11
  go_wp2_with (at_make; refine wpList_make_structs _ encH ((none, 0, 0) : VH) rfl _ _ 22 rfl 32 i0 _ Try.underlying22 HI.out.1 HI.out.2.1 HI.out.2.2.1 rfl .i64 .i64 n rfl rfl HI.out.2.2.2 (by omega) ?_)
  go_loopw [4] (fun i wr => ∃ (k : Nat) (hs' : List VH), k ≤ n ∧ i = .int .i64 k ∧ Hid (hs'.length = k) ∧ SBlk encH wr w.heap.size 32 (hs' ++ List.replicate (n - k) ((none, 0, 0) : VH)) ∧ CpK wr w.heap.size rows k hs' ∧ Below w.heap.size w wr) (fun i _ => (n - intOf i).toNat)
  case atStart => exact ⟨0, [], by omega, rfl, (by show _ = _; rfl), (by have := blk_new w (.cells (encH.flat (List.replicate n ((none, 0, 0) : VH))).toArray 32); exact this), CpK.nil _ _ _, bel1 _ _⟩
  case round =>
    obtain ⟨k, hs', k1, rfl, HL, hblk, hC, hB⟩ := hrel
    by_cases hlt : k < n
    · have hki : (k : Int) < (n : Int) := by omega
      have hk : k < rows.length := by rw [HN.out]; exact hlt
      obtain ⟨b, off, rfl, hb, hget⟩ := (h.next hB).get hk
      obtain ⟨H, q, c, hq, d, hrow⟩ := hget k hk
      have hqb := HRL.out k hk
      rw [hq] at hqb
      have HQ := Lib.hid hq
      clear hget hq
      go_wp2_with fail
      refine (toNumS_len H c rows[k] _ HQ.out hrow (by omega)).mono ?_; rintro e w1 ⟨gi, rfl, hgi, hbi, hw1⟩
      have hblk1 := hblk.next hw1
      have hC1 := hC.next hw1
      have hB1 := bel_next hB hw1
      have hgl : w.heap.size < gi := by have := blk_lt hblk; omega
      have hk' : k < (hs' ++ List.replicate (n - k) ((none, 0, 0) : VH)).length := by rw [List.length_append, HL.out, List.length_replicate]; omega
      have d1 := hblk1.frozen k
      obtain ⟨v0, d0⟩ := hblk1.some k hk'
      have hS := hC1.snoc hk hgl hbi (.slice (some ⟨gi, 0, none⟩) q q)
      rw [HQ.out] at hS
      have hT := setH hblk1 k hk' (some ⟨gi, 0, none⟩, q, q)
      rw [heads_set HL.out hlt] at hT
      go_wp2_with fail
      go_roundw
      case rel => exact ⟨k + 1, hs' ++ [(some ⟨gi, 0, none⟩, q, q)], by omega, by go_num, Lib.hid (by rw [List.length_append, HL.out]; rfl), hT, hS, hB1.setCell (p := ⟨w.heap.size, k, none⟩) (Nat.le_refl _) _⟩
      case measure => simp [intOf]; omega
    · obtain rfl : k = n := by omega
      have hki : ¬ (k : Int) < (k : Int) := by omega
      go_wp2_with fail
      go_ret
      exact ⟨_, hs', rfl, hC.nrow HN.out (by rw [Nat.sub_self] at hblk; simpa using hblk), hB⟩
set_option maxRecDepth 100000 in
set_option maxHeartbeats 4000000 in
theorem eqNN_same (A B : Option Addr) (ca cb : Nat) (hs ks : List VH) (rows : List (List Int)) {n : Nat} (w : World) (hn : rows.length = n) (h : NRow w A hs rows) (h2 : NRow w B ks rows) (hl : n ≤ 2000000) (hrl : ∀ j (hj : j < rows.length), rows[j].length ≤ 2000000) :
    Calls Try.prog 13 #[.slice A n ca, .slice B n cb] w fun E w' => E = .returned (.bool true) ∧ Below w.heap.size w w' := by
  have HRL := Lib.hid hrl
  have HN := Lib.hid hn
  clear hrl hn
  have hnn : ((n : Int) != (n : Int)) = false := by simp
  go_enter Try.func13, Try.ntmps13
  go_wp2_with fail
  go_loopw [5] (fun i wr => ∃ k : Nat, k ≤ n ∧ i = .int .i64 k ∧ Below w.heap.size w wr) (fun i _ => (n - intOf i).toNat)
  case atStart => exact ⟨0, by omega, rfl, Below.refl _ _⟩
  case round =>
    obtain ⟨k, k1, rfl, hB⟩ := hrel
    by_cases hlt : k < n
    · have hki : (k : Int) < (n : Int) := by omega
      have hk : k < rows.length := by rw [HN.out]; exact hlt
      obtain ⟨b, off, rfl, hb, hget⟩ := h.get hk
      obtain ⟨H, q, c, hq, d9, hrow⟩ := hget k hk
      obtain ⟨b2, off2, rfl, hb2, hget2⟩ := h2.get hk
      obtain ⟨H2, q2, c2, hq2, e9, hrow2⟩ := hget2 k hk
      obtain rfl : q = q2 := by omega
      have hqb := HRL.out k hk
      rw [hq] at hqb
      have HQ := Lib.hid hq
      clear hget hget2 hq hq2
      go_wp2_with fail
      refine wp_region_held_drew (S := (fun w' => Below w.heap.size w w')) (by kernel_rfl) (hB.drew) (fun hHeld => ?_)
      have hB_0 := id hHeld
      refine wpAnyH_take (i := 0) (oi := _) (v := ?_) rfl (by kernel_rfl) (by kernel_rfl) (by kernel_rfl) (fun _ _ _ h => h) (Or.inl ⟨by rfl, ?_⟩) (by assumption) ?_
      (rotate_left); (focus (intro wv hSw; (have qB := hSw); have cd := celS_next d9 qB; have ce := celS_next e9 qB; go_simp; (try with_reducible rfl)))
      try simp only [Act.put, List.getElem_toArray, List.getElem_cons_succ, List.getElem_cons_zero, List.setIfInBounds_toArray, List.set_cons_zero, List.set_cons_succ]
      refine wpAnyH_take (i := 1) (oi := _) (v := ?_) rfl (by kernel_rfl) (by kernel_rfl) (by kernel_rfl) (fun _ _ _ h => h) (Or.inl ⟨by rfl, ?_⟩) (by assumption) ?_
      (rotate_left); (focus (intro wv hSw; (have qB := hSw); have cd := celS_next d9 qB; have ce := celS_next e9 qB; go_simp; (try with_reducible rfl)))
      try simp only [Act.put, List.getElem_toArray, List.getElem_cons_succ, List.getElem_cons_zero, List.setIfInBounds_toArray, List.set_cons_zero, List.set_cons_succ]
      refine wpAnyH_take (i := 2) (oi := _) (v := ?_) rfl (by kernel_rfl) (by kernel_rfl) (by kernel_rfl) (fun _ _ _ h => h) (Or.inl ⟨by rfl, ?_⟩) (by assumption) ?_
      (rotate_left); (focus (intro wv hSw; (have qB := hSw); have cd := celS_next d9 qB; have ce := celS_next e9 qB; go_simp; (try with_reducible rfl)))
      try simp only [Act.put, List.getElem_toArray, List.getElem_cons_succ, List.getElem_cons_zero, List.setIfInBounds_toArray, List.set_cons_zero, List.set_cons_succ]
      refine wpAnyH_take (i := 3) (oi := _) (v := ?_) rfl (by kernel_rfl) (by kernel_rfl) (by kernel_rfl) (fun _ _ _ h => h) (Or.inl ⟨by rfl, ?_⟩) (by assumption) ?_
      (rotate_left); (focus (intro wv hSw; (have qB := hSw); have cd := celS_next d9 qB; have ce := celS_next e9 qB; go_simp; (try with_reducible rfl)))
      try simp only [Act.put, List.getElem_toArray, List.getElem_cons_succ, List.getElem_cons_zero, List.setIfInBounds_toArray, List.set_cons_zero, List.set_cons_succ]
      refine wpAnyH_take (i := 4) (oi := _) (v := ?_) rfl (by kernel_rfl) (by kernel_rfl) (by kernel_rfl) (fun _ _ _ h => h) (Or.inl ⟨by rfl, ?_⟩) (by assumption) ?_
      (rotate_left); (focus (intro wv hSw; (have qB := hSw); have cd := celS_next d9 qB; have ce := celS_next e9 qB; go_simp; (try with_reducible rfl)))
      try simp only [Act.put, List.getElem_toArray, List.getElem_cons_succ, List.getElem_cons_zero, List.setIfInBounds_toArray, List.set_cons_zero, List.set_cons_succ]
      refine wpAnyH_take (i := 5) (oi := _) (v := ?_) rfl (by kernel_rfl) (by kernel_rfl) (by kernel_rfl) (fun _ _ _ h => h) (Or.inl ⟨by rfl, ?_⟩) (by assumption) ?_
      (rotate_left); (focus (intro wv hSw; (have qB := hSw); have cd := celS_next d9 qB; have ce := celS_next e9 qB; go_simp; (try with_reducible rfl)))
      try simp only [Act.put, List.getElem_toArray, List.getElem_cons_succ, List.getElem_cons_zero, List.setIfInBounds_toArray, List.set_cons_zero, List.set_cons_succ]
      refine wpAnyH_take (i := 6) (oi := _) (v := ?_) rfl (by kernel_rfl) (by kernel_rfl) (by kernel_rfl) (fun _ _ _ h => h) (Or.inl ⟨by rfl, ?_⟩) (by assumption) ?_
      (rotate_left); (focus (intro wv hSw; (have qB := hSw); have cd := celS_next d9 qB; have ce := celS_next e9 qB; go_simp; (try with_reducible rfl)))
      try simp only [Act.put, List.getElem_toArray, List.getElem_cons_succ, List.getElem_cons_zero, List.setIfInBounds_toArray, List.set_cons_zero, List.set_cons_succ]
      refine wpAnyH_take (i := 7) (oi := _) (v := ?_) rfl (by kernel_rfl) (by kernel_rfl) (by kernel_rfl) (fun _ _ _ h => h) (Or.inl ⟨by rfl, ?_⟩) (by assumption) ?_
      (rotate_left); (focus (intro wv hSw; (have qB := hSw); have cd := celS_next d9 qB; have ce := celS_next e9 qB; go_simp; (try with_reducible rfl)))
      try simp only [Act.put, List.getElem_toArray, List.getElem_cons_succ, List.getElem_cons_zero, List.setIfInBounds_toArray, List.set_cons_zero, List.set_cons_succ]
      refine wpAnyH_ready (rs := [8]) (by kernel_rfl) (by simp) ?_
      refine AllReadyH.cons (o := _) rfl (fun K hK => ?_) AllReadyH.nil
      go_simp
      (go_at_call 25; refine (eqNumS_same H H2 c c2 rows[k] HQ.out (hrow.next hB_0) (hrow2.next hB_0) (by omega)).mono ?_; rintro e x0c ⟨rfl, hw_0c⟩)
      refine hK.out _ _ (bel_next hB_0 hw_0c) (fun hHeld => ?_)
      clear hK K
      try simp only [Act.put, List.getElem_toArray, List.getElem_cons_succ, List.getElem_cons_zero, List.setIfInBounds_toArray, List.set_cons_zero, List.set_cons_succ]
      have hB_0c := id hHeld
      refine wpAnyH_take (i := 9) (oi := _) (v := ?_) rfl (by kernel_rfl) (by kernel_rfl) (by kernel_rfl) (fun _ _ _ h => h) (Or.inl ⟨by rfl, ?_⟩) (by assumption) ?_
      (rotate_left); (focus (intro wv hSw; (have qB := hSw); have cd := celS_next d9 qB; have ce := celS_next e9 qB; go_simp; (try with_reducible rfl)))
      try simp only [Act.put, List.getElem_toArray, List.getElem_cons_succ, List.getElem_cons_zero, List.setIfInBounds_toArray, List.set_cons_zero, List.set_cons_succ]
      refine wpAnyH_done (by kernel_rfl) ?_ _
      go_wp2_with fail
      go_roundw
      case rel => exact ⟨k + 1, by omega, by go_num, hB_0c⟩
      case measure => simp [intOf]; omega
    · have hki : ¬ (k : Int) < (n : Int) := by omega
      go_wp2_with fail
      go_ret
      exact ⟨rfl, hB⟩
def LeftNN (L : Int) (n : Nat) (rows : List (List Int)) (r : Int) : Prop := r = -1 ∨ (0 ≤ r ∧ r ≤ L ∧ (n : Int) ≤ L ∧ ∀ j (hj : j < rows.length), (rows[j].length : Int) ≤ L)
def SzRet (L : Int) (n : Nat) (rows : List (List Int)) (w : World) (e : Ending) (w' : World) : Prop := ∃ r, e = .returned (.int .i64 r) ∧ LeftNN L n rows r ∧ w = w'
set_option maxRecDepth 100000 in
set_option maxHeartbeats 4000000 in
theorem szNN_any (A : Option Addr) (cap : Nat) (hs : List VH) (rows : List (List Int)) {n : Nat} (L : Int) (w : World) (hn : rows.length = n) (h : NRow w A hs rows) (h0 : 0 ≤ L) (h1 : L ≤ 1048576) (hl : n ≤ maxLen) (hrl : ∀ j (hj : j < rows.length), rows[j].length ≤ maxLen) :
    Calls Try.prog 9 #[.slice A n cap, .int .i64 L] w fun E w' => SzRet L n rows w E w' := by
  unfold maxLen at hl
  have HRL := Lib.hid hrl
  have HN := Lib.hid hn
  clear hrl hn
  by_cases hL : (n : Int) ≤ L
  · have hs0 : ¬ L - (n : Int) < 0 := by omega
    go_enter Try.func9, Try.ntmps9
    go_wp2_with fail
    go_loop [1, 5] (fun lv i => ∃ (k : Nat) (m : Int), k ≤ n ∧ i = .int .i64 k ∧ lv = .int .i64 m ∧ 0 ≤ m ∧ m ≤ L ∧ Hid (∀ j (hj : j < rows.length), j < k → (rows[j].length : Int) ≤ L)) (fun _ i => (n - intOf i).toNat)
    case atStart => exact ⟨0, L - n, by omega, rfl, rfl, by omega, by omega, Lib.hid (fun j _ c => absurd c (Nat.not_lt_zero _))⟩
    case round =>
      obtain ⟨k, m, k1, rfl, rfl, m0, m1, HJ⟩ := hrel
      by_cases hlt : k < n
      · have hki : (k : Int) < (n : Int) := by omega
        have hk : k < rows.length := by rw [HN.out]; exact hlt
        obtain ⟨b, off, rfl, hb, hget⟩ := h.get hk
        obtain ⟨H, q, c, hq, d, hrow⟩ := hget k hk
        have hqb := HRL.out k hk
        rw [hq] at hqb
        have HQ := Lib.hid hq
        clear hget hq
        go_wp2_with fail
        refine (szNumS_any H q c m _ m0 (by omega) hqb).mono ?_; rintro e w' ⟨r, rfl, hL2, rfl⟩
        rcases hL2 with rfl | ⟨r0, r1, r2⟩
        · go_wp2_with fail
          go_ret
          exact ⟨-1, rfl, Or.inl rfl, rfl⟩
        · have hrn : ¬ r < 0 := by omega
          have HJ2 : Hid (∀ j (hj : j < rows.length), j < k + 1 → (rows[j].length : Int) ≤ L) := Lib.hid (fun j hj c => by
          by_cases e : j < k
          · exact HJ.out j hj e
          · have e2 : j = k := by omega
            subst e2; have := HQ.out; omega)
          clear HJ
          go_wp2_with fail
          go_round
          case rel => exact ⟨k + 1, r, by omega, by go_num, rfl, r0, by omega, HJ2⟩
          case measure => simp [intOf]; omega
      · have hki : ¬ (k : Int) < (n : Int) := by omega
        go_wp2_with fail
        go_ret
        exact ⟨m, rfl, Or.inr ⟨m0, m1, hL, fun j hj => HJ.out j hj (by rw [HN.out] at hj; omega)⟩, rfl⟩
  · have hs0 : L - (n : Int) < 0 := by omega
    go_enter Try.func9, Try.ntmps9
    go_wp2
    go_ret
    exact ⟨-1, rfl, Or.inl rfl, rfl⟩
section
variable {H : Type} {enc : TypeId × Value → H} {w : World} {base : Nat} {spare : Nat → Bool} {held : Bool}
theorem rows_ch : ∀ (hs : List VH), (∀ v ∈ hs, ∃ xs : List Int, v.2.1 = xs.length ∧ xs.length ≤ maxLen ∧ SRow encNum w v.1 xs) → ∃ rows : List (List Int), hs.length = rows.length ∧ (∀ i (h : i < hs.length) (h' : i < rows.length), hs[i].2.1 = rows[i].length ∧ rows[i].length ≤ maxLen ∧ SRow encNum w hs[i].1 rows[i])
  | [], _ => ⟨[], rfl, fun i h => absurd h (Nat.not_lt_zero _)⟩
  | v :: hs, H => by
    obtain ⟨rows, e, hr⟩ := rows_ch hs (fun u hu => H u (List.mem_cons_of_mem _ hu))
    obtain ⟨xs, a, b, c⟩ := H v (by simp)
    refine ⟨xs :: rows, by simp [e], fun i h h' => ?_⟩
    cases i with
    | zero => exact ⟨a, b, c⟩
    | succ i => exact hr i (by simpa using h) (by simpa using h')
theorem openNumSS {fuel : Nat} {cs : List Value} {x : DataW H × List MemPlace} (h : DataW.trod enc Try.prog w base spare held fuel 22 cs = some x) :
    ∃ (A : Option Addr) (cap : Nat) (hs : List VH) (rows : List (List Int)), cs = [.slice A rows.length cap] ∧ rows.length ≤ maxLen ∧ NRow w A hs rows ∧ ∀ j (hj : j < rows.length), rows[j].length ≤ maxLen := by
  obtain ⟨A, cap, hs, e, hl, hr, hq⟩ := open_structs encH ((none, 0, 0) : VH) (fun v => ∃ xs : List Int, v.2.1 = xs.length ∧ xs.length ≤ maxLen ∧ SRow encNum w v.1 xs) Try.underlying22 (by kernel_rfl) (fun fuel cs x hx => by
    obtain ⟨A, cap, xs, e, hl, hr, _⟩ := openNumS hx
    exact ⟨(A, xs.length, cap), e, xs, rfl, hl, hr⟩) h
  obtain ⟨rows, el, hrow⟩ := rows_ch hs hq
  exact ⟨A, cap, hs, rows, by rw [← el]; exact e, by rw [← el]; exact hl, ⟨hr, el, fun i a b => (hrow i a b).1, fun i a b => (hrow i a b).2.2⟩, fun j hj => (hrow j (by rw [el]; exact hj) hj).2.1⟩
end
end Go.Proofs.Ytkdiognckmjhbaa
