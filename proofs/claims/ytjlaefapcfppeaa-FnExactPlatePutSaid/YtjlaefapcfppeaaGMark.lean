/- Slices of Mark: copies, comparisons, sizes, marks. -/
import Derived.Test.YtjlaefapcfppeaaRows
import Derived.Test.YtjlaefapcfppeaaGo
import Derived.Test.YtjlaefapcfppeaaWa
import Derived.Test.YtjlaefapcfppeaaHlp2
import Derived.Test.YtjlaefapcfppeaaByt
namespace Go.Proofs.Ytjlaefapcfppeaa
open Go Go.ChangeShapes Go.WideShapes Go.ChangeAt Go.RowKit Go.Deep
set_option linter.unusedSimpArgs false
set_option linter.unusedVariables false
set_option linter.unnecessarySimpa false

abbrev VMark := Int × Int × ByteArray
def encMark : Enc VMark := ⟨3, fun x => [.int .i64 x.1, .int .i64 x.2.1, .string x.2.2], fun _ => rfl, by intro x u hu; simp at hu; rcases hu with rfl | rfl | rfl <;> rfl, by omega⟩
theorem rowMark {w : World} {A : Option Addr} {xs : List VMark} (h : SRow encMark w A xs) {i : Nat} (hi : i < xs.length) : ∃ b off : Nat, A = some ⟨b, off, none⟩ ∧ b < w.heap.size ∧ w.cell? ⟨b, off + i * 3, none⟩ = some (.int .i64 xs[i].1) ∧ w.cell? ⟨b, off + i * 3 + 1, none⟩ = some (.int .i64 xs[i].2.1) ∧ w.cell? ⟨b, off + i * 3 + 2, none⟩ = some (.string xs[i].2.2) := by
  obtain ⟨b, off, e, hb, hc⟩ := h.at_ hi
  exact ⟨b, off, e, hb, by have := hc 0 _ rfl; simpa [encMark, Nat.add_assoc] using this, by have := hc 1 _ rfl; simpa [encMark, Nat.add_assoc] using this, by have := hc 2 _ rfl; simpa [encMark, Nat.add_assoc] using this⟩
theorem blkMark {w : World} {g : Nat} {T : TypeId} {xs : List VMark} (h : SBlk encMark w g T xs) {i : Nat} (hi : i < xs.length) : w.cell? ⟨g, i * 3, none⟩ = some (.int .i64 xs[i].1) ∧ w.cell? ⟨g, i * 3 + 1, none⟩ = some (.int .i64 xs[i].2.1) ∧ w.cell? ⟨g, i * 3 + 2, none⟩ = some (.string xs[i].2.2) :=
  ⟨by have := h.cell i hi 0 _ rfl; simpa [encMark] using this, by have := h.cell i hi 1 _ rfl; simpa [encMark] using this, by have := h.cell i hi 2 _ rfl; simpa [encMark] using this⟩
theorem ownMark {w : World} {base g cap : Nat} {T : TypeId} {xs : List VMark} (h : SOwn encMark w base T (some ⟨g, 0, none⟩) cap xs) {i : Nat} (hi : i < xs.length) : w.cell? ⟨g, i * 3, none⟩ = some (.int .i64 xs[i].1) ∧ w.cell? ⟨g, i * 3 + 1, none⟩ = some (.int .i64 xs[i].2.1) ∧ w.cell? ⟨g, i * 3 + 2, none⟩ = some (.string xs[i].2.2) :=
  ⟨by have := h.cell i hi 0 _ rfl; simpa [encMark] using this, by have := h.cell i hi 1 _ rfl; simpa [encMark] using this, by have := h.cell i hi 2 _ rfl; simpa [encMark] using this⟩
set_option maxHeartbeats 2000000 in
theorem toMark_any (x0 : Int) (x1 : Int) (x2 : ByteArray) (w : World) : Calls Try.prog 10 #[.agg #[.int .i64 x0, .int .i64 x1, .string x2]] w fun e w' => e = .returned (.agg #[.int .i64 x0, .int .i64 x1, .string x2]) ∧ Below w.heap.size w w' := by
  go_enter Try.func10, Try.ntmps10
  go_wp2_with fail
  refine (toWay_any _ _ _).mono ?_; rintro e w1 ⟨rfl, hw1⟩
  obtain ⟨hP1, hQ1, hR1, hB1⟩ := ownb3 hw1
  obtain ⟨a0, a1, a2, f0, f1, f2, z1⟩ := blk3 hP1
  obtain ⟨b0, b1, b2, g0, g1, g2, z2⟩ := blk3 hQ1
  obtain ⟨c0, c1, c2, k0, k1, k2, z3⟩ := blk3 hR1
  have hQ2 := blk3_put (a := .int .i64 x0) (b := .int .i64 x1) (c := .string x2) (blk_store3 (C := w.heap.size + 1 + 1) hQ1 (by omega) (.int .i64 x0) (.int .i64 x1) (.string x2))
  obtain ⟨q0, q1, q2, _, _, _, _⟩ := blk3 hQ2
  go_wp2
  exact bodyPost_ret (v := .agg #[.int .i64 x0, .int .i64 x1, .string x2]) (by simp [results, Try.results10, go_sem, q0, q1, q2]) rfl ⟨rfl, store3_bel (store3_bel hB1 (by omega) _ _ _) (by omega) _ _ _⟩
theorem infoMark : (Try.prog.info? 35).map (fun i => (i.zero, i.size, i.bytes)) = some (some (.agg #[.int .i64 0, .int .i64 0, .string ByteArray.empty]), 3, 32) := by kernel_rfl
def CopyMark (xs : List VMark) (w : World) (e : Ending) (w' : World) : Prop := ∃ g : Nat, e = .returned (.slice (some ⟨g, 0, none⟩) xs.length xs.length) ∧ w.heap.size ≤ g ∧ SBlk encMark w' g 35 xs ∧ Below w.heap.size w w'
set_option maxHeartbeats 4000000 in
theorem toMarkS_any (A : Option Addr) (cap : Nat) (xs : List VMark) (w : World) (h : SRow encMark w A xs) (hl : xs.length ≤ 2000000) :
    Calls Try.prog 9 #[.slice A xs.length cap] w (CopyMark xs w) := by
  unfold CopyMark
  generalize hn : xs.length = n at hl ⊢
  have HN := Lib.hid hn
  clear hn
  obtain ⟨i0, hi0, hz0, hz1, hz2⟩ := info_parts infoMark
  have hbn : i0.bytes * n ≤ 281474976710656 := by rw [hz2]; omega
  have HI := Lib.hid (And.intro hi0 (And.intro hz0 (And.intro hz1 hbn)))
  clear hi0 hz0 hz1 hz2 hbn
  go_enter Try.func9, Try.ntmps9
  go_wp2_with (at_make; refine wpList_make_structs _ encMark (0, 0, ByteArray.empty) rfl _ _ 29 rfl 35 i0 _ Try.underlying29 HI.out.1 HI.out.2.1 HI.out.2.2.1 rfl .i64 .i64 n rfl rfl HI.out.2.2.2 (by omega) ?_)
  go_loopw [4] (fun i wr => ∃ k : Nat, k ≤ n ∧ i = .int .i64 k ∧ SBlk encMark wr w.heap.size 35 (upToS (0, 0, ByteArray.empty) xs n k) ∧ Below w.heap.size w wr) (fun i _ => (n - intOf i).toNat)
  case atStart => exact ⟨0, by omega, rfl, by have := blk_new w (.cells (encMark.flat (List.replicate n (0, 0, ByteArray.empty))).toArray 35); exact this, bel1 _ _⟩
  case round =>
    obtain ⟨k, k1, rfl, hblk, hB⟩ := hrel
    by_cases hlt : k < n
    · have hk : k < xs.length := by rw [HN.out]; exact hlt
      have hk' : k < (upToS (0, 0, ByteArray.empty) xs n k).length := by rw [upToS_len HN.out k1]; exact hlt
      obtain ⟨b, off, rfl, hb, c0, c1, c2⟩ := rowMark (h.next hB) hk
      go_wp2_with fail
      refine (toMark_any _ _ _ _).mono ?_; rintro e w1 ⟨rfl, hw1⟩
      have hblk1 := hblk.next hw1
      obtain ⟨d0, d1, d2⟩ := blkMark hblk1 hk'
      have f0 := hblk1.frozen (k * 3)
      have f1 := hblk1.frozen (k * 3 + 1)
      have f2 := hblk1.frozen (k * 3 + 2)
      go_wp2_with fail
      go_roundw
      case rel => exact ⟨k + 1, by omega, by go_num, by have := hblk1.set k hk' xs[k]; rwa [upToS_next HN.out hk] at this, setAll_bel (encMark.enc xs[k]) (k * 3) (bel_next hB hw1) (Nat.le_refl _)⟩
      case measure => simp [intOf]; omega
    · obtain rfl : k = n := by omega
      go_wp2_with fail
      go_ret
      refine ⟨_, rfl, Nat.le_refl _, ?_, hB⟩
      rwa [upToS_all HN.out] at hblk
theorem eqMark_same (x0 x1 : Int) (x2 : ByteArray) (w : World) : Calls Try.prog 28 #[.agg #[.int .i64 x0, .int .i64 x1, .string x2], .agg #[.int .i64 x0, .int .i64 x1, .string x2]] w fun e w' => e = .returned (.bool true) ∧ Below w.heap.size w w' := by
  go_enter Try.func28, Try.ntmps28
  go_wp2_with fail
  refine (eqWay_any _ _ _ _ _).mono ?_; rintro e w1 ⟨rfl, hw1⟩
  rw [show decide (x0 = x0 ∧ x1 = x1) = true from by simp]
  obtain ⟨hP1, hQ1, hB1⟩ := ownb2 hw1
  obtain ⟨a0, a1, a2, f0, f1, f2, z1⟩ := blk3 hP1
  obtain ⟨b0, b1, b2, g0, g1, g2, z2⟩ := blk3 hQ1
  go_wp2
  go_ret
  exact ⟨rfl, hB1⟩
set_option maxHeartbeats 4000000 in
theorem eqMarkS_same (A B : Option Addr) (ca cb : Nat) (xs : List VMark) {n : Nat} {w : World} (hn : xs.length = n) (hA : SRow encMark w A xs) (hB' : SRow encMark w B xs) (hl : n ≤ 2000000) :
    Calls Try.prog 12 #[.slice A n ca, .slice B n cb] w fun e w' => e = .returned (.bool true) ∧ Below w.heap.size w w' := by
  have HN := Lib.hid hn
  clear hn
  go_enter Try.func12, Try.ntmps12
  go_wp2_with fail
  go_loopw [5] (fun i wr => ∃ k : Nat, k ≤ n ∧ i = .int .i64 k ∧ Below w.heap.size w wr) (fun i _ => (n - intOf i).toNat)
  case atStart => exact ⟨0, by omega, rfl, Below.refl _ _⟩
  case round =>
    obtain ⟨k, k1, rfl, hB⟩ := hrel
    by_cases hlt : k < n
    · have hk : k < xs.length := by rw [HN.out]; exact hlt
      have hk1 : (k : Int) < (n : Int) := by omega
      obtain ⟨b, off, rfl, _, _⟩ := rowMark hA hk
      obtain ⟨b', off', rfl, _, _⟩ := rowMark hB' hk
      have HA : Hid (∀ wv, Below w.heap.size w wv → wv.cell? ⟨b, off + k * 3, none⟩ = some (.int .i64 xs[k].1) ∧ wv.cell? ⟨b, off + k * 3 + 1, none⟩ = some (.int .i64 xs[k].2.1) ∧ wv.cell? ⟨b, off + k * 3 + 2, none⟩ = some (.string xs[k].2.2)) := by
        intro wv h
        obtain ⟨_, _, e, _, hc⟩ := rowMark (hA.next h) hk
        simp only [Option.some.injEq, Addr.mk.injEq, and_true] at e
        obtain ⟨rfl, rfl⟩ := e
        exact hc
      have HB : Hid (∀ wv, Below w.heap.size w wv → wv.cell? ⟨b', off' + k * 3, none⟩ = some (.int .i64 xs[k].1) ∧ wv.cell? ⟨b', off' + k * 3 + 1, none⟩ = some (.int .i64 xs[k].2.1) ∧ wv.cell? ⟨b', off' + k * 3 + 2, none⟩ = some (.string xs[k].2.2)) := by
        intro wv h
        obtain ⟨_, _, e, _, hc⟩ := rowMark (hB'.next h) hk
        simp only [Option.some.injEq, Addr.mk.injEq, and_true] at e
        obtain ⟨rfl, rfl⟩ := e
        exact hc
      go_wp2_with fail
      refine wp_region_held_drew (S := (fun w' => Below w.heap.size w w')) (by kernel_rfl) (hB.drew) (fun hHeld => ?_)
      have hB_0 := id hHeld
      refine wpAnyH_take (i := 0) (oi := _) (v := ?_) rfl (by kernel_rfl) (by kernel_rfl) (by kernel_rfl) (fun _ _ _ h => h) (Or.inl ⟨by rfl, ?_⟩) (by assumption) ?_
      (rotate_left); (focus (intro wv hSw; (have qB := hSw);  go_simp; (try with_reducible rfl)))
      try simp only [Act.put, List.getElem_toArray, List.getElem_cons_succ, List.getElem_cons_zero, List.setIfInBounds_toArray, List.set_cons_zero, List.set_cons_succ]
      refine wpAnyH_take (i := 1) (oi := _) (v := ?_) rfl (by kernel_rfl) (by kernel_rfl) (by kernel_rfl) (fun _ _ _ h => h) (Or.inl ⟨by rfl, ?_⟩) (by assumption) ?_
      (rotate_left); (focus (intro wv hSw; (have qB := hSw);  go_simp; (try with_reducible rfl)))
      try simp only [Act.put, List.getElem_toArray, List.getElem_cons_succ, List.getElem_cons_zero, List.setIfInBounds_toArray, List.set_cons_zero, List.set_cons_succ]
      refine wpAnyH_take (i := 2) (oi := _) (v := ?_) rfl (by kernel_rfl) (by kernel_rfl) (by kernel_rfl) (fun _ _ _ h => h) (Or.inl ⟨by rfl, ?_⟩) (by assumption) ?_
      (rotate_left); (focus (intro wv hSw; (have qB := hSw);  go_simp; (try with_reducible rfl)))
      try simp only [Act.put, List.getElem_toArray, List.getElem_cons_succ, List.getElem_cons_zero, List.setIfInBounds_toArray, List.set_cons_zero, List.set_cons_succ]
      refine wpAnyH_take (i := 3) (oi := _) (v := ?_) rfl (by kernel_rfl) (by kernel_rfl) (by kernel_rfl) (fun _ _ _ h => h) (Or.inl ⟨by rfl, ?_⟩) (by assumption) ?_
      (rotate_left); (focus (intro wv hSw; (have qB := hSw); obtain ⟨k0, k1, k2⟩ := HA.out wv qB; go_simp; (try with_reducible rfl)))
      try simp only [Act.put, List.getElem_toArray, List.getElem_cons_succ, List.getElem_cons_zero, List.setIfInBounds_toArray, List.set_cons_zero, List.set_cons_succ]
      refine wpAnyH_take (i := 4) (oi := _) (v := ?_) rfl (by kernel_rfl) (by kernel_rfl) (by kernel_rfl) (fun _ _ _ h => h) (Or.inl ⟨by rfl, ?_⟩) (by assumption) ?_
      (rotate_left); (focus (intro wv hSw; (have qB := hSw);  go_simp; (try with_reducible rfl)))
      try simp only [Act.put, List.getElem_toArray, List.getElem_cons_succ, List.getElem_cons_zero, List.setIfInBounds_toArray, List.set_cons_zero, List.set_cons_succ]
      refine wpAnyH_take (i := 5) (oi := _) (v := ?_) rfl (by kernel_rfl) (by kernel_rfl) (by kernel_rfl) (fun _ _ _ h => h) (Or.inl ⟨by rfl, ?_⟩) (by assumption) ?_
      (rotate_left); (focus (intro wv hSw; (have qB := hSw);  go_simp; (try with_reducible rfl)))
      try simp only [Act.put, List.getElem_toArray, List.getElem_cons_succ, List.getElem_cons_zero, List.setIfInBounds_toArray, List.set_cons_zero, List.set_cons_succ]
      refine wpAnyH_take (i := 6) (oi := _) (v := ?_) rfl (by kernel_rfl) (by kernel_rfl) (by kernel_rfl) (fun _ _ _ h => h) (Or.inl ⟨by rfl, ?_⟩) (by assumption) ?_
      (rotate_left); (focus (intro wv hSw; (have qB := hSw);  go_simp; (try with_reducible rfl)))
      try simp only [Act.put, List.getElem_toArray, List.getElem_cons_succ, List.getElem_cons_zero, List.setIfInBounds_toArray, List.set_cons_zero, List.set_cons_succ]
      refine wpAnyH_take (i := 7) (oi := _) (v := ?_) rfl (by kernel_rfl) (by kernel_rfl) (by kernel_rfl) (fun _ _ _ h => h) (Or.inl ⟨by rfl, ?_⟩) (by assumption) ?_
      (rotate_left); (focus (intro wv hSw; (have qB := hSw); obtain ⟨k0, k1, k2⟩ := HB.out wv qB; go_simp; (try with_reducible rfl)))
      try simp only [Act.put, List.getElem_toArray, List.getElem_cons_succ, List.getElem_cons_zero, List.setIfInBounds_toArray, List.set_cons_zero, List.set_cons_succ]
      refine wpAnyH_ready (rs := [8]) (by kernel_rfl) (by simp) ?_
      refine AllReadyH.cons (o := _) rfl (fun K hK => ?_) AllReadyH.nil
      go_simp
      (go_at_call 28; refine (eqMark_same _ _ _ _).mono ?_; rintro e x0c ⟨rfl, hw_0c⟩)
      refine hK.out _ _ (bel_next hB_0 hw_0c) (fun hHeld => ?_)
      clear hK K
      try simp only [Act.put, List.getElem_toArray, List.getElem_cons_succ, List.getElem_cons_zero, List.setIfInBounds_toArray, List.set_cons_zero, List.set_cons_succ]
      have hB_0c := id hHeld
      refine wpAnyH_take (i := 9) (oi := _) (v := ?_) rfl (by kernel_rfl) (by kernel_rfl) (by kernel_rfl) (fun _ _ _ h => h) (Or.inl ⟨by rfl, ?_⟩) (by assumption) ?_
      (rotate_left); (focus (intro wv hSw; (have qB := hSw);  go_simp; (try with_reducible rfl)))
      try simp only [Act.put, List.getElem_toArray, List.getElem_cons_succ, List.getElem_cons_zero, List.setIfInBounds_toArray, List.set_cons_zero, List.set_cons_succ]
      refine wpAnyH_done (by kernel_rfl) ?_ _
      go_wp2_with fail
      go_roundw
      case rel => exact ⟨k + 1, by omega, by go_num, hB_0c⟩
      case measure => simp [intOf]; omega
    · obtain rfl : k = n := by omega
      go_wp2_with fail
      go_ret
      exact ⟨rfl, hB⟩
def mkMark (k0 : Nat) (i : Nat) : VMark := (((k0 + 3 * i : Nat) : Int), ((k0 + 3 * i + 1 : Nat) : Int), mtext (k0 + 3 * i + 2))
set_option maxHeartbeats 4000000 in
theorem markMarkS_any (base : Nat) (A : Option Addr) (cap : Nat) (xs : List VMark) (k0 : Nat) {m : Nat} {w : World} (hm : xs.length = m) (hO : SOwn encMark w base 35 A cap xs) (hl : m ≤ 2000000) (h0 : 1 ≤ k0) (h1 : k0 ≤ 10000000) :
    Calls Try.prog 13 #[.slice A m cap, .int .i64 k0] w fun e w' => e = .returned (.int .i64 (k0 + 3 * m)) ∧ SOwn encMark w' base 35 A cap (markS (mkMark k0) m) ∧ w.grownBy w' (Value.ownBlock (.slice A m cap)) := by
  have HM := Lib.hid hm
  clear hm
  go_enter Try.func13, Try.ntmps13
  go_wp2_with fail
  go_loopw [1, 5] (fun q i wr => ∃ k : Nat, k ≤ m ∧ i = .int .i64 k ∧ q = .int .i64 (k0 + 3 * k) ∧ SOwn encMark wr base 35 A cap (markToS (mkMark k0) xs k) ∧ w.grownBy wr (Value.ownBlock (.slice A m cap))) (fun _ i _ => (m - intOf i).toNat)
  case atStart => exact ⟨0, by omega, rfl, by simp, by rw [markToS_zero]; exact hO, ⟨rfl, rfl, rfl, Nat.le_refl _, fun _ _ _ => rfl⟩⟩
  case round =>
    obtain ⟨k, k1, rfl, rfl, hOk, hG⟩ := hrel
    by_cases hlt : k < m
    · have hk : k < xs.length := by rw [HM.out]; exact hlt
      have hk' : k < (markToS (mkMark k0) xs k).length := by rw [markToS_len _ xs (by omega)]; exact hk
      obtain ⟨g, rfl, hb, hg⟩ := hOk.at_ hk'
      obtain ⟨d0, d1, d2⟩ := ownMark hOk hk'
      have f0 := hOk.frozen (k * 3)
      have f1 := hOk.frozen (k * 3 + 1)
      have f2 := hOk.frozen (k * 3 + 2)
      have HO := Lib.hid hOk
      clear hOk
      go_wp2_with fail
      refine (markText_is (k0 + 3 * k + 2) _ (by omega) (by omega) (by omega)).mono ?_; rintro e w2 ⟨rfl, hw2⟩
      have R1 := (World.ownsRow.stored (World.ownsRow.stored HO.out (k * 3) (.int .i64 ((k0 : Int) + 3 * (k : Int)))).1 (k * 3 + 1) (.int .i64 ((k0 : Int) + 3 * (k : Int) + 1))).1
      have R2 := raw_next R1 hw2
      have hG2 := grown_nextS (row := some g) (grown_cellS (grown_cellS hG _) _) hw2
      have hidx : k * 3 + 2 < (encMark.flat (markToS (mkMark k0) xs k)).length := by rw [Enc.flat_len]; show _ < _ * 3; omega
      have c2 : w2.cell? ⟨g, k * 3 + 2, none⟩ = some (.string ((markToS (mkMark k0) xs k)[k]).2.2) := by
        have h1 := World.ownsRow.cellAt R2 (k * 3 + 2) (by rw [Enc.flat_len] at hidx; exact hidx)
        rw [h1]
        have h2 := Enc.flat_get encMark (markToS (mkMark k0) xs k) k hk' (j := 2) (v := .string ((markToS (mkMark k0) xs k)[k]).2.2) rfl
        rw [List.getElem?_set_ne (by omega)]; rw [List.getElem?_set_ne (by omega)]
        exact h2
      have f2' : w2.frozen? ⟨g, k * 3 + 2, none⟩ = false := World.ownsRow.frozenAt R2 _
      go_wp2_with fail
      go_roundw
      case rel =>
        have R3 := (World.ownsRow.stored R2 (k * 3 + 2) (.string (mtext (k0 + 3 * k + 2)))).1
        have e := Enc.flat_set encMark (markToS (mkMark k0) xs k) k hk' (mkMark k0 k)
        have hR := SOwn.of_raw (ys := (markToS (mkMark k0) xs k).set k (mkMark k0 k)) R3 e (by simp)
        rw [markToS_next _ xs hk] at hR
        exact ⟨k + 1, by omega, by go_num, by go_num, hR, grown_cellS hG2 _⟩
      case measure => simp [intOf]; omega
    · obtain rfl : k = m := by omega
      go_wp2_with fail
      go_ret
      exact ⟨rfl, by rw [← HM.out, markToS_all] at hOk; rw [← HM.out]; exact hOk, hG⟩
set_option maxHeartbeats 4000000 in
theorem heldMarkS_any (A : Option Addr) (cap : Nat) (k0 : Nat) {m : Nat} {w : World} (hA : SRow encMark w A (markS (mkMark k0) m)) (hl : m ≤ 2000000) (h0 : 1 ≤ k0) (h1 : k0 ≤ 10000000) :
    Calls Try.prog 14 #[.slice A m cap, .int .i64 k0] w fun e w' => e = .returned (.int .i64 (k0 + 3 * m)) ∧ Below w.heap.size w w' := by
  go_enter Try.func14, Try.ntmps14
  go_wp2_with fail
  go_loopw [1, 5] (fun q i wr => ∃ k : Nat, k ≤ m ∧ i = .int .i64 k ∧ q = .int .i64 (k0 + 3 * k) ∧ Below w.heap.size w wr) (fun _ i _ => (m - intOf i).toNat)
  case atStart => exact ⟨0, by omega, rfl, by simp, Below.refl _ _⟩
  case round =>
    obtain ⟨k, k1, rfl, rfl, hB⟩ := hrel
    by_cases hlt : k < m
    · have hk : k < (markS (mkMark k0) m).length := by rw [markS_len]; exact hlt
      obtain ⟨b, off, rfl, hb, c0, c1, c2⟩ := rowMark (hA.next hB) hk
      simp only [markS_at, mkMark] at c0 c1 c2
      go_wp2_with fail
      refine wp_region_held_drew (S := (fun w' => w'.cell? ⟨b, off + k * 3 + 2, none⟩ = some (.string (mtext (k0 + 3 * k + 2))) ∧ Below w.heap.size w w')) (by kernel_rfl) ⟨c2, hB.drew⟩ (fun hHeld => ?_)
      obtain ⟨hC_0, hB_0⟩ := id hHeld
      refine wpAnyH_take (i := 0) (oi := _) (v := ?_) rfl (by kernel_rfl) (by kernel_rfl) (by kernel_rfl) (fun _ _ _ h => h) (Or.inl ⟨by rfl, ?_⟩) (by assumption) ?_
      (rotate_left); (focus (intro wv hSw; (obtain ⟨qC, qB⟩ := hSw);  go_simp; (try with_reducible rfl)))
      try simp only [Act.put, List.getElem_toArray, List.getElem_cons_succ, List.getElem_cons_zero, List.setIfInBounds_toArray, List.set_cons_zero, List.set_cons_succ]
      refine wpAnyH_take (i := 1) (oi := _) (v := ?_) rfl (by kernel_rfl) (by kernel_rfl) (by kernel_rfl) (fun _ _ _ h => h) (Or.inl ⟨by rfl, ?_⟩) (by assumption) ?_
      (rotate_left); (focus (intro wv hSw; (obtain ⟨qC, qB⟩ := hSw);  go_simp; (try with_reducible rfl)))
      try simp only [Act.put, List.getElem_toArray, List.getElem_cons_succ, List.getElem_cons_zero, List.setIfInBounds_toArray, List.set_cons_zero, List.set_cons_succ]
      refine wpAnyH_take (i := 2) (oi := _) (v := ?_) rfl (by kernel_rfl) (by kernel_rfl) (by kernel_rfl) (fun _ _ _ h => h) (Or.inl ⟨by rfl, ?_⟩) (by assumption) ?_
      (rotate_left); (focus (intro wv hSw; (obtain ⟨qC, qB⟩ := hSw);  go_simp; (try with_reducible rfl)))
      try simp only [Act.put, List.getElem_toArray, List.getElem_cons_succ, List.getElem_cons_zero, List.setIfInBounds_toArray, List.set_cons_zero, List.set_cons_succ]
      refine wpAnyH_take (i := 3) (oi := _) (v := ?_) rfl (by kernel_rfl) (by kernel_rfl) (by kernel_rfl) (fun _ _ _ h => h) (Or.inl ⟨by rfl, ?_⟩) (by assumption) ?_
      (rotate_left); (focus (intro wv hSw; (obtain ⟨qC, qB⟩ := hSw);  go_simp; (try with_reducible rfl)))
      try simp only [Act.put, List.getElem_toArray, List.getElem_cons_succ, List.getElem_cons_zero, List.setIfInBounds_toArray, List.set_cons_zero, List.set_cons_succ]
      refine wpAnyH_take (i := 4) (oi := _) (v := ?_) rfl (by kernel_rfl) (by kernel_rfl) (by kernel_rfl) (fun _ _ _ h => h) (Or.inl ⟨by rfl, ?_⟩) (by assumption) ?_
      (rotate_left); (focus (intro wv hSw; (obtain ⟨qC, qB⟩ := hSw);  go_simp; (try with_reducible rfl)))
      try simp only [Act.put, List.getElem_toArray, List.getElem_cons_succ, List.getElem_cons_zero, List.setIfInBounds_toArray, List.set_cons_zero, List.set_cons_succ]
      refine wpAnyH_take (i := 5) (oi := _) (v := ?_) rfl (by kernel_rfl) (by kernel_rfl) (by kernel_rfl) (fun _ _ _ h => h) (Or.inl ⟨by rfl, ?_⟩) (by assumption) ?_
      (rotate_left); (focus (intro wv hSw; (obtain ⟨qC, qB⟩ := hSw);  go_simp; (try with_reducible rfl)))
      try simp only [Act.put, List.getElem_toArray, List.getElem_cons_succ, List.getElem_cons_zero, List.setIfInBounds_toArray, List.set_cons_zero, List.set_cons_succ]
      refine wpAnyH_ready (rs := [6]) (by kernel_rfl) (by simp) ?_
      refine AllReadyH.cons (o := _) rfl (fun K hK => ?_) AllReadyH.nil
      go_simp
      (go_at_call 29; refine (markText_is (k0 + 3 * k + 2) _ (by omega) (by omega) (by omega)).mono ?_; rintro e x0c ⟨rfl, hw_0c⟩)
      refine hK.out _ _ ⟨celS_next hC_0 hw_0c, bel_next hB_0 hw_0c⟩ (fun hHeld => ?_)
      clear hK K
      try simp only [Act.put, List.getElem_toArray, List.getElem_cons_succ, List.getElem_cons_zero, List.setIfInBounds_toArray, List.set_cons_zero, List.set_cons_succ]
      obtain ⟨hC_0c, hB_0c⟩ := id hHeld
      refine wpAnyH_take (i := 7) (oi := _) (v := ?_) rfl (by kernel_rfl) (by kernel_rfl) (by kernel_rfl) (fun _ _ _ h => h) (Or.inl ⟨by rfl, ?_⟩) (by assumption) ?_
      (rotate_left); (focus (intro wv hSw; (obtain ⟨qC, qB⟩ := hSw);  go_simp; (try with_reducible rfl)))
      try simp only [Act.put, List.getElem_toArray, List.getElem_cons_succ, List.getElem_cons_zero, List.setIfInBounds_toArray, List.set_cons_zero, List.set_cons_succ]
      refine wpAnyH_done (by kernel_rfl) ?_ _
      go_wp2_with fail
      go_roundw
      case rel => exact ⟨k + 1, by omega, by go_num, by go_num, hB_0c⟩
      case measure => simp [intOf]; omega
    · obtain rfl : k = m := by omega
      go_wp2_with fail
      go_ret
      exact ⟨rfl, hB⟩
section
variable {H : Type} {enc : TypeId × Value → H} {w : World} {base : Nat} {spare : Nat → Bool} {held : Bool}
theorem decMark (fuel : Nat) (cs : List Value) (x : DataW H × List MemPlace) (h : DataW.trod enc Try.prog w base spare held fuel 26 cs = some x) : ∃ v : VMark, cs = encMark.enc v ∧ Wf v.1 ∧ Wf v.2.1 ∧ v.2.2.size ≤ maxLen := by
  obtain ⟨y0, y1, n, _, hlen, h0, h1⟩ := trod_struct2 Try.underlying26 h
  have hc : cs.length = 3 := hlen.trans (by kernel_rfl)
  match cs, hc with
  | [c0, c1, c2], _ =>
    have e0 : (([c0, c1, c2] : List Value).drop 0).take 2 = [c0, c1] := rfl
    have e1 : (([c0, c1, c2] : List Value).drop 2).take 1 = [c2] := rfl
    have k0 : Try.prog.cellsOf 24 = 2 := by kernel_rfl
    have k1 : Try.prog.cellsOf 9 = 1 := by kernel_rfl
    simp only [k0, k1, e0, e1] at h0 h1
    obtain ⟨zs, hz, hzs, hw⟩ := int_cells Try.underlying24 (by kernel_rfl) (by kernel_rfl) (by kernel_rfl) h0
    obtain ⟨s, hs, _, hsz⟩ := DataW.trod_string Try.underlying9 h1
    match zs, hz with
    | [a, b], _ =>
      simp at hzs hs
      exact ⟨(a, b, s), by rw [hzs.1, hzs.2, hs]; rfl, hw _ (by simp), hw _ (by simp), hsz⟩
theorem openMarkS {fuel : Nat} {cs : List Value} {x : DataW H × List MemPlace} (h : DataW.trod enc Try.prog w base spare held fuel 22 cs = some x) :
    ∃ (A : Option Addr) (cap : Nat) (xs : List VMark), cs = [.slice A xs.length cap] ∧ xs.length ≤ maxLen ∧ SRow encMark w A xs ∧ ∀ v ∈ xs, (fun v => Wf v.1 ∧ Wf v.2.1 ∧ v.2.2.size ≤ maxLen) v :=
  open_structs encMark (0, 0, ByteArray.empty) (fun v => Wf v.1 ∧ Wf v.2.1 ∧ v.2.2.size ≤ maxLen) Try.underlying22 (by kernel_rfl) decMark h
theorem openMark {r : Reach} {b0 : Nat} {v : Value} {d : DataW H} {p : List MemPlace} (hv : Value.okWide Try.prog w r b0 26 v) (h : DataW.Trod enc Try.prog w base spare held 26 v d p) : ∃ x : VMark, v = .agg (encMark.enc x).toArray ∧ (fun v => Wf v.1 ∧ Wf v.2.1 ∧ v.2.2.size ≤ maxLen) x :=
  open_struct encMark (fun v => Wf v.1 ∧ Wf v.2.1 ∧ v.2.2.size ≤ maxLen) Try.underlying26 decMark hv h
end
/-- What is left behind a slice's size. -/
def LeftMark (L : Int) (n : Nat) (r : Int) : Prop := r = -1 ∨ (0 ≤ r ∧ r ≤ L ∧ (n : Int) ≤ L)
theorem szMark_any (x0 : Int) (x1 : Int) (x2 : ByteArray) (L : Int) (w : World) (h0 : 0 ≤ L) (h1 : L ≤ 1048576) (hs : x2.size ≤ maxLen) : Calls Try.prog 7 #[.agg #[.int .i64 x0, .int .i64 x1, .string x2], .int .i64 L] w fun e w' => ∃ r, e = .returned (.int .i64 r) ∧ LeftMark L x2.size r ∧ Below w.heap.size w w' := by
  unfold maxLen at hs
  by_cases h : (x2.size : Int) ≤ L
  · have hs : ¬ L - (x2.size : Int) < 0 := by omega
    go_enter Try.func7, Try.ntmps7
    go_wp2
    go_ret
    exact ⟨L - x2.size, rfl, .inr ⟨by omega, by omega, h⟩, bel1 _ _⟩
  · have hs : L - (x2.size : Int) < 0 := by omega
    go_enter Try.func7, Try.ntmps7
    go_wp2
    go_ret
    exact ⟨-1, rfl, .inl rfl, bel1 _ _⟩
set_option maxHeartbeats 4000000 in
theorem szMarkS_any (A : Option Addr) (cap : Nat) (xs : List VMark) {n : Nat} (L : Int) (w : World) (hn : xs.length = n) (hA : SRow encMark w A xs) (hQ : ∀ v ∈ xs, (fun v => Wf v.1 ∧ Wf v.2.1 ∧ v.2.2.size ≤ maxLen) v) (h0 : 0 ≤ L) (h1 : L ≤ 1048576) (hl : n ≤ maxLen) :
    Calls Try.prog 6 #[.slice A n cap, .int .i64 L] w fun e w' => ∃ r, e = .returned (.int .i64 r) ∧ LeftMark L n r ∧ Below w.heap.size w w' := by
  unfold maxLen at hl
  have HN := Lib.hid hn
  have HQ := Lib.hid hQ
  clear hn hQ
  by_cases h : (n : Int) ≤ L
  · have hs : ¬ L - (n : Int) < 0 := by omega
    go_enter Try.func6, Try.ntmps6
    go_wp2_with fail
    go_loopw [1, 5] (fun q i wr => ∃ (k : Nat) (r : Int), k ≤ n ∧ i = .int .i64 k ∧ q = .int .i64 r ∧ 0 ≤ r ∧ r ≤ L ∧ Below w.heap.size w wr) (fun _ i _ => (n - intOf i).toNat)
    case atStart => exact ⟨0, L - n, by omega, rfl, rfl, by omega, by omega, Below.refl _ _⟩
    case round =>
      obtain ⟨k, r, k1, rfl, rfl, r0, r1, hB⟩ := hrel
      by_cases hlt : k < n
      · have hk : k < xs.length := by rw [HN.out]; exact hlt
        obtain ⟨b, off, rfl, hb, c0, c1, c2⟩ := rowMark (hA.next hB) hk
        have hz := HQ.out xs[k] (List.getElem_mem hk)
        go_wp2_with fail
        refine (szMark_any _ _ _ r _ r0 (by omega) hz.2.2).mono ?_; rintro e w2 ⟨r2, rfl, hL, hw2⟩
        have hB2 := bel_next hB hw2
        rcases hL with rfl | ⟨q0, q1, q2⟩
        · go_wp2
          go_ret
          exact ⟨-1, rfl, .inl rfl, hB2⟩
        · have hr2 : ¬ r2 < 0 := by omega
          go_wp2_with fail
          go_roundw
          case rel => exact ⟨k + 1, r2, by omega, by go_num, rfl, q0, by omega, hB2⟩
          case measure => simp [intOf]; omega
      · obtain rfl : k = n := by omega
        go_wp2_with fail
        go_ret
        exact ⟨r, rfl, .inr ⟨r0, r1, h⟩, hB⟩
  · have hs : L - (n : Int) < 0 := by omega
    go_enter Try.func6, Try.ntmps6
    go_wp2
    go_ret
    exact ⟨-1, rfl, .inl rfl, Below.refl _ _⟩
end Go.Proofs.Ytjlaefapcfppeaa
