/- Slices of Plant: copies, comparisons, sizes, marks. -/
import Derived.Test.YtighdgdgejenlaaRows
import Derived.Test.YtighdgdgejenlaaGo
namespace Go.Proofs.Ytighdgdgejenlaa
open Go Go.ChangeShapes Go.WideShapes Go.ChangeAt Go.RowKit Go.Deep
set_option linter.unusedSimpArgs false
set_option linter.unusedVariables false
set_option linter.unnecessarySimpa false

abbrev VPlant := Int × Int
def encPlant : Enc VPlant := ⟨2, fun x => [.int .i64 x.1, .int .i64 x.2], fun _ => rfl, by intro x u hu; simp at hu; rcases hu with rfl | rfl <;> rfl, by omega⟩
theorem rowPlant {w : World} {A : Option Addr} {xs : List VPlant} (h : SRow encPlant w A xs) {i : Nat} (hi : i < xs.length) : ∃ b off : Nat, A = some ⟨b, off, none⟩ ∧ b < w.heap.size ∧ w.cell? ⟨b, off + i * 2, none⟩ = some (.int .i64 xs[i].1) ∧ w.cell? ⟨b, off + i * 2 + 1, none⟩ = some (.int .i64 xs[i].2) := by
  obtain ⟨b, off, e, hb, hc⟩ := h.at_ hi
  exact ⟨b, off, e, hb, by have := hc 0 _ rfl; simpa [encPlant, Nat.add_assoc] using this, by have := hc 1 _ rfl; simpa [encPlant, Nat.add_assoc] using this⟩
theorem blkPlant {w : World} {g : Nat} {T : TypeId} {xs : List VPlant} (h : SBlk encPlant w g T xs) {i : Nat} (hi : i < xs.length) : w.cell? ⟨g, i * 2, none⟩ = some (.int .i64 xs[i].1) ∧ w.cell? ⟨g, i * 2 + 1, none⟩ = some (.int .i64 xs[i].2) :=
  ⟨by have := h.cell i hi 0 _ rfl; simpa [encPlant] using this, by have := h.cell i hi 1 _ rfl; simpa [encPlant] using this⟩
theorem ownPlant {w : World} {base g cap : Nat} {T : TypeId} {xs : List VPlant} (h : SOwn encPlant w base T (some ⟨g, 0, none⟩) cap xs) {i : Nat} (hi : i < xs.length) : w.cell? ⟨g, i * 2, none⟩ = some (.int .i64 xs[i].1) ∧ w.cell? ⟨g, i * 2 + 1, none⟩ = some (.int .i64 xs[i].2) :=
  ⟨by have := h.cell i hi 0 _ rfl; simpa [encPlant] using this, by have := h.cell i hi 1 _ rfl; simpa [encPlant] using this⟩
theorem toPlant_any (x0 : Int) (x1 : Int) (w : World) : Calls Try.prog 43 #[.agg #[.int .i64 x0, .int .i64 x1]] w fun e w' => e = .returned (.agg #[.int .i64 x0, .int .i64 x1]) ∧ Below w.heap.size w w' := by
  go_enter Try.func43, Try.ntmps43
  go_wp2
  exact bodyPost_ret (v := .agg #[.int .i64 x0, .int .i64 x1]) (by simp [results, Try.results43, go_sem]) rfl ⟨rfl, by
    repeat (first | exact Below.refl _ _ | refine Below.setCell ?_ (by simp <;> omega) _ | refine Below.alloc ?_ (by simp <;> omega) _)⟩
theorem infoPlant : (Try.prog.info? 52).map (fun i => (i.zero, i.size, i.bytes)) = some (some (.agg #[.int .i64 0, .int .i64 0]), 2, 16) := by kernel_rfl
def CopyPlant (xs : List VPlant) (w : World) (e : Ending) (w' : World) : Prop := ∃ g : Nat, e = .returned (.slice (some ⟨g, 0, none⟩) xs.length xs.length) ∧ w.heap.size ≤ g ∧ SBlk encPlant w' g 52 xs ∧ Below w.heap.size w w'
set_option maxHeartbeats 4000000 in
theorem toPlantS_any (A : Option Addr) (cap : Nat) (xs : List VPlant) (w : World) (h : SRow encPlant w A xs) (hl : xs.length ≤ 2000000) :
    Calls Try.prog 14 #[.slice A xs.length cap] w (CopyPlant xs w) := by
  unfold CopyPlant
  generalize hn : xs.length = n at hl ⊢
  have HN := Lib.hid hn
  clear hn
  obtain ⟨i0, hi0, hz0, hz1, hz2⟩ := info_parts infoPlant
  have hbn : i0.bytes * n ≤ 281474976710656 := by rw [hz2]; omega
  have HI := Lib.hid (And.intro hi0 (And.intro hz0 (And.intro hz1 hbn)))
  clear hi0 hz0 hz1 hz2 hbn
  go_enter Try.func14, Try.ntmps14
  go_wp2_with (at_make; refine wpList_make_structs _ encPlant (0, 0) rfl _ _ 27 rfl 52 i0 _ Try.underlying27 HI.out.1 HI.out.2.1 HI.out.2.2.1 rfl .i64 .i64 n rfl rfl HI.out.2.2.2 (by omega) ?_)
  go_loopw [4] (fun i wr => ∃ k : Nat, k ≤ n ∧ i = .int .i64 k ∧ SBlk encPlant wr w.heap.size 52 (upToS (0, 0) xs n k) ∧ Below w.heap.size w wr) (fun i _ => (n - intOf i).toNat)
  case atStart => exact ⟨0, by omega, rfl, by have := blk_new w (.cells (encPlant.flat (List.replicate n (0, 0))).toArray 52); exact this, bel1 _ _⟩
  case round =>
    obtain ⟨k, k1, rfl, hblk, hB⟩ := hrel
    by_cases hlt : k < n
    · have hk : k < xs.length := by rw [HN.out]; exact hlt
      have hk' : k < (upToS (0, 0) xs n k).length := by rw [upToS_len HN.out k1]; exact hlt
      obtain ⟨b, off, rfl, hb, c0, c1⟩ := rowPlant (h.next hB) hk
      go_wp2_with fail
      refine (toPlant_any _ _ _).mono ?_; rintro e w1 ⟨rfl, hw1⟩
      have hblk1 := hblk.next hw1
      obtain ⟨d0, d1⟩ := blkPlant hblk1 hk'
      have f0 := hblk1.frozen (k * 2)
      have f1 := hblk1.frozen (k * 2 + 1)
      go_wp2_with fail
      go_roundw
      case rel => exact ⟨k + 1, by omega, by go_num, by have := hblk1.set k hk' xs[k]; rwa [upToS_next HN.out hk] at this, setAll_bel (encPlant.enc xs[k]) (k * 2) (bel_next hB hw1) (Nat.le_refl _)⟩
      case measure => simp [intOf]; omega
    · obtain rfl : k = n := by omega
      go_wp2_with fail
      go_ret
      refine ⟨_, rfl, Nat.le_refl _, ?_, hB⟩
      rwa [upToS_all HN.out] at hblk
theorem eqPlant_same (x0 : Int) (x1 : Int) (w : World) : Calls Try.prog 50 #[.agg #[.int .i64 x0, .int .i64 x1], .agg #[.int .i64 x0, .int .i64 x1]] w fun e w' => e = .returned (.bool true) ∧ Below w.heap.size w w' := by
  go_enter Try.func50, Try.ntmps50
  go_wp2
  go_ret
  exact ⟨rfl, (bel1 _ _).alloc (by simp) _⟩
set_option maxHeartbeats 4000000 in
theorem eqPlantS_same (A B : Option Addr) (ca cb : Nat) (xs : List VPlant) {n : Nat} {w : World} (hn : xs.length = n) (hA : SRow encPlant w A xs) (hB' : SRow encPlant w B xs) (hl : n ≤ 2000000) :
    Calls Try.prog 17 #[.slice A n ca, .slice B n cb] w fun e w' => e = .returned (.bool true) ∧ Below w.heap.size w w' := by
  have HN := Lib.hid hn
  clear hn
  go_enter Try.func17, Try.ntmps17
  go_wp2_with fail
  go_loopw [5] (fun i wr => ∃ k : Nat, k ≤ n ∧ i = .int .i64 k ∧ Below w.heap.size w wr) (fun i _ => (n - intOf i).toNat)
  case atStart => exact ⟨0, by omega, rfl, Below.refl _ _⟩
  case round =>
    obtain ⟨k, k1, rfl, hB⟩ := hrel
    by_cases hlt : k < n
    · have hk : k < xs.length := by rw [HN.out]; exact hlt
      have hk1 : (k : Int) < (n : Int) := by omega
      obtain ⟨b, off, rfl, _, _⟩ := rowPlant hA hk
      obtain ⟨b', off', rfl, _, _⟩ := rowPlant hB' hk
      have HA : Hid (∀ wv, Below w.heap.size w wv → wv.cell? ⟨b, off + k * 2, none⟩ = some (.int .i64 xs[k].1) ∧ wv.cell? ⟨b, off + k * 2 + 1, none⟩ = some (.int .i64 xs[k].2)) := by
        intro wv h
        obtain ⟨_, _, e, _, hc⟩ := rowPlant (hA.next h) hk
        simp only [Option.some.injEq, Addr.mk.injEq, and_true] at e
        obtain ⟨rfl, rfl⟩ := e
        exact hc
      have HB : Hid (∀ wv, Below w.heap.size w wv → wv.cell? ⟨b', off' + k * 2, none⟩ = some (.int .i64 xs[k].1) ∧ wv.cell? ⟨b', off' + k * 2 + 1, none⟩ = some (.int .i64 xs[k].2)) := by
        intro wv h
        obtain ⟨_, _, e, _, hc⟩ := rowPlant (hB'.next h) hk
        simp only [Option.some.injEq, Addr.mk.injEq, and_true] at e
        obtain ⟨rfl, rfl⟩ := e
        exact hc
      go_wp2_with fail
      refine wp_region_held_drew (S := (fun w' => Below w.heap.size w w')) (by kernel_rfl) (hB.drew) (fun hHeld => ?_)
      have hB_0 := id hHeld
      refine wpAnyH_take (i := 0) (oi := _) (v := ?_) rfl (by kernel_rfl) (by kernel_rfl) (by kernel_rfl) (fun _ _ _ h => h) (Or.inl ⟨by rfl, ?_⟩) (by assumption) ?_
      (rotate_left); (focus (intro wv hSw; (have qB := hSw);  go_simp; (try with_reducible rfl)))
      try simp only [Act.put, List.getElem_toArray, List.getElem_cons_succ, List.getElem_cons_zero, List.setIfInBounds_toArray, List.set_cons_zero, List.set_cons_succ]
      refine wpAnyH_take (i := 1) (oi := _) (v := ?_) rfl (by kernel_rfl) (by kernel_rfl) (by kernel_rfl) (fun _ _ _ h => h) (Or.inl ⟨by rfl, ?_⟩) (by assumption) ?_
      (rotate_left); (focus (intro wv hSw; (have qB := hSw);  go_simp; (try with_reducible rfl)))
      try simp only [Act.put, List.getElem_toArray, List.getElem_cons_succ, List.getElem_cons_zero, List.setIfInBounds_toArray, List.set_cons_zero, List.set_cons_succ]
      refine wpAnyH_take (i := 2) (oi := _) (v := ?_) rfl (by kernel_rfl) (by kernel_rfl) (by kernel_rfl) (fun _ _ _ h => h) (Or.inl ⟨by rfl, ?_⟩) (by assumption) ?_
      (rotate_left); (focus (intro wv hSw; (have qB := hSw);  go_simp; (try with_reducible rfl)))
      try simp only [Act.put, List.getElem_toArray, List.getElem_cons_succ, List.getElem_cons_zero, List.setIfInBounds_toArray, List.set_cons_zero, List.set_cons_succ]
      refine wpAnyH_take (i := 3) (oi := _) (v := ?_) rfl (by kernel_rfl) (by kernel_rfl) (by kernel_rfl) (fun _ _ _ h => h) (Or.inl ⟨by rfl, ?_⟩) (by assumption) ?_
      (rotate_left); (focus (intro wv hSw; (have qB := hSw); obtain ⟨k0, k1⟩ := HA.out wv qB; go_simp; (try with_reducible rfl)))
      try simp only [Act.put, List.getElem_toArray, List.getElem_cons_succ, List.getElem_cons_zero, List.setIfInBounds_toArray, List.set_cons_zero, List.set_cons_succ]
      refine wpAnyH_take (i := 4) (oi := _) (v := ?_) rfl (by kernel_rfl) (by kernel_rfl) (by kernel_rfl) (fun _ _ _ h => h) (Or.inl ⟨by rfl, ?_⟩) (by assumption) ?_
      (rotate_left); (focus (intro wv hSw; (have qB := hSw);  go_simp; (try with_reducible rfl)))
      try simp only [Act.put, List.getElem_toArray, List.getElem_cons_succ, List.getElem_cons_zero, List.setIfInBounds_toArray, List.set_cons_zero, List.set_cons_succ]
      refine wpAnyH_take (i := 5) (oi := _) (v := ?_) rfl (by kernel_rfl) (by kernel_rfl) (by kernel_rfl) (fun _ _ _ h => h) (Or.inl ⟨by rfl, ?_⟩) (by assumption) ?_
      (rotate_left); (focus (intro wv hSw; (have qB := hSw);  go_simp; (try with_reducible rfl)))
      try simp only [Act.put, List.getElem_toArray, List.getElem_cons_succ, List.getElem_cons_zero, List.setIfInBounds_toArray, List.set_cons_zero, List.set_cons_succ]
      refine wpAnyH_take (i := 6) (oi := _) (v := ?_) rfl (by kernel_rfl) (by kernel_rfl) (by kernel_rfl) (fun _ _ _ h => h) (Or.inl ⟨by rfl, ?_⟩) (by assumption) ?_
      (rotate_left); (focus (intro wv hSw; (have qB := hSw);  go_simp; (try with_reducible rfl)))
      try simp only [Act.put, List.getElem_toArray, List.getElem_cons_succ, List.getElem_cons_zero, List.setIfInBounds_toArray, List.set_cons_zero, List.set_cons_succ]
      refine wpAnyH_take (i := 7) (oi := _) (v := ?_) rfl (by kernel_rfl) (by kernel_rfl) (by kernel_rfl) (fun _ _ _ h => h) (Or.inl ⟨by rfl, ?_⟩) (by assumption) ?_
      (rotate_left); (focus (intro wv hSw; (have qB := hSw); obtain ⟨k0, k1⟩ := HB.out wv qB; go_simp; (try with_reducible rfl)))
      try simp only [Act.put, List.getElem_toArray, List.getElem_cons_succ, List.getElem_cons_zero, List.setIfInBounds_toArray, List.set_cons_zero, List.set_cons_succ]
      refine wpAnyH_ready (rs := [8]) (by kernel_rfl) (by simp) ?_
      refine AllReadyH.cons (o := _) rfl (fun K hK => ?_) AllReadyH.nil
      go_simp
      (go_at_call 50; refine (eqPlant_same _ _ _).mono ?_; rintro e x0c ⟨rfl, hw_0c⟩)
      refine hK.out _ _ (bel_next hB_0 hw_0c) (fun hHeld => ?_)
      clear hK K
      try simp only [Act.put, List.getElem_toArray, List.getElem_cons_succ, List.getElem_cons_zero, List.setIfInBounds_toArray, List.set_cons_zero, List.set_cons_succ]
      have hB_0c := id hHeld
      refine wpAnyH_take (i := 9) (oi := _) (v := ?_) rfl (by kernel_rfl) (by kernel_rfl) (by kernel_rfl) (fun _ _ _ h => h) (Or.inl ⟨by rfl, ?_⟩) (by assumption) ?_
      (rotate_left); (focus (intro wv hSw; (have qB := hSw);  go_simp; (try with_reducible rfl)))
      try simp only [Act.put, List.getElem_toArray, List.getElem_cons_succ, List.getElem_cons_zero, List.setIfInBounds_toArray, List.set_cons_zero, List.set_cons_succ]
      refine wpAnyH_done (by kernel_rfl) ?_ _
      go_wp2_with fail
      go_roundw
      case rel => exact ⟨k + 1, by omega, by go_num, hB_0c⟩
      case measure => simp [intOf]; omega
    · obtain rfl : k = n := by omega
      go_wp2_with fail
      go_ret
      exact ⟨rfl, hB⟩
def mkPlant (k0 : Nat) (i : Nat) : VPlant := (((k0 + 2 * i : Nat) : Int), ((k0 + 2 * i + 1 : Nat) : Int))
set_option maxHeartbeats 4000000 in
theorem markPlantS_any (base : Nat) (A : Option Addr) (cap : Nat) (xs : List VPlant) (k0 : Nat) {m : Nat} {w : World} (hm : xs.length = m) (hO : SOwn encPlant w base 52 A cap xs) (hl : m ≤ 2000000) (h0 : 1 ≤ k0) (h1 : k0 ≤ 10000000) :
    Calls Try.prog 19 #[.slice A m cap, .int .i64 k0] w fun e w' => e = .returned (.int .i64 (k0 + 2 * m)) ∧ SOwn encPlant w' base 52 A cap (markS (mkPlant k0) m) ∧ w.grownBy w' (Value.ownBlock (.slice A m cap)) := by
  have HM := Lib.hid hm
  clear hm
  go_enter Try.func19, Try.ntmps19
  go_wp2_with fail
  go_loopw [1, 5] (fun q i wr => ∃ k : Nat, k ≤ m ∧ i = .int .i64 k ∧ q = .int .i64 (k0 + 2 * k) ∧ SOwn encPlant wr base 52 A cap (markToS (mkPlant k0) xs k) ∧ w.grownBy wr (Value.ownBlock (.slice A m cap))) (fun _ i _ => (m - intOf i).toNat)
  case atStart => exact ⟨0, by omega, rfl, by simp, by rw [markToS_zero]; exact hO, ⟨rfl, rfl, rfl, Nat.le_refl _, fun _ _ _ => rfl⟩⟩
  case round =>
    obtain ⟨k, k1, rfl, rfl, hOk, hG⟩ := hrel
    by_cases hlt : k < m
    · have hk : k < xs.length := by rw [HM.out]; exact hlt
      have hk' : k < (markToS (mkPlant k0) xs k).length := by rw [markToS_len _ xs (by omega)]; exact hk
      obtain ⟨g, rfl, hb, hg⟩ := hOk.at_ hk'
      obtain ⟨d0, d1⟩ := ownPlant hOk hk'
      have f0 := hOk.frozen (k * 2)
      have f1 := hOk.frozen (k * 2 + 1)
      have HO := Lib.hid hOk
      clear hOk
      go_wp2_with fail
      go_roundw
      case rel => exact ⟨k + 1, by omega, by go_num, by go_num, by have := HO.out.set k hk' (mkPlant k0 k); rw [markToS_next _ xs hk] at this; exact this, setAll_grown (encPlant.enc (mkPlant k0 k)) (k * 2) hG⟩
      case measure => simp [intOf]; omega
    · obtain rfl : k = m := by omega
      go_wp2_with fail
      go_ret
      exact ⟨rfl, by rw [← HM.out, markToS_all] at hOk; rw [← HM.out]; exact hOk, hG⟩
section
variable {H : Type} {enc : TypeId × Value → H} {w : World} {base : Nat} {spare : Nat → Bool} {held : Bool}
theorem decPlant (fuel : Nat) (cs : List Value) (x : DataW H × List MemPlace) (h : DataW.trod enc Try.prog w base spare held fuel 54 cs = some x) : ∃ v : VPlant, cs = encPlant.enc v ∧ Wf v.1 ∧ Wf v.2 := by
  obtain ⟨zs, hz, rfl, hw⟩ := int_cells Try.underlying54 (by kernel_rfl) (by kernel_rfl) (by kernel_rfl) h
  match zs, hz with
  | [z0, z1], _ => exact ⟨(z0, z1), rfl, hw _ (by simp), hw _ (by simp)⟩
theorem openPlantS {fuel : Nat} {cs : List Value} {x : DataW H × List MemPlace} (h : DataW.trod enc Try.prog w base spare held fuel 23 cs = some x) :
    ∃ (A : Option Addr) (cap : Nat) (xs : List VPlant), cs = [.slice A xs.length cap] ∧ xs.length ≤ maxLen ∧ SRow encPlant w A xs ∧ ∀ v ∈ xs, (fun v => Wf v.1 ∧ Wf v.2) v :=
  open_structs encPlant (0, 0) (fun v => Wf v.1 ∧ Wf v.2) Try.underlying23 (by kernel_rfl) decPlant h
theorem openPlant {r : Reach} {b0 : Nat} {v : Value} {d : DataW H} {p : List MemPlace} (hv : Value.okWide Try.prog w r b0 54 v) (h : DataW.Trod enc Try.prog w base spare held 54 v d p) : ∃ x : VPlant, v = .agg (encPlant.enc x).toArray ∧ (fun v => Wf v.1 ∧ Wf v.2) x :=
  open_struct encPlant (fun v => Wf v.1 ∧ Wf v.2) Try.underlying54 decPlant hv h
end
/-- What is left behind a slice's size. -/
def LeftPlant (L : Int) (n : Nat) (r : Int) : Prop := r = -1 ∨ (0 ≤ r ∧ r ≤ L ∧ (n : Int) ≤ L)
theorem szPlantS_any (A : Option Addr) (n cap : Nat) (L : Int) (w : World) (h0 : 0 ≤ L) (h1 : L ≤ 1048576) (hl : n ≤ maxLen) : Calls Try.prog 11 #[.slice A n cap, .int .i64 L] w fun e w' => ∃ r, e = .returned (.int .i64 r) ∧ LeftPlant L n r ∧ w = w' := by
  unfold maxLen at hl
  by_cases h : (n : Int) ≤ L
  · have hs : ¬ L - (n : Int) < 0 := by omega
    go_enter Try.func11, Try.ntmps11
    go_wp2
    go_ret
    exact ⟨L - n, rfl, .inr ⟨by omega, by omega, h⟩, rfl⟩
  · have hs : L - (n : Int) < 0 := by omega
    go_enter Try.func11, Try.ntmps11
    go_wp2
    go_ret
    exact ⟨-1, rfl, .inl rfl, rfl⟩
end Go.Proofs.Ytighdgdgejenlaa
