/- Slices of Load: copies, comparisons, sizes, marks. -/
import Derived.Test.YtibpaojhjgpdaaaRows
import Derived.Test.YtibpaojhjgpdaaaGo
namespace Go.Proofs.Ytibpaojhjgpdaaa
open Go Go.ChangeShapes Go.WideShapes Go.ChangeAt Go.RowKit Go.Deep
set_option linter.unusedSimpArgs false
set_option linter.unusedVariables false
set_option linter.unnecessarySimpa false

abbrev VLoad := Int × Int
def encLoad : Enc VLoad := ⟨2, fun x => [.int .i64 x.1, .int .i64 x.2], fun _ => rfl, by intro x u hu; simp at hu; rcases hu with rfl | rfl <;> rfl, by omega⟩
theorem rowLoad {w : World} {A : Option Addr} {xs : List VLoad} (h : SRow encLoad w A xs) {i : Nat} (hi : i < xs.length) : ∃ b off : Nat, A = some ⟨b, off, none⟩ ∧ b < w.heap.size ∧ w.cell? ⟨b, off + i * 2, none⟩ = some (.int .i64 xs[i].1) ∧ w.cell? ⟨b, off + i * 2 + 1, none⟩ = some (.int .i64 xs[i].2) := by
  obtain ⟨b, off, e, hb, hc⟩ := h.at_ hi
  exact ⟨b, off, e, hb, by have := hc 0 _ rfl; simpa [encLoad, Nat.add_assoc] using this, by have := hc 1 _ rfl; simpa [encLoad, Nat.add_assoc] using this⟩
theorem blkLoad {w : World} {g : Nat} {T : TypeId} {xs : List VLoad} (h : SBlk encLoad w g T xs) {i : Nat} (hi : i < xs.length) : w.cell? ⟨g, i * 2, none⟩ = some (.int .i64 xs[i].1) ∧ w.cell? ⟨g, i * 2 + 1, none⟩ = some (.int .i64 xs[i].2) :=
  ⟨by have := h.cell i hi 0 _ rfl; simpa [encLoad] using this, by have := h.cell i hi 1 _ rfl; simpa [encLoad] using this⟩
theorem ownLoad {w : World} {base g cap : Nat} {T : TypeId} {xs : List VLoad} (h : SOwn encLoad w base T (some ⟨g, 0, none⟩) cap xs) {i : Nat} (hi : i < xs.length) : w.cell? ⟨g, i * 2, none⟩ = some (.int .i64 xs[i].1) ∧ w.cell? ⟨g, i * 2 + 1, none⟩ = some (.int .i64 xs[i].2) :=
  ⟨by have := h.cell i hi 0 _ rfl; simpa [encLoad] using this, by have := h.cell i hi 1 _ rfl; simpa [encLoad] using this⟩
theorem toLoad_any (x0 : Int) (x1 : Int) (w : World) : Calls Try.prog 57 #[.agg #[.int .i64 x0, .int .i64 x1]] w fun e w' => e = .returned (.agg #[.int .i64 x0, .int .i64 x1]) ∧ Below w.heap.size w w' := by
  go_enter Try.func57, Try.ntmps57
  go_wp2
  exact bodyPost_ret (v := .agg #[.int .i64 x0, .int .i64 x1]) (by simp [results, Try.results57, go_sem]) rfl ⟨rfl, by
    repeat (first | exact Below.refl _ _ | refine Below.setCell ?_ (by simp <;> omega) _ | refine Below.alloc ?_ (by simp <;> omega) _)⟩
theorem infoLoad : (Try.prog.info? 72).map (fun i => (i.zero, i.size, i.bytes)) = some (some (.agg #[.int .i64 0, .int .i64 0]), 2, 16) := by kernel_rfl
def CopyLoad (xs : List VLoad) (w : World) (e : Ending) (w' : World) : Prop := ∃ g : Nat, e = .returned (.slice (some ⟨g, 0, none⟩) xs.length xs.length) ∧ w.heap.size ≤ g ∧ SBlk encLoad w' g 72 xs ∧ Below w.heap.size w w'
set_option maxHeartbeats 4000000 in
theorem toLoadS_any (A : Option Addr) (cap : Nat) (xs : List VLoad) (w : World) (h : SRow encLoad w A xs) (hl : xs.length ≤ 2000000) :
    Calls Try.prog 28 #[.slice A xs.length cap] w (CopyLoad xs w) := by
  unfold CopyLoad
  generalize hn : xs.length = n at hl ⊢
  have HN := Lib.hid hn
  clear hn
  obtain ⟨i0, hi0, hz0, hz1, hz2⟩ := info_parts infoLoad
  have hbn : i0.bytes * n ≤ 281474976710656 := by rw [hz2]; omega
  have HI := Lib.hid (And.intro hi0 (And.intro hz0 (And.intro hz1 hbn)))
  clear hi0 hz0 hz1 hz2 hbn
  go_enter Try.func28, Try.ntmps28
  go_wp2_with (at_make; refine wpList_make_structs _ encLoad (0, 0) rfl _ _ 46 rfl 72 i0 _ Try.underlying46 HI.out.1 HI.out.2.1 HI.out.2.2.1 rfl .i64 .i64 n rfl rfl HI.out.2.2.2 (by omega) ?_)
  go_loopw [4] (fun i wr => ∃ k : Nat, k ≤ n ∧ i = .int .i64 k ∧ SBlk encLoad wr w.heap.size 72 (upToS (0, 0) xs n k) ∧ Below w.heap.size w wr) (fun i _ => (n - intOf i).toNat)
  case atStart => exact ⟨0, by omega, rfl, by have := blk_new w (.cells (encLoad.flat (List.replicate n (0, 0))).toArray 72); exact this, bel1 _ _⟩
  case round =>
    obtain ⟨k, k1, rfl, hblk, hB⟩ := hrel
    by_cases hlt : k < n
    · have hk : k < xs.length := by rw [HN.out]; exact hlt
      have hk' : k < (upToS (0, 0) xs n k).length := by rw [upToS_len HN.out k1]; exact hlt
      obtain ⟨b, off, rfl, hb, c0, c1⟩ := rowLoad (h.next hB) hk
      go_wp2_with fail
      refine (toLoad_any _ _ _).mono ?_; rintro e w1 ⟨rfl, hw1⟩
      have hblk1 := hblk.next hw1
      obtain ⟨d0, d1⟩ := blkLoad hblk1 hk'
      have f0 := hblk1.frozen (k * 2)
      have f1 := hblk1.frozen (k * 2 + 1)
      go_wp2_with fail
      go_roundw
      case rel => exact ⟨k + 1, by omega, by go_num, by have := hblk1.set k hk' xs[k]; rwa [upToS_next HN.out hk] at this, setAll_bel (encLoad.enc xs[k]) (k * 2) (bel_next hB hw1) (Nat.le_refl _)⟩
      case measure => simp [intOf]; omega
    · obtain rfl : k = n := by omega
      go_wp2_with fail
      go_ret
      refine ⟨_, rfl, Nat.le_refl _, ?_, hB⟩
      rwa [upToS_all HN.out] at hblk
theorem eqLoad_same (x0 : Int) (x1 : Int) (w : World) : Calls Try.prog 64 #[.agg #[.int .i64 x0, .int .i64 x1], .agg #[.int .i64 x0, .int .i64 x1]] w fun e w' => e = .returned (.bool true) ∧ Below w.heap.size w w' := by
  go_enter Try.func64, Try.ntmps64
  go_wp2
  go_ret
  exact ⟨rfl, (bel1 _ _).alloc (by simp) _⟩
set_option maxHeartbeats 4000000 in
theorem eqLoadS_same (A B : Option Addr) (ca cb : Nat) (xs : List VLoad) {n : Nat} {w : World} (hn : xs.length = n) (hA : SRow encLoad w A xs) (hB' : SRow encLoad w B xs) (hl : n ≤ 2000000) :
    Calls Try.prog 30 #[.slice A n ca, .slice B n cb] w fun e w' => e = .returned (.bool true) ∧ Below w.heap.size w w' := by
  have HN := Lib.hid hn
  clear hn
  go_enter Try.func30, Try.ntmps30
  go_wp2_with fail
  go_loopw [5] (fun i wr => ∃ k : Nat, k ≤ n ∧ i = .int .i64 k ∧ Below w.heap.size w wr) (fun i _ => (n - intOf i).toNat)
  case atStart => exact ⟨0, by omega, rfl, Below.refl _ _⟩
  case round =>
    obtain ⟨k, k1, rfl, hB⟩ := hrel
    by_cases hlt : k < n
    · have hk : k < xs.length := by rw [HN.out]; exact hlt
      have hk1 : (k : Int) < (n : Int) := by omega
      obtain ⟨b, off, rfl, _, _⟩ := rowLoad hA hk
      obtain ⟨b', off', rfl, _, _⟩ := rowLoad hB' hk
      have HA : Hid (∀ wv, Below w.heap.size w wv → wv.cell? ⟨b, off + k * 2, none⟩ = some (.int .i64 xs[k].1) ∧ wv.cell? ⟨b, off + k * 2 + 1, none⟩ = some (.int .i64 xs[k].2)) := by
        intro wv h
        obtain ⟨_, _, e, _, hc⟩ := rowLoad (hA.next h) hk
        simp only [Option.some.injEq, Addr.mk.injEq, and_true] at e
        obtain ⟨rfl, rfl⟩ := e
        exact hc
      have HB : Hid (∀ wv, Below w.heap.size w wv → wv.cell? ⟨b', off' + k * 2, none⟩ = some (.int .i64 xs[k].1) ∧ wv.cell? ⟨b', off' + k * 2 + 1, none⟩ = some (.int .i64 xs[k].2)) := by
        intro wv h
        obtain ⟨_, _, e, _, hc⟩ := rowLoad (hB'.next h) hk
        simp only [Option.some.injEq, Addr.mk.injEq, and_true] at e
        obtain ⟨rfl, rfl⟩ := e
        exact hc
      go_wp2_with fail
      refine wp_region_held_drew (S := (fun w' => Below w.heap.size w w')) (by kernel_rfl) (hB.drew) (fun hHeld => ?_)
      have hB_0 := id hHeld
      refine wpAnyH_take (i := 0) (oi := _) (v := ?_) rfl (by kernel_rfl) (by kernel_rfl) (by kernel_rfl) (fun _ _ _ h => h) (Or.inl ⟨by rfl, ?_⟩) (by assumption) ?_
      (rotate_left); (focus (intro wv hSw; (have qB := hSw);  go_simp; (try with_reducible rfl)))
      try simp only [Act.put, List.getElem_toArray, List.getElem_cons_succ, List.getElem_cons_zero, List.setIfInBounds_toArray, List.set_cons_zero, List.set_cons_succ]
      refine wpAnyH_take (i := 1) (oi := _) (v := ?_) rfl (by kernel_rfl) (by kernel_rfl) (by kernel_rfl) (fun _ _ _ h => h) (Or.inl ⟨by rfl, ?_⟩) (by assumption) ?_
      (rotate_left); (focus (intro wv hSw; (have qB := hSw);  go_simp; (try with_reducible rfl)))
      try simp only [Act.put, List.getElem_toArray, List.getElem_cons_succ, List.getElem_cons_zero, List.setIfInBounds_toArray, List.set_cons_zero, List.set_cons_succ]
      refine wpAnyH_take (i := 2) (oi := _) (v := ?_) rfl (by kernel_rfl) (by kernel_rfl) (by kernel_rfl) (fun _ _ _ h => h) (Or.inl ⟨by rfl, ?_⟩) (by assumption) ?_
      (rotate_left); (focus (intro wv hSw; (have qB := hSw);  go_simp; (try with_reducible rfl)))
      try simp only [Act.put, List.getElem_toArray, List.getElem_cons_succ, List.getElem_cons_zero, List.setIfInBounds_toArray, List.set_cons_zero, List.set_cons_succ]
      refine wpAnyH_take (i := 3) (oi := _) (v := ?_) rfl (by kernel_rfl) (by kernel_rfl) (by kernel_rfl) (fun _ _ _ h => h) (Or.inl ⟨by rfl, ?_⟩) (by assumption) ?_
      (rotate_left); (focus (intro wv hSw; (have qB := hSw); obtain ⟨k0, k1⟩ := HA.out wv qB; go_simp; (try with_reducible rfl)))
      try simp only [Act.put, List.getElem_toArray, List.getElem_cons_succ, List.getElem_cons_zero, List.setIfInBounds_toArray, List.set_cons_zero, List.set_cons_succ]
      refine wpAnyH_take (i := 4) (oi := _) (v := ?_) rfl (by kernel_rfl) (by kernel_rfl) (by kernel_rfl) (fun _ _ _ h => h) (Or.inl ⟨by rfl, ?_⟩) (by assumption) ?_
      (rotate_left); (focus (intro wv hSw; (have qB := hSw);  go_simp; (try with_reducible rfl)))
      try simp only [Act.put, List.getElem_toArray, List.getElem_cons_succ, List.getElem_cons_zero, List.setIfInBounds_toArray, List.set_cons_zero, List.set_cons_succ]
      refine wpAnyH_take (i := 5) (oi := _) (v := ?_) rfl (by kernel_rfl) (by kernel_rfl) (by kernel_rfl) (fun _ _ _ h => h) (Or.inl ⟨by rfl, ?_⟩) (by assumption) ?_
      (rotate_left); (focus (intro wv hSw; (have qB := hSw);  go_simp; (try with_reducible rfl)))
      try simp only [Act.put, List.getElem_toArray, List.getElem_cons_succ, List.getElem_cons_zero, List.setIfInBounds_toArray, List.set_cons_zero, List.set_cons_succ]
      refine wpAnyH_take (i := 6) (oi := _) (v := ?_) rfl (by kernel_rfl) (by kernel_rfl) (by kernel_rfl) (fun _ _ _ h => h) (Or.inl ⟨by rfl, ?_⟩) (by assumption) ?_
      (rotate_left); (focus (intro wv hSw; (have qB := hSw);  go_simp; (try with_reducible rfl)))
      try simp only [Act.put, List.getElem_toArray, List.getElem_cons_succ, List.getElem_cons_zero, List.setIfInBounds_toArray, List.set_cons_zero, List.set_cons_succ]
      refine wpAnyH_take (i := 7) (oi := _) (v := ?_) rfl (by kernel_rfl) (by kernel_rfl) (by kernel_rfl) (fun _ _ _ h => h) (Or.inl ⟨by rfl, ?_⟩) (by assumption) ?_
      (rotate_left); (focus (intro wv hSw; (have qB := hSw); obtain ⟨k0, k1⟩ := HB.out wv qB; go_simp; (try with_reducible rfl)))
      try simp only [Act.put, List.getElem_toArray, List.getElem_cons_succ, List.getElem_cons_zero, List.setIfInBounds_toArray, List.set_cons_zero, List.set_cons_succ]
      refine wpAnyH_ready (rs := [8]) (by kernel_rfl) (by simp) ?_
      refine AllReadyH.cons (o := _) rfl (fun K hK => ?_) AllReadyH.nil
      go_simp
      (go_at_call 64; refine (eqLoad_same _ _ _).mono ?_; rintro e x0c ⟨rfl, hw_0c⟩)
      refine hK.out _ _ (bel_next hB_0 hw_0c) (fun hHeld => ?_)
      clear hK K
      try simp only [Act.put, List.getElem_toArray, List.getElem_cons_succ, List.getElem_cons_zero, List.setIfInBounds_toArray, List.set_cons_zero, List.set_cons_succ]
      have hB_0c := id hHeld
      refine wpAnyH_take (i := 9) (oi := _) (v := ?_) rfl (by kernel_rfl) (by kernel_rfl) (by kernel_rfl) (fun _ _ _ h => h) (Or.inl ⟨by rfl, ?_⟩) (by assumption) ?_
      (rotate_left); (focus (intro wv hSw; (have qB := hSw);  go_simp; (try with_reducible rfl)))
      try simp only [Act.put, List.getElem_toArray, List.getElem_cons_succ, List.getElem_cons_zero, List.setIfInBounds_toArray, List.set_cons_zero, List.set_cons_succ]
      refine wpAnyH_done (by kernel_rfl) ?_ _
      go_wp2_with fail
      go_roundw
      case rel => exact ⟨k + 1, by omega, by go_num, hB_0c⟩
      case measure => simp [intOf]; omega
    · obtain rfl : k = n := by omega
      go_wp2_with fail
      go_ret
      exact ⟨rfl, hB⟩
def mkLoad (k0 : Nat) (i : Nat) : VLoad := (((k0 + 2 * i : Nat) : Int), ((k0 + 2 * i + 1 : Nat) : Int))
set_option maxHeartbeats 4000000 in
theorem markLoadS_any (base : Nat) (A : Option Addr) (cap : Nat) (xs : List VLoad) (k0 : Nat) {m : Nat} {w : World} (hm : xs.length = m) (hO : SOwn encLoad w base 72 A cap xs) (hl : m ≤ 2000000) (h0 : 1 ≤ k0) (h1 : k0 ≤ 10000000) :
    Calls Try.prog 31 #[.slice A m cap, .int .i64 k0] w fun e w' => e = .returned (.int .i64 (k0 + 2 * m)) ∧ SOwn encLoad w' base 72 A cap (markS (mkLoad k0) m) ∧ w.grownBy w' (Value.ownBlock (.slice A m cap)) := by
  have HM := Lib.hid hm
  clear hm
  go_enter Try.func31, Try.ntmps31
  go_wp2_with fail
  go_loopw [1, 5] (fun q i wr => ∃ k : Nat, k ≤ m ∧ i = .int .i64 k ∧ q = .int .i64 (k0 + 2 * k) ∧ SOwn encLoad wr base 72 A cap (markToS (mkLoad k0) xs k) ∧ w.grownBy wr (Value.ownBlock (.slice A m cap))) (fun _ i _ => (m - intOf i).toNat)
  case atStart => exact ⟨0, by omega, rfl, by simp, by rw [markToS_zero]; exact hO, ⟨rfl, rfl, rfl, Nat.le_refl _, fun _ _ _ => rfl⟩⟩
  case round =>
    obtain ⟨k, k1, rfl, rfl, hOk, hG⟩ := hrel
    by_cases hlt : k < m
    · have hk : k < xs.length := by rw [HM.out]; exact hlt
      have hk' : k < (markToS (mkLoad k0) xs k).length := by rw [markToS_len _ xs (by omega)]; exact hk
      obtain ⟨g, rfl, hb, hg⟩ := hOk.at_ hk'
      obtain ⟨d0, d1⟩ := ownLoad hOk hk'
      have f0 := hOk.frozen (k * 2)
      have f1 := hOk.frozen (k * 2 + 1)
      have HO := Lib.hid hOk
      clear hOk
      go_wp2_with fail
      go_roundw
      case rel => exact ⟨k + 1, by omega, by go_num, by go_num, by have := HO.out.set k hk' (mkLoad k0 k); rw [markToS_next _ xs hk] at this; exact this, setAll_grown (encLoad.enc (mkLoad k0 k)) (k * 2) hG⟩
      case measure => simp [intOf]; omega
    · obtain rfl : k = m := by omega
      go_wp2_with fail
      go_ret
      exact ⟨rfl, by rw [← HM.out, markToS_all] at hOk; rw [← HM.out]; exact hOk, hG⟩
section
variable {H : Type} {enc : TypeId × Value → H} {w : World} {base : Nat} {spare : Nat → Bool} {held : Bool}
theorem decLoad (fuel : Nat) (cs : List Value) (x : DataW H × List MemPlace) (h : DataW.trod enc Try.prog w base spare held fuel 74 cs = some x) : ∃ v : VLoad, cs = encLoad.enc v ∧ Wf v.1 ∧ Wf v.2 := by
  obtain ⟨zs, hz, rfl, hw⟩ := int_cells Try.underlying74 (by kernel_rfl) (by kernel_rfl) (by kernel_rfl) h
  match zs, hz with
  | [z0, z1], _ => exact ⟨(z0, z1), rfl, hw _ (by simp), hw _ (by simp)⟩
theorem openLoadS {fuel : Nat} {cs : List Value} {x : DataW H × List MemPlace} (h : DataW.trod enc Try.prog w base spare held fuel 42 cs = some x) :
    ∃ (A : Option Addr) (cap : Nat) (xs : List VLoad), cs = [.slice A xs.length cap] ∧ xs.length ≤ maxLen ∧ SRow encLoad w A xs ∧ ∀ v ∈ xs, (fun v => Wf v.1 ∧ Wf v.2) v :=
  open_structs encLoad (0, 0) (fun v => Wf v.1 ∧ Wf v.2) Try.underlying42 (by kernel_rfl) decLoad h
theorem openLoad {r : Reach} {b0 : Nat} {v : Value} {d : DataW H} {p : List MemPlace} (hv : Value.okWide Try.prog w r b0 74 v) (h : DataW.Trod enc Try.prog w base spare held 74 v d p) : ∃ x : VLoad, v = .agg (encLoad.enc x).toArray ∧ (fun v => Wf v.1 ∧ Wf v.2) x :=
  open_struct encLoad (fun v => Wf v.1 ∧ Wf v.2) Try.underlying74 decLoad hv h
end
/-- What is left behind a slice's size. -/
def LeftLoad (L : Int) (n : Nat) (r : Int) : Prop := r = -1 ∨ (0 ≤ r ∧ r ≤ L ∧ (n : Int) ≤ L)
theorem szLoadS_any (A : Option Addr) (n cap : Nat) (L : Int) (w : World) (h0 : 0 ≤ L) (h1 : L ≤ 1048576) (hl : n ≤ maxLen) : Calls Try.prog 26 #[.slice A n cap, .int .i64 L] w fun e w' => ∃ r, e = .returned (.int .i64 r) ∧ LeftLoad L n r ∧ w = w' := by
  unfold maxLen at hl
  by_cases h : (n : Int) ≤ L
  · have hs : ¬ L - (n : Int) < 0 := by omega
    go_enter Try.func26, Try.ntmps26
    go_wp2
    go_ret
    exact ⟨L - n, rfl, .inr ⟨by omega, by omega, h⟩, rfl⟩
  · have hs : L - (n : Int) < 0 := by omega
    go_enter Try.func26, Try.ntmps26
    go_wp2
    go_ret
    exact ⟨-1, rfl, .inl rfl, rfl⟩
end Go.Proofs.Ytibpaojhjgpdaaa
