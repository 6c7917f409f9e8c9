/- Slices of Entry: copies, comparisons, sizes, marks. -/
import Derived.Test.YtecliamihggpoabRows
import Derived.Test.YtecliamihggpoabGo
import Derived.Test.YtecliamihggpoabByt
namespace Go.Proofs.Ytecliamihggpoab
open Go Go.ChangeShapes Go.WideShapes Go.ChangeAt Go.RowKit Go.Deep
set_option linter.unusedSimpArgs false
set_option linter.unusedVariables false
set_option linter.unnecessarySimpa false

abbrev VEntry := Int × ByteArray
def encEntry : Enc VEntry := ⟨2, fun x => [.int .i64 x.1, .string x.2], fun _ => rfl, by intro x u hu; simp at hu; rcases hu with rfl | rfl <;> rfl, by omega⟩
theorem rowEntry {w : World} {A : Option Addr} {xs : List VEntry} (h : SRow encEntry w A xs) {i : Nat} (hi : i < xs.length) : ∃ b off : Nat, A = some ⟨b, off, none⟩ ∧ b < w.heap.size ∧ w.cell? ⟨b, off + i * 2, none⟩ = some (.int .i64 xs[i].1) ∧ w.cell? ⟨b, off + i * 2 + 1, none⟩ = some (.string xs[i].2) := by
  obtain ⟨b, off, e, hb, hc⟩ := h.at_ hi
  exact ⟨b, off, e, hb, by have := hc 0 _ rfl; simpa [encEntry, Nat.add_assoc] using this, by have := hc 1 _ rfl; simpa [encEntry, Nat.add_assoc] using this⟩
theorem blkEntry {w : World} {g : Nat} {T : TypeId} {xs : List VEntry} (h : SBlk encEntry w g T xs) {i : Nat} (hi : i < xs.length) : w.cell? ⟨g, i * 2, none⟩ = some (.int .i64 xs[i].1) ∧ w.cell? ⟨g, i * 2 + 1, none⟩ = some (.string xs[i].2) :=
  ⟨by have := h.cell i hi 0 _ rfl; simpa [encEntry] using this, by have := h.cell i hi 1 _ rfl; simpa [encEntry] using this⟩
theorem ownEntry {w : World} {base g cap : Nat} {T : TypeId} {xs : List VEntry} (h : SOwn encEntry w base T (some ⟨g, 0, none⟩) cap xs) {i : Nat} (hi : i < xs.length) : w.cell? ⟨g, i * 2, none⟩ = some (.int .i64 xs[i].1) ∧ w.cell? ⟨g, i * 2 + 1, none⟩ = some (.string xs[i].2) :=
  ⟨by have := h.cell i hi 0 _ rfl; simpa [encEntry] using this, by have := h.cell i hi 1 _ rfl; simpa [encEntry] using this⟩
theorem toEntry_any (x0 : Int) (x1 : ByteArray) (w : World) : Calls Try.prog 35 #[.agg #[.int .i64 x0, .string x1]] w fun e w' => e = .returned (.agg #[.int .i64 x0, .string x1]) ∧ Below w.heap.size w w' := by
  go_enter Try.func35, Try.ntmps35
  go_wp2
  exact bodyPost_ret (v := .agg #[.int .i64 x0, .string x1]) (by simp [results, Try.results35, go_sem]) rfl ⟨rfl, by
    repeat (first | exact Below.refl _ _ | refine Below.setCell ?_ (by simp <;> omega) _ | refine Below.alloc ?_ (by simp <;> omega) _)⟩
theorem infoEntry : (Try.prog.info? 49).map (fun i => (i.zero, i.size, i.bytes)) = some (some (.agg #[.int .i64 0, .string ByteArray.empty]), 2, 24) := by kernel_rfl
def CopyEntry (xs : List VEntry) (w : World) (e : Ending) (w' : World) : Prop := ∃ g : Nat, e = .returned (.slice (some ⟨g, 0, none⟩) xs.length xs.length) ∧ w.heap.size ≤ g ∧ SBlk encEntry w' g 49 xs ∧ Below w.heap.size w w'
set_option maxHeartbeats 4000000 in
theorem toEntryS_any (A : Option Addr) (cap : Nat) (xs : List VEntry) (w : World) (h : SRow encEntry w A xs) (hl : xs.length ≤ 2000000) :
    Calls Try.prog 21 #[.slice A xs.length cap] w (CopyEntry xs w) := by
  unfold CopyEntry
  generalize hn : xs.length = n at hl ⊢
  have HN := Lib.hid hn
  clear hn
  obtain ⟨i0, hi0, hz0, hz1, hz2⟩ := info_parts infoEntry
  have hbn : i0.bytes * n ≤ 281474976710656 := by rw [hz2]; omega
  have HI := Lib.hid (And.intro hi0 (And.intro hz0 (And.intro hz1 hbn)))
  clear hi0 hz0 hz1 hz2 hbn
  go_enter Try.func21, Try.ntmps21
  go_wp2_with (at_make; refine wpList_make_structs _ encEntry (0, ByteArray.empty) rfl _ _ 37 rfl 49 i0 _ Try.underlying37 HI.out.1 HI.out.2.1 HI.out.2.2.1 rfl .i64 .i64 n rfl rfl HI.out.2.2.2 (by omega) ?_)
  go_loopw [4] (fun i wr => ∃ k : Nat, k ≤ n ∧ i = .int .i64 k ∧ SBlk encEntry wr w.heap.size 49 (upToS (0, ByteArray.empty) xs n k) ∧ Below w.heap.size w wr) (fun i _ => (n - intOf i).toNat)
  case atStart => exact ⟨0, by omega, rfl, by have := blk_new w (.cells (encEntry.flat (List.replicate n (0, ByteArray.empty))).toArray 49); exact this, bel1 _ _⟩
  case round =>
    obtain ⟨k, k1, rfl, hblk, hB⟩ := hrel
    by_cases hlt : k < n
    · have hk : k < xs.length := by rw [HN.out]; exact hlt
      have hk' : k < (upToS (0, ByteArray.empty) xs n k).length := by rw [upToS_len HN.out k1]; exact hlt
      obtain ⟨b, off, rfl, hb, c0, c1⟩ := rowEntry (h.next hB) hk
      go_wp2_with fail
      refine (toEntry_any _ _ _).mono ?_; rintro e w1 ⟨rfl, hw1⟩
      have hblk1 := hblk.next hw1
      obtain ⟨d0, d1⟩ := blkEntry hblk1 hk'
      have f0 := hblk1.frozen (k * 2)
      have f1 := hblk1.frozen (k * 2 + 1)
      go_wp2_with fail
      go_roundw
      case rel => exact ⟨k + 1, by omega, by go_num, by have := hblk1.set k hk' xs[k]; rwa [upToS_next HN.out hk] at this, setAll_bel (encEntry.enc xs[k]) (k * 2) (bel_next hB hw1) (Nat.le_refl _)⟩
      case measure => simp [intOf]; omega
    · obtain rfl : k = n := by omega
      go_wp2_with fail
      go_ret
      refine ⟨_, rfl, Nat.le_refl _, ?_, hB⟩
      rwa [upToS_all HN.out] at hblk
theorem eqEntry_same (x0 : Int) (x1 : ByteArray) (w : World) : Calls Try.prog 38 #[.agg #[.int .i64 x0, .string x1], .agg #[.int .i64 x0, .string x1]] w fun e w' => e = .returned (.bool true) ∧ Below w.heap.size w w' := by
  go_enter Try.func38, Try.ntmps38
  go_wp2
  go_ret
  exact ⟨rfl, (bel1 _ _).alloc (by simp) _⟩
set_option maxHeartbeats 4000000 in
theorem eqEntryS_same (A B : Option Addr) (ca cb : Nat) (xs : List VEntry) {n : Nat} {w : World} (hn : xs.length = n) (hA : SRow encEntry w A xs) (hB' : SRow encEntry w B xs) (hl : n ≤ 2000000) :
    Calls Try.prog 23 #[.slice A n ca, .slice B n cb] w fun e w' => e = .returned (.bool true) ∧ Below w.heap.size w w' := by
  have HN := Lib.hid hn
  clear hn
  go_enter Try.func23, Try.ntmps23
  go_wp2_with fail
  go_loopw [5] (fun i wr => ∃ k : Nat, k ≤ n ∧ i = .int .i64 k ∧ Below w.heap.size w wr) (fun i _ => (n - intOf i).toNat)
  case atStart => exact ⟨0, by omega, rfl, Below.refl _ _⟩
  case round =>
    obtain ⟨k, k1, rfl, hB⟩ := hrel
    by_cases hlt : k < n
    · have hk : k < xs.length := by rw [HN.out]; exact hlt
      have hk1 : (k : Int) < (n : Int) := by omega
      obtain ⟨b, off, rfl, _, _⟩ := rowEntry hA hk
      obtain ⟨b', off', rfl, _, _⟩ := rowEntry hB' hk
      have HA : Hid (∀ wv, Below w.heap.size w wv → wv.cell? ⟨b, off + k * 2, none⟩ = some (.int .i64 xs[k].1) ∧ wv.cell? ⟨b, off + k * 2 + 1, none⟩ = some (.string xs[k].2)) := by
        intro wv h
        obtain ⟨_, _, e, _, hc⟩ := rowEntry (hA.next h) hk
        simp only [Option.some.injEq, Addr.mk.injEq, and_true] at e
        obtain ⟨rfl, rfl⟩ := e
        exact hc
      have HB : Hid (∀ wv, Below w.heap.size w wv → wv.cell? ⟨b', off' + k * 2, none⟩ = some (.int .i64 xs[k].1) ∧ wv.cell? ⟨b', off' + k * 2 + 1, none⟩ = some (.string xs[k].2)) := by
        intro wv h
        obtain ⟨_, _, e, _, hc⟩ := rowEntry (hB'.next h) hk
        simp only [Option.some.injEq, Addr.mk.injEq, and_true] at e
        obtain ⟨rfl, rfl⟩ := e
        exact hc
      go_wp2_with fail
      refine wp_region_held_drew (S := (fun w' => Below w.heap.size w w')) (by kernel_rfl) (hB.drew) (fun hHeld => ?_)
      have hB_0 := id hHeld
      refine wpAnyH_take (i := 0) (oi := _) (v := ?_) rfl (by kernel_rfl) (by kernel_rfl) (by kernel_rfl) (fun _ _ _ h => h) (Or.inl ⟨by rfl, ?_⟩) (by assumption) ?_
      (rotate_left); (focus (intro wv hSw; (have qB := hSw);  go_simp; (try with_reducible rfl)))
      try simp only [Act.put, List.getElem_toArray, List.getElem_cons_succ, List.getElem_cons_zero, List.setIfInBounds_toArray, List.set_cons_zero, List.set_cons_succ]
      refine wpAnyH_take (i := 1) (oi := _) (v := ?_) rfl (by kernel_rfl) (by kernel_rfl) (by kernel_rfl) (fun _ _ _ h => h) (Or.inl ⟨by rfl, ?_⟩) (by assumption) ?_
      (rotate_left); (focus (intro wv hSw; (have qB := hSw);  go_simp; (try with_reducible rfl)))
      try simp only [Act.put, List.getElem_toArray, List.getElem_cons_succ, List.getElem_cons_zero, List.setIfInBounds_toArray, List.set_cons_zero, List.set_cons_succ]
      refine wpAnyH_take (i := 2) (oi := _) (v := ?_) rfl (by kernel_rfl) (by kernel_rfl) (by kernel_rfl) (fun _ _ _ h => h) (Or.inl ⟨by rfl, ?_⟩) (by assumption) ?_
      (rotate_left); (focus (intro wv hSw; (have qB := hSw);  go_simp; (try with_reducible rfl)))
      try simp only [Act.put, List.getElem_toArray, List.getElem_cons_succ, List.getElem_cons_zero, List.setIfInBounds_toArray, List.set_cons_zero, List.set_cons_succ]
      refine wpAnyH_take (i := 3) (oi := _) (v := ?_) rfl (by kernel_rfl) (by kernel_rfl) (by kernel_rfl) (fun _ _ _ h => h) (Or.inl ⟨by rfl, ?_⟩) (by assumption) ?_
      (rotate_left); (focus (intro wv hSw; (have qB := hSw); obtain ⟨k0, k1⟩ := HA.out wv qB; go_simp; (try with_reducible rfl)))
      try simp only [Act.put, List.getElem_toArray, List.getElem_cons_succ, List.getElem_cons_zero, List.setIfInBounds_toArray, List.set_cons_zero, List.set_cons_succ]
      refine wpAnyH_take (i := 4) (oi := _) (v := ?_) rfl (by kernel_rfl) (by kernel_rfl) (by kernel_rfl) (fun _ _ _ h => h) (Or.inl ⟨by rfl, ?_⟩) (by assumption) ?_
      (rotate_left); (focus (intro wv hSw; (have qB := hSw);  go_simp; (try with_reducible rfl)))
      try simp only [Act.put, List.getElem_toArray, List.getElem_cons_succ, List.getElem_cons_zero, List.setIfInBounds_toArray, List.set_cons_zero, List.set_cons_succ]
      refine wpAnyH_take (i := 5) (oi := _) (v := ?_) rfl (by kernel_rfl) (by kernel_rfl) (by kernel_rfl) (fun _ _ _ h => h) (Or.inl ⟨by rfl, ?_⟩) (by assumption) ?_
      (rotate_left); (focus (intro wv hSw; (have qB := hSw);  go_simp; (try with_reducible rfl)))
      try simp only [Act.put, List.getElem_toArray, List.getElem_cons_succ, List.getElem_cons_zero, List.setIfInBounds_toArray, List.set_cons_zero, List.set_cons_succ]
      refine wpAnyH_take (i := 6) (oi := _) (v := ?_) rfl (by kernel_rfl) (by kernel_rfl) (by kernel_rfl) (fun _ _ _ h => h) (Or.inl ⟨by rfl, ?_⟩) (by assumption) ?_
      (rotate_left); (focus (intro wv hSw; (have qB := hSw);  go_simp; (try with_reducible rfl)))
      try simp only [Act.put, List.getElem_toArray, List.getElem_cons_succ, List.getElem_cons_zero, List.setIfInBounds_toArray, List.set_cons_zero, List.set_cons_succ]
      refine wpAnyH_take (i := 7) (oi := _) (v := ?_) rfl (by kernel_rfl) (by kernel_rfl) (by kernel_rfl) (fun _ _ _ h => h) (Or.inl ⟨by rfl, ?_⟩) (by assumption) ?_
      (rotate_left); (focus (intro wv hSw; (have qB := hSw); obtain ⟨k0, k1⟩ := HB.out wv qB; go_simp; (try with_reducible rfl)))
      try simp only [Act.put, List.getElem_toArray, List.getElem_cons_succ, List.getElem_cons_zero, List.setIfInBounds_toArray, List.set_cons_zero, List.set_cons_succ]
      refine wpAnyH_ready (rs := [8]) (by kernel_rfl) (by simp) ?_
      refine AllReadyH.cons (o := _) rfl (fun K hK => ?_) AllReadyH.nil
      go_simp
      (go_at_call 38; refine (eqEntry_same _ _ _).mono ?_; rintro e x0c ⟨rfl, hw_0c⟩)
      refine hK.out _ _ (bel_next hB_0 hw_0c) (fun hHeld => ?_)
      clear hK K
      try simp only [Act.put, List.getElem_toArray, List.getElem_cons_succ, List.getElem_cons_zero, List.setIfInBounds_toArray, List.set_cons_zero, List.set_cons_succ]
      have hB_0c := id hHeld
      refine wpAnyH_take (i := 9) (oi := _) (v := ?_) rfl (by kernel_rfl) (by kernel_rfl) (by kernel_rfl) (fun _ _ _ h => h) (Or.inl ⟨by rfl, ?_⟩) (by assumption) ?_
      (rotate_left); (focus (intro wv hSw; (have qB := hSw);  go_simp; (try with_reducible rfl)))
      try simp only [Act.put, List.getElem_toArray, List.getElem_cons_succ, List.getElem_cons_zero, List.setIfInBounds_toArray, List.set_cons_zero, List.set_cons_succ]
      refine wpAnyH_done (by kernel_rfl) ?_ _
      go_wp2_with fail
      go_roundw
      case rel => exact ⟨k + 1, by omega, by go_num, hB_0c⟩
      case measure => simp [intOf]; omega
    · obtain rfl : k = n := by omega
      go_wp2_with fail
      go_ret
      exact ⟨rfl, hB⟩
def mkEntry (k0 : Nat) (i : Nat) : VEntry := (((k0 + 2 * i : Nat) : Int), mtext (k0 + 2 * i + 1))
section
variable {H : Type} {enc : TypeId × Value → H} {w : World} {base : Nat} {spare : Nat → Bool} {held : Bool}
theorem decEntry (fuel : Nat) (cs : List Value) (x : DataW H × List MemPlace) (h : DataW.trod enc Try.prog w base spare held fuel 48 cs = some x) : ∃ v : VEntry, cs = encEntry.enc v ∧ Wf v.1 ∧ v.2.size ≤ maxLen := by
  obtain ⟨y0, y1, n, _, hlen, h0, h1⟩ := trod_struct2 Try.underlying48 h
  have hc : cs.length = 2 := hlen.trans (by kernel_rfl)
  match cs, hc with
  | [c0, c1], _ =>
    have e0 : (([c0, c1] : List Value).drop 0).take 1 = [c0] := rfl
    have e1 : (([c0, c1] : List Value).drop 1).take 1 = [c1] := rfl
    have k0 : Try.prog.cellsOf 3 = 1 := by kernel_rfl
    have k1 : Try.prog.cellsOf 9 = 1 := by kernel_rfl
    simp only [k0, k1, e0, e1] at h0 h1
    obtain ⟨a, ha, _, hw⟩ := DataW.trod_int Try.underlying3 h0
    obtain ⟨s, hs, _, hsz⟩ := DataW.trod_string Try.underlying9 h1
    simp at ha hs
    exact ⟨(a, s), by rw [ha, hs]; rfl, hw, hsz⟩
theorem openEntryS {fuel : Nat} {cs : List Value} {x : DataW H × List MemPlace} (h : DataW.trod enc Try.prog w base spare held fuel 34 cs = some x) :
    ∃ (A : Option Addr) (cap : Nat) (xs : List VEntry), cs = [.slice A xs.length cap] ∧ xs.length ≤ maxLen ∧ SRow encEntry w A xs ∧ ∀ v ∈ xs, (fun v => Wf v.1 ∧ v.2.size ≤ maxLen) v :=
  open_structs encEntry (0, ByteArray.empty) (fun v => Wf v.1 ∧ v.2.size ≤ maxLen) Try.underlying34 (by kernel_rfl) decEntry h
theorem openEntry {r : Reach} {b0 : Nat} {v : Value} {d : DataW H} {p : List MemPlace} (hv : Value.okWide Try.prog w r b0 48 v) (h : DataW.Trod enc Try.prog w base spare held 48 v d p) : ∃ x : VEntry, v = .agg (encEntry.enc x).toArray ∧ (fun v => Wf v.1 ∧ v.2.size ≤ maxLen) x :=
  open_struct encEntry (fun v => Wf v.1 ∧ v.2.size ≤ maxLen) Try.underlying48 decEntry hv h
end
/-- What is left behind a slice's size. -/
def LeftEntry (L : Int) (n : Nat) (r : Int) : Prop := r = -1 ∨ (0 ≤ r ∧ r ≤ L ∧ (n : Int) ≤ L)
theorem szEntry_any (x0 : Int) (x1 : ByteArray) (L : Int) (w : World) (h0 : 0 ≤ L) (h1 : L ≤ 1048576) (hs : x1.size ≤ maxLen) : Calls Try.prog 33 #[.agg #[.int .i64 x0, .string x1], .int .i64 L] w fun e w' => ∃ r, e = .returned (.int .i64 r) ∧ LeftEntry L x1.size r ∧ Below w.heap.size w w' := by
  unfold maxLen at hs
  by_cases h : (x1.size : Int) ≤ L
  · have hs : ¬ L - (x1.size : Int) < 0 := by omega
    go_enter Try.func33, Try.ntmps33
    go_wp2
    go_ret
    exact ⟨L - x1.size, rfl, .inr ⟨by omega, by omega, h⟩, bel1 _ _⟩
  · have hs : L - (x1.size : Int) < 0 := by omega
    go_enter Try.func33, Try.ntmps33
    go_wp2
    go_ret
    exact ⟨-1, rfl, .inl rfl, bel1 _ _⟩
set_option maxHeartbeats 4000000 in
theorem szEntryS_any (A : Option Addr) (cap : Nat) (xs : List VEntry) {n : Nat} (L : Int) (w : World) (hn : xs.length = n) (hA : SRow encEntry w A xs) (hQ : ∀ v ∈ xs, (fun v => Wf v.1 ∧ v.2.size ≤ maxLen) v) (h0 : 0 ≤ L) (h1 : L ≤ 1048576) (hl : n ≤ maxLen) :
    Calls Try.prog 19 #[.slice A n cap, .int .i64 L] w fun e w' => ∃ r, e = .returned (.int .i64 r) ∧ LeftEntry L n r ∧ Below w.heap.size w w' := by
  unfold maxLen at hl
  have HN := Lib.hid hn
  have HQ := Lib.hid hQ
  clear hn hQ
  by_cases h : (n : Int) ≤ L
  · have hs : ¬ L - (n : Int) < 0 := by omega
    go_enter Try.func19, Try.ntmps19
    go_wp2_with fail
    go_loopw [1, 5] (fun q i wr => ∃ (k : Nat) (r : Int), k ≤ n ∧ i = .int .i64 k ∧ q = .int .i64 r ∧ 0 ≤ r ∧ r ≤ L ∧ Below w.heap.size w wr) (fun _ i _ => (n - intOf i).toNat)
    case atStart => exact ⟨0, L - n, by omega, rfl, rfl, by omega, by omega, Below.refl _ _⟩
    case round =>
      obtain ⟨k, r, k1, rfl, rfl, r0, r1, hB⟩ := hrel
      by_cases hlt : k < n
      · have hk : k < xs.length := by rw [HN.out]; exact hlt
        obtain ⟨b, off, rfl, hb, c0, c1⟩ := rowEntry (hA.next hB) hk
        have hz := HQ.out xs[k] (List.getElem_mem hk)
        go_wp2_with fail
        refine (szEntry_any _ _ r _ r0 (by omega) hz.2).mono ?_; rintro e w2 ⟨r2, rfl, hL, hw2⟩
        have hB2 := bel_next hB hw2
        rcases hL with rfl | ⟨q0, q1, q2⟩
        · go_wp2
          go_ret
          exact ⟨-1, rfl, .inl rfl, hB2⟩
        · have hr2 : ¬ r2 < 0 := by omega
          go_wp2_with fail
          go_roundw
          case rel => exact ⟨k + 1, r2, by omega, by go_num, rfl, q0, by omega, hB2⟩
          case measure => simp [intOf]; omega
      · obtain rfl : k = n := by omega
        go_wp2_with fail
        go_ret
        exact ⟨r, rfl, .inr ⟨r0, r1, h⟩, hB⟩
  · have hs : L - (n : Int) < 0 := by omega
    go_enter Try.func19, Try.ntmps19
    go_wp2
    go_ret
    exact ⟨-1, rfl, .inl rfl, Below.refl _ _⟩
end Go.Proofs.Ytecliamihggpoab
