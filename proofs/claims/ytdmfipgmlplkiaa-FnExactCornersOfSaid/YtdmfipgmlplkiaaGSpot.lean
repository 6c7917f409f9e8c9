/- Slices of Spot: copies, comparisons, sizes, marks. -/
import Derived.Test.YtdmfipgmlplkiaaRows
import Derived.Test.YtdmfipgmlplkiaaGo
namespace Go.Proofs.Ytdmfipgmlplkiaa
open Go Go.ChangeShapes Go.WideShapes Go.ChangeAt Go.RowKit Go.Deep
set_option linter.unusedSimpArgs false
set_option linter.unusedVariables false
set_option linter.unnecessarySimpa false

abbrev VSpot := Int × Int × Int
def encSpot : Enc VSpot := ⟨3, fun x => [.int .i64 x.1, .int .i64 x.2.1, .int .i64 x.2.2], fun _ => rfl, by intro x u hu; simp at hu; rcases hu with rfl | rfl | rfl <;> rfl, by omega⟩
theorem rowSpot {w : World} {A : Option Addr} {xs : List VSpot} (h : SRow encSpot w A xs) {i : Nat} (hi : i < xs.length) : ∃ b off : Nat, A = some ⟨b, off, none⟩ ∧ b < w.heap.size ∧ w.cell? ⟨b, off + i * 3, none⟩ = some (.int .i64 xs[i].1) ∧ w.cell? ⟨b, off + i * 3 + 1, none⟩ = some (.int .i64 xs[i].2.1) ∧ w.cell? ⟨b, off + i * 3 + 2, none⟩ = some (.int .i64 xs[i].2.2) := by
  obtain ⟨b, off, e, hb, hc⟩ := h.at_ hi
  exact ⟨b, off, e, hb, by have := hc 0 _ rfl; simpa [encSpot, Nat.add_assoc] using this, by have := hc 1 _ rfl; simpa [encSpot, Nat.add_assoc] using this, by have := hc 2 _ rfl; simpa [encSpot, Nat.add_assoc] using this⟩
theorem blkSpot {w : World} {g : Nat} {T : TypeId} {xs : List VSpot} (h : SBlk encSpot w g T xs) {i : Nat} (hi : i < xs.length) : w.cell? ⟨g, i * 3, none⟩ = some (.int .i64 xs[i].1) ∧ w.cell? ⟨g, i * 3 + 1, none⟩ = some (.int .i64 xs[i].2.1) ∧ w.cell? ⟨g, i * 3 + 2, none⟩ = some (.int .i64 xs[i].2.2) :=
  ⟨by have := h.cell i hi 0 _ rfl; simpa [encSpot] using this, by have := h.cell i hi 1 _ rfl; simpa [encSpot] using this, by have := h.cell i hi 2 _ rfl; simpa [encSpot] using this⟩
theorem ownSpot {w : World} {base g cap : Nat} {T : TypeId} {xs : List VSpot} (h : SOwn encSpot w base T (some ⟨g, 0, none⟩) cap xs) {i : Nat} (hi : i < xs.length) : w.cell? ⟨g, i * 3, none⟩ = some (.int .i64 xs[i].1) ∧ w.cell? ⟨g, i * 3 + 1, none⟩ = some (.int .i64 xs[i].2.1) ∧ w.cell? ⟨g, i * 3 + 2, none⟩ = some (.int .i64 xs[i].2.2) :=
  ⟨by have := h.cell i hi 0 _ rfl; simpa [encSpot] using this, by have := h.cell i hi 1 _ rfl; simpa [encSpot] using this, by have := h.cell i hi 2 _ rfl; simpa [encSpot] using this⟩
theorem infoSpot : (Try.prog.info? 79).map (fun i => (i.zero, i.size, i.bytes)) = some (some (.agg #[.int .i64 0, .int .i64 0, .int .i64 0]), 3, 24) := by kernel_rfl
def CopySpot (xs : List VSpot) (w : World) (e : Ending) (w' : World) : Prop := ∃ g : Nat, e = .returned (.slice (some ⟨g, 0, none⟩) xs.length xs.length) ∧ w.heap.size ≤ g ∧ SBlk encSpot w' g 79 xs ∧ Below w.heap.size w w'
theorem eqSpot_same (x0 : Int) (x1 : Int) (x2 : Int) (w : World) : Calls Try.prog 58 #[.agg #[.int .i64 x0, .int .i64 x1, .int .i64 x2], .agg #[.int .i64 x0, .int .i64 x1, .int .i64 x2]] w fun e w' => e = .returned (.bool true) ∧ Below w.heap.size w w' := by
  go_enter Try.func58, Try.ntmps58
  go_wp2
  go_ret
  exact ⟨rfl, (bel1 _ _).alloc (by simp) _⟩
set_option maxHeartbeats 4000000 in
theorem eqSpotS_same (A B : Option Addr) (ca cb : Nat) (xs : List VSpot) {n : Nat} {w : World} (hn : xs.length = n) (hA : SRow encSpot w A xs) (hB' : SRow encSpot w B xs) (hl : n ≤ 2000000) :
    Calls Try.prog 30 #[.slice A n ca, .slice B n cb] w fun e w' => e = .returned (.bool true) ∧ Below w.heap.size w w' := by
  have HN := Lib.hid hn
  clear hn
  go_enter Try.func30, Try.ntmps30
  go_wp2_with fail
  go_loopw [5] (fun i wr => ∃ k : Nat, k ≤ n ∧ i = .int .i64 k ∧ Below w.heap.size w wr) (fun i _ => (n - intOf i).toNat)
  case atStart => exact ⟨0, by omega, rfl, Below.refl _ _⟩
  case round =>
    obtain ⟨k, k1, rfl, hB⟩ := hrel
    by_cases hlt : k < n
    · have hk : k < xs.length := by rw [HN.out]; exact hlt
      have hk1 : (k : Int) < (n : Int) := by omega
      obtain ⟨b, off, rfl, _, _⟩ := rowSpot hA hk
      obtain ⟨b', off', rfl, _, _⟩ := rowSpot hB' hk
      have HA : Hid (∀ wv, Below w.heap.size w wv → wv.cell? ⟨b, off + k * 3, none⟩ = some (.int .i64 xs[k].1) ∧ wv.cell? ⟨b, off + k * 3 + 1, none⟩ = some (.int .i64 xs[k].2.1) ∧ wv.cell? ⟨b, off + k * 3 + 2, none⟩ = some (.int .i64 xs[k].2.2)) := by
        intro wv h
        obtain ⟨_, _, e, _, hc⟩ := rowSpot (hA.next h) hk
        simp only [Option.some.injEq, Addr.mk.injEq, and_true] at e
        obtain ⟨rfl, rfl⟩ := e
        exact hc
      have HB : Hid (∀ wv, Below w.heap.size w wv → wv.cell? ⟨b', off' + k * 3, none⟩ = some (.int .i64 xs[k].1) ∧ wv.cell? ⟨b', off' + k * 3 + 1, none⟩ = some (.int .i64 xs[k].2.1) ∧ wv.cell? ⟨b', off' + k * 3 + 2, none⟩ = some (.int .i64 xs[k].2.2)) := by
        intro wv h
        obtain ⟨_, _, e, _, hc⟩ := rowSpot (hB'.next h) hk
        simp only [Option.some.injEq, Addr.mk.injEq, and_true] at e
        obtain ⟨rfl, rfl⟩ := e
        exact hc
      go_wp2_with fail
      refine wp_region_held_drew (S := (fun w' => Below w.heap.size w w')) (by kernel_rfl) (hB.drew) (fun hHeld => ?_)
      have hB_0 := id hHeld
      refine wpAnyH_take (i := 0) (oi := _) (v := ?_) rfl (by kernel_rfl) (by kernel_rfl) (by kernel_rfl) (fun _ _ _ h => h) (Or.inl ⟨by rfl, ?_⟩) (by assumption) ?_
      (rotate_left); (focus (intro wv hSw; (have qB := hSw);  go_simp; (try with_reducible rfl)))
      try simp only [Act.put, List.getElem_toArray, List.getElem_cons_succ, List.getElem_cons_zero, List.setIfInBounds_toArray, List.set_cons_zero, List.set_cons_succ]
      refine wpAnyH_take (i := 1) (oi := _) (v := ?_) rfl (by kernel_rfl) (by kernel_rfl) (by kernel_rfl) (fun _ _ _ h => h) (Or.inl ⟨by rfl, ?_⟩) (by assumption) ?_
      (rotate_left); (focus (intro wv hSw; (have qB := hSw);  go_simp; (try with_reducible rfl)))
      try simp only [Act.put, List.getElem_toArray, List.getElem_cons_succ, List.getElem_cons_zero, List.setIfInBounds_toArray, List.set_cons_zero, List.set_cons_succ]
      refine wpAnyH_take (i := 2) (oi := _) (v := ?_) rfl (by kernel_rfl) (by kernel_rfl) (by kernel_rfl) (fun _ _ _ h => h) (Or.inl ⟨by rfl, ?_⟩) (by assumption) ?_
      (rotate_left); (focus (intro wv hSw; (have qB := hSw);  go_simp; (try with_reducible rfl)))
      try simp only [Act.put, List.getElem_toArray, List.getElem_cons_succ, List.getElem_cons_zero, List.setIfInBounds_toArray, List.set_cons_zero, List.set_cons_succ]
      refine wpAnyH_take (i := 3) (oi := _) (v := ?_) rfl (by kernel_rfl) (by kernel_rfl) (by kernel_rfl) (fun _ _ _ h => h) (Or.inl ⟨by rfl, ?_⟩) (by assumption) ?_
      (rotate_left); (focus (intro wv hSw; (have qB := hSw); obtain ⟨k0, k1, k2⟩ := HA.out wv qB; go_simp; (try with_reducible rfl)))
      try simp only [Act.put, List.getElem_toArray, List.getElem_cons_succ, List.getElem_cons_zero, List.setIfInBounds_toArray, List.set_cons_zero, List.set_cons_succ]
      refine wpAnyH_take (i := 4) (oi := _) (v := ?_) rfl (by kernel_rfl) (by kernel_rfl) (by kernel_rfl) (fun _ _ _ h => h) (Or.inl ⟨by rfl, ?_⟩) (by assumption) ?_
      (rotate_left); (focus (intro wv hSw; (have qB := hSw);  go_simp; (try with_reducible rfl)))
      try simp only [Act.put, List.getElem_toArray, List.getElem_cons_succ, List.getElem_cons_zero, List.setIfInBounds_toArray, List.set_cons_zero, List.set_cons_succ]
      refine wpAnyH_take (i := 5) (oi := _) (v := ?_) rfl (by kernel_rfl) (by kernel_rfl) (by kernel_rfl) (fun _ _ _ h => h) (Or.inl ⟨by rfl, ?_⟩) (by assumption) ?_
      (rotate_left); (focus (intro wv hSw; (have qB := hSw);  go_simp; (try with_reducible rfl)))
      try simp only [Act.put, List.getElem_toArray, List.getElem_cons_succ, List.getElem_cons_zero, List.setIfInBounds_toArray, List.set_cons_zero, List.set_cons_succ]
      refine wpAnyH_take (i := 6) (oi := _) (v := ?_) rfl (by kernel_rfl) (by kernel_rfl) (by kernel_rfl) (fun _ _ _ h => h) (Or.inl ⟨by rfl, ?_⟩) (by assumption) ?_
      (rotate_left); (focus (intro wv hSw; (have qB := hSw);  go_simp; (try with_reducible rfl)))
      try simp only [Act.put, List.getElem_toArray, List.getElem_cons_succ, List.getElem_cons_zero, List.setIfInBounds_toArray, List.set_cons_zero, List.set_cons_succ]
      refine wpAnyH_take (i := 7) (oi := _) (v := ?_) rfl (by kernel_rfl) (by kernel_rfl) (by kernel_rfl) (fun _ _ _ h => h) (Or.inl ⟨by rfl, ?_⟩) (by assumption) ?_
      (rotate_left); (focus (intro wv hSw; (have qB := hSw); obtain ⟨k0, k1, k2⟩ := HB.out wv qB; go_simp; (try with_reducible rfl)))
      try simp only [Act.put, List.getElem_toArray, List.getElem_cons_succ, List.getElem_cons_zero, List.setIfInBounds_toArray, List.set_cons_zero, List.set_cons_succ]
      refine wpAnyH_ready (rs := [8]) (by kernel_rfl) (by simp) ?_
      refine AllReadyH.cons (o := _) rfl (fun K hK => ?_) AllReadyH.nil
      go_simp
      (go_at_call 58; refine (eqSpot_same _ _ _ _).mono ?_; rintro e x0c ⟨rfl, hw_0c⟩)
      refine hK.out _ _ (bel_next hB_0 hw_0c) (fun hHeld => ?_)
      clear hK K
      try simp only [Act.put, List.getElem_toArray, List.getElem_cons_succ, List.getElem_cons_zero, List.setIfInBounds_toArray, List.set_cons_zero, List.set_cons_succ]
      have hB_0c := id hHeld
      refine wpAnyH_take (i := 9) (oi := _) (v := ?_) rfl (by kernel_rfl) (by kernel_rfl) (by kernel_rfl) (fun _ _ _ h => h) (Or.inl ⟨by rfl, ?_⟩) (by assumption) ?_
      (rotate_left); (focus (intro wv hSw; (have qB := hSw);  go_simp; (try with_reducible rfl)))
      try simp only [Act.put, List.getElem_toArray, List.getElem_cons_succ, List.getElem_cons_zero, List.setIfInBounds_toArray, List.set_cons_zero, List.set_cons_succ]
      refine wpAnyH_done (by kernel_rfl) ?_ _
      go_wp2_with fail
      go_roundw
      case rel => exact ⟨k + 1, by omega, by go_num, hB_0c⟩
      case measure => simp [intOf]; omega
    · obtain rfl : k = n := by omega
      go_wp2_with fail
      go_ret
      exact ⟨rfl, hB⟩
def mkSpot (k0 : Nat) (i : Nat) : VSpot := (((k0 + 3 * i : Nat) : Int), ((k0 + 3 * i + 1 : Nat) : Int), ((k0 + 3 * i + 2 : Nat) : Int))
set_option maxHeartbeats 4000000 in
theorem markSpotS_any (base : Nat) (A : Option Addr) (cap : Nat) (xs : List VSpot) (k0 : Nat) {m : Nat} {w : World} (hm : xs.length = m) (hO : SOwn encSpot w base 79 A cap xs) (hl : m ≤ 2000000) (h0 : 1 ≤ k0) (h1 : k0 ≤ 10000000) :
    Calls Try.prog 31 #[.slice A m cap, .int .i64 k0] w fun e w' => e = .returned (.int .i64 (k0 + 3 * m)) ∧ SOwn encSpot w' base 79 A cap (markS (mkSpot k0) m) ∧ w.grownBy w' (Value.ownBlock (.slice A m cap)) := by
  have HM := Lib.hid hm
  clear hm
  go_enter Try.func31, Try.ntmps31
  go_wp2_with fail
  go_loopw [1, 5] (fun q i wr => ∃ k : Nat, k ≤ m ∧ i = .int .i64 k ∧ q = .int .i64 (k0 + 3 * k) ∧ SOwn encSpot wr base 79 A cap (markToS (mkSpot k0) xs k) ∧ w.grownBy wr (Value.ownBlock (.slice A m cap))) (fun _ i _ => (m - intOf i).toNat)
  case atStart => exact ⟨0, by omega, rfl, by simp, by rw [markToS_zero]; exact hO, ⟨rfl, rfl, rfl, Nat.le_refl _, fun _ _ _ => rfl⟩⟩
  case round =>
    obtain ⟨k, k1, rfl, rfl, hOk, hG⟩ := hrel
    by_cases hlt : k < m
    · have hk : k < xs.length := by rw [HM.out]; exact hlt
      have hk' : k < (markToS (mkSpot k0) xs k).length := by rw [markToS_len _ xs (by omega)]; exact hk
      obtain ⟨g, rfl, hb, hg⟩ := hOk.at_ hk'
      obtain ⟨d0, d1, d2⟩ := ownSpot hOk hk'
      have f0 := hOk.frozen (k * 3)
      have f1 := hOk.frozen (k * 3 + 1)
      have f2 := hOk.frozen (k * 3 + 2)
      have HO := Lib.hid hOk
      clear hOk
      go_wp2_with fail
      go_roundw
      case rel => exact ⟨k + 1, by omega, by go_num, by go_num, by have := HO.out.set k hk' (mkSpot k0 k); rw [markToS_next _ xs hk] at this; exact this, setAll_grown (encSpot.enc (mkSpot k0 k)) (k * 3) hG⟩
      case measure => simp [intOf]; omega
    · obtain rfl : k = m := by omega
      go_wp2_with fail
      go_ret
      exact ⟨rfl, by rw [← HM.out, markToS_all] at hOk; rw [← HM.out]; exact hOk, hG⟩
set_option maxHeartbeats 4000000 in
theorem heldSpotS_any (A : Option Addr) (cap : Nat) (k0 : Nat) {m : Nat} {w : World} (hA : SRow encSpot w A (markS (mkSpot k0) m)) (hl : m ≤ 2000000) (h0 : 1 ≤ k0) (h1 : k0 ≤ 10000000) :
    Calls Try.prog 32 #[.slice A m cap, .int .i64 k0] w fun e w' => e = .returned (.int .i64 (k0 + 3 * m)) ∧ Below w.heap.size w w' := by
  go_enter Try.func32, Try.ntmps32
  go_wp2_with fail
  go_loopw [1, 5] (fun q i wr => ∃ k : Nat, k ≤ m ∧ i = .int .i64 k ∧ q = .int .i64 (k0 + 3 * k) ∧ Below w.heap.size w wr) (fun _ i _ => (m - intOf i).toNat)
  case atStart => exact ⟨0, by omega, rfl, by simp, Below.refl _ _⟩
  case round =>
    obtain ⟨k, k1, rfl, rfl, hB⟩ := hrel
    by_cases hlt : k < m
    · have hk : k < (markS (mkSpot k0) m).length := by rw [markS_len]; exact hlt
      obtain ⟨b, off, rfl, hb, c0, c1, c2⟩ := rowSpot (hA.next hB) hk
      simp only [markS_at, mkSpot] at c0 c1 c2
      go_wp2_with fail
      go_roundw
      case rel => exact ⟨k + 1, by omega, by go_num, by go_num, hB⟩
      case measure => simp [intOf]; omega
    · obtain rfl : k = m := by omega
      go_wp2_with fail
      go_ret
      exact ⟨rfl, hB⟩
section
variable {H : Type} {enc : TypeId × Value → H} {w : World} {base : Nat} {spare : Nat → Bool} {held : Bool}
end
/-- What is left behind a slice's size. -/
def LeftSpot (L : Int) (n : Nat) (r : Int) : Prop := r = -1 ∨ (0 ≤ r ∧ r ≤ L ∧ (n : Int) ≤ L)
end Go.Proofs.Ytdmfipgmlplkiaa
