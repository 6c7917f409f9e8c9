/- Slices of bools: copies, comparisons, sizes, marks. -/
import Derived.Test.YtmmnhgkcdhdmkaaRows
import Derived.Test.YtmmnhgkcdhdmkaaGo
namespace Go.Proofs.Ytmmnhgkcdhdmkaa
open Go Go.ChangeShapes Go.WideShapes Go.ChangeAt Go.RowKit Go.Deep
set_option linter.unusedSimpArgs false
set_option linter.unusedVariables false
set_option linter.unnecessarySimpa false

def encBool : Enc Bool := ⟨1, fun x => [.bool x], fun _ => rfl, by intro x u hu; simp at hu; subst hu; rfl, by omega⟩
theorem rowBool {w : World} {A : Option Addr} {xs : List Bool} (h : SRow encBool w A xs) {i : Nat} (hi : i < xs.length) : ∃ b off : Nat, A = some ⟨b, off, none⟩ ∧ b < w.heap.size ∧ w.cell? ⟨b, off + i, none⟩ = some (.bool xs[i]) := by
  obtain ⟨b, off, e, hb, hc⟩ := h.at_ hi
  exact ⟨b, off, e, hb, by have := hc 0 _ rfl; simpa [encBool, Nat.add_assoc] using this⟩
theorem blkBool {w : World} {g : Nat} {T : TypeId} {xs : List Bool} (h : SBlk encBool w g T xs) {i : Nat} (hi : i < xs.length) : w.cell? ⟨g, i, none⟩ = some (.bool xs[i]) := by have := h.cell i hi 0 _ rfl; simpa [encBool] using this
theorem ownBool {w : World} {base g cap : Nat} {T : TypeId} {xs : List Bool} (h : SOwn encBool w base T (some ⟨g, 0, none⟩) cap xs) {i : Nat} (hi : i < xs.length) : w.cell? ⟨g, i, none⟩ = some (.bool xs[i]) := by have := h.cell i hi 0 _ rfl; simpa [encBool] using this
theorem setBoolB {w : World} {g : Nat} {T : TypeId} {xs : List Bool} (h : SBlk encBool w g T xs) (i : Nat) (hi : i < xs.length) (x : Bool) : SBlk encBool (w.setCell ⟨g, i, none⟩ (.bool x)) g T (xs.set i x) := by
  have := h.set i hi x; simpa [encBool, setAll] using this
theorem setBoolO {w : World} {base g cap : Nat} {T : TypeId} {xs : List Bool} (h : SOwn encBool w base T (some ⟨g, 0, none⟩) cap xs) (i : Nat) (hi : i < xs.length) (x : Bool) : SOwn encBool (w.setCell ⟨g, i, none⟩ (.bool x)) base T (some ⟨g, 0, none⟩) cap (xs.set i x) := by
  have := h.set i hi x; simpa [encBool, setAll] using this
theorem infoBool : (Try.prog.info? 4).map (fun i => (i.zero, i.size, i.bytes)) = some (some (.bool false), 1, 1) := by kernel_rfl
def CopyBool (xs : List Bool) (w : World) (e : Ending) (w' : World) : Prop := ∃ g : Nat, e = .returned (.slice (some ⟨g, 0, none⟩) xs.length xs.length) ∧ w.heap.size ≤ g ∧ SBlk encBool w' g 4 xs ∧ Below w.heap.size w w'
theorem setBoolG {w w' : World} {g i : Nat} (h : w.grownBy w' (some g)) (v : Value) : w.grownBy (w'.setCell ⟨g, i, none⟩ v) (some g) := grown_cellS h v
set_option maxHeartbeats 4000000 in
theorem toBoolS_any (A : Option Addr) (cap : Nat) (xs : List Bool) (w : World) (h : SRow encBool w A xs) (hl : xs.length ≤ 2000000) :
    Calls Try.prog 36 #[.slice A xs.length cap] w (CopyBool xs w) := by
  unfold CopyBool
  generalize hn : xs.length = n at hl ⊢
  have HN := Lib.hid hn
  clear hn
  obtain ⟨i0, hi0, hz0, hz1, hz2⟩ := info_parts infoBool
  have hbn : i0.bytes * n ≤ 281474976710656 := by rw [hz2]; omega
  have HI := Lib.hid (And.intro hi0 (And.intro hz0 (And.intro hz1 hbn)))
  clear hi0 hz0 hz1 hz2 hbn
  go_enter Try.func36, Try.ntmps36
  go_wp2_with (at_make; refine wpList_make_structs _ encBool (false : Bool) rfl _ _ 41 rfl 4 i0 _ Try.underlying41 HI.out.1 HI.out.2.1 HI.out.2.2.1 rfl .i64 .i64 n rfl rfl HI.out.2.2.2 (by omega) ?_)
  go_loopw [4] (fun i wr => ∃ k : Nat, k ≤ n ∧ i = .int .i64 k ∧ SBlk encBool wr w.heap.size 4 (upToS false xs n k) ∧ Below w.heap.size w wr) (fun i _ => (n - intOf i).toNat)
  case atStart => exact ⟨0, by omega, rfl, by have := blk_new w (.cells (encBool.flat (List.replicate n false)).toArray 4); exact this, bel1 _ _⟩
  case round =>
    obtain ⟨k, k1, rfl, hblk, hB⟩ := hrel
    by_cases hlt : k < n
    · have hk : k < xs.length := by rw [HN.out]; exact hlt
      have hk' : k < (upToS false xs n k).length := by rw [upToS_len HN.out k1]; exact hlt
      obtain ⟨b, off, rfl, hb, c0⟩ := rowBool (h.next hB) hk
      have d0 := blkBool hblk hk'
      have f0 := hblk.frozen k
      go_wp2_with fail
      go_roundw
      case rel => exact ⟨k + 1, by omega, by go_num, by have := setBoolB hblk k hk' xs[k]; rwa [upToS_next HN.out hk] at this, hB.setCell (Nat.le_refl _) _⟩
      case measure => simp [intOf]; omega
    · obtain rfl : k = n := by omega
      go_wp2_with fail
      go_ret
      refine ⟨_, rfl, Nat.le_refl _, ?_, hB⟩
      rwa [upToS_all HN.out] at hblk
set_option maxHeartbeats 4000000 in
theorem eqBoolS_same (A B : Option Addr) (ca cb : Nat) (xs : List Bool) {n : Nat} {w : World} (hn : xs.length = n) (hA : SRow encBool w A xs) (hB' : SRow encBool w B xs) (hl : n ≤ 2000000) :
    Calls Try.prog 38 #[.slice A n ca, .slice B n cb] w fun e w' => e = .returned (.bool true) ∧ Below w.heap.size w w' := by
  have HN := Lib.hid hn
  clear hn
  go_enter Try.func38, Try.ntmps38
  go_wp2_with fail
  go_loopw [5] (fun i wr => ∃ k : Nat, k ≤ n ∧ i = .int .i64 k ∧ Below w.heap.size w wr) (fun i _ => (n - intOf i).toNat)
  case atStart => exact ⟨0, by omega, rfl, Below.refl _ _⟩
  case round =>
    obtain ⟨k, k1, rfl, hB⟩ := hrel
    by_cases hlt : k < n
    · have hk : k < xs.length := by rw [HN.out]; exact hlt
      have hk1 : (k : Int) < (n : Int) := by omega
      obtain ⟨b, off, rfl, _, _⟩ := rowBool hA hk
      obtain ⟨b', off', rfl, _, _⟩ := rowBool hB' hk
      obtain ⟨_, _, e1, _, c0⟩ := rowBool (hA.next hB) hk
      simp only [Option.some.injEq, Addr.mk.injEq, and_true] at e1
      obtain ⟨rfl, rfl⟩ := e1
      obtain ⟨_, _, e1, _, d0⟩ := rowBool (hB'.next hB) hk
      simp only [Option.some.injEq, Addr.mk.injEq, and_true] at e1
      obtain ⟨rfl, rfl⟩ := e1
      go_wp2_with fail
      refine wp_region_held_drew (S := (fun w' => w'.cell? ⟨b, off + k, none⟩ = some (.bool xs[k]) ∧ w'.cell? ⟨b', off' + k, none⟩ = some (.bool xs[k]) ∧ Below w.heap.size w w')) (by kernel_rfl) ⟨c0, d0, hB.drew⟩ (fun hHeld => ?_)
      obtain ⟨hC_0, hD_0, hB_0⟩ := id hHeld
      refine wpAnyH_take (i := 0) (oi := _) (v := ?_) rfl (by kernel_rfl) (by kernel_rfl) (by kernel_rfl) (fun _ _ _ h => h) (Or.inl ⟨by rfl, ?_⟩) (by assumption) ?_
      (rotate_left); (focus (intro wv hSw; (obtain ⟨qC, qD, qB⟩ := hSw);  go_simp; (try with_reducible rfl)))
      try simp only [Act.put, List.getElem_toArray, List.getElem_cons_succ, List.getElem_cons_zero, List.setIfInBounds_toArray, List.set_cons_zero, List.set_cons_succ]
      refine wpAnyH_take (i := 1) (oi := _) (v := ?_) rfl (by kernel_rfl) (by kernel_rfl) (by kernel_rfl) (fun _ _ _ h => h) (Or.inl ⟨by rfl, ?_⟩) (by assumption) ?_
      (rotate_left); (focus (intro wv hSw; (obtain ⟨qC, qD, qB⟩ := hSw);  go_simp; (try with_reducible rfl)))
      try simp only [Act.put, List.getElem_toArray, List.getElem_cons_succ, List.getElem_cons_zero, List.setIfInBounds_toArray, List.set_cons_zero, List.set_cons_succ]
      refine wpAnyH_take (i := 2) (oi := _) (v := ?_) rfl (by kernel_rfl) (by kernel_rfl) (by kernel_rfl) (fun _ _ _ h => h) (Or.inl ⟨by rfl, ?_⟩) (by assumption) ?_
      (rotate_left); (focus (intro wv hSw; (obtain ⟨qC, qD, qB⟩ := hSw);  go_simp; (try with_reducible rfl)))
      try simp only [Act.put, List.getElem_toArray, List.getElem_cons_succ, List.getElem_cons_zero, List.setIfInBounds_toArray, List.set_cons_zero, List.set_cons_succ]
      refine wpAnyH_take (i := 3) (oi := _) (v := ?_) rfl (by kernel_rfl) (by kernel_rfl) (by kernel_rfl) (fun _ _ _ h => h) (Or.inl ⟨by rfl, ?_⟩) (by assumption) ?_
      (rotate_left); (focus (intro wv hSw; (obtain ⟨qC, qD, qB⟩ := hSw);  go_simp; (try with_reducible rfl)))
      try simp only [Act.put, List.getElem_toArray, List.getElem_cons_succ, List.getElem_cons_zero, List.setIfInBounds_toArray, List.set_cons_zero, List.set_cons_succ]
      refine wpAnyH_take (i := 4) (oi := _) (v := ?_) rfl (by kernel_rfl) (by kernel_rfl) (by kernel_rfl) (fun _ _ _ h => h) (Or.inl ⟨by rfl, ?_⟩) (by assumption) ?_
      (rotate_left); (focus (intro wv hSw; (obtain ⟨qC, qD, qB⟩ := hSw);  go_simp; (try with_reducible rfl)))
      try simp only [Act.put, List.getElem_toArray, List.getElem_cons_succ, List.getElem_cons_zero, List.setIfInBounds_toArray, List.set_cons_zero, List.set_cons_succ]
      refine wpAnyH_take (i := 5) (oi := _) (v := ?_) rfl (by kernel_rfl) (by kernel_rfl) (by kernel_rfl) (fun _ _ _ h => h) (Or.inl ⟨by rfl, ?_⟩) (by assumption) ?_
      (rotate_left); (focus (intro wv hSw; (obtain ⟨qC, qD, qB⟩ := hSw);  go_simp; (try with_reducible rfl)))
      try simp only [Act.put, List.getElem_toArray, List.getElem_cons_succ, List.getElem_cons_zero, List.setIfInBounds_toArray, List.set_cons_zero, List.set_cons_succ]
      refine wpAnyH_take (i := 6) (oi := _) (v := ?_) rfl (by kernel_rfl) (by kernel_rfl) (by kernel_rfl) (fun _ _ _ h => h) (Or.inl ⟨by rfl, ?_⟩) (by assumption) ?_
      (rotate_left); (focus (intro wv hSw; (obtain ⟨qC, qD, qB⟩ := hSw);  go_simp; (try with_reducible rfl)))
      try simp only [Act.put, List.getElem_toArray, List.getElem_cons_succ, List.getElem_cons_zero, List.setIfInBounds_toArray, List.set_cons_zero, List.set_cons_succ]
      refine wpAnyH_take (i := 7) (oi := _) (v := ?_) rfl (by kernel_rfl) (by kernel_rfl) (by kernel_rfl) (fun _ _ _ h => h) (Or.inl ⟨by rfl, ?_⟩) (by assumption) ?_
      (rotate_left); (focus (intro wv hSw; (obtain ⟨qC, qD, qB⟩ := hSw);  go_simp; (try with_reducible rfl)))
      try simp only [Act.put, List.getElem_toArray, List.getElem_cons_succ, List.getElem_cons_zero, List.setIfInBounds_toArray, List.set_cons_zero, List.set_cons_succ]
      refine wpAnyH_take (i := 8) (oi := _) (v := ?_) rfl (by kernel_rfl) (by kernel_rfl) (by kernel_rfl) (fun _ _ _ h => h) (Or.inl ⟨by rfl, ?_⟩) (by assumption) ?_
      (rotate_left); (focus (intro wv hSw; (obtain ⟨qC, qD, qB⟩ := hSw);  go_simp; (try with_reducible rfl)))
      try simp only [Act.put, List.getElem_toArray, List.getElem_cons_succ, List.getElem_cons_zero, List.setIfInBounds_toArray, List.set_cons_zero, List.set_cons_succ]
      refine wpAnyH_done (by kernel_rfl) ?_ _
      go_wp2_with fail
      go_roundw
      case rel => exact ⟨k + 1, by omega, by go_num, hB_0⟩
      case measure => simp [intOf]; omega
    · obtain rfl : k = n := by omega
      go_wp2_with fail
      go_ret
      exact ⟨rfl, hB⟩
def mkBool (k0 : Nat) (i : Nat) : Bool := (((k0 : Int) + (i : Int)) % 3 == 0)
section
variable {H : Type} {enc : TypeId × Value → H} {w : World} {base : Nat} {spare : Nat → Bool} {held : Bool}
theorem decBool (fuel : Nat) (cs : List Value) (x : DataW H × List MemPlace) (h : DataW.trod enc Try.prog w base spare held fuel 4 cs = some x) : ∃ v : Bool, cs = encBool.enc v ∧ True := by
  obtain ⟨a, ha, _⟩ := DataW.trod_bool Try.underlying4 h
  exact ⟨a, ha, trivial⟩
theorem openBoolS {fuel : Nat} {cs : List Value} {x : DataW H × List MemPlace} (h : DataW.trod enc Try.prog w base spare held fuel 41 cs = some x) :
    ∃ (A : Option Addr) (cap : Nat) (xs : List Bool), cs = [.slice A xs.length cap] ∧ xs.length ≤ maxLen ∧ SRow encBool w A xs ∧ ∀ v ∈ xs, (fun _ => True) v :=
  open_structs encBool (false : Bool) (fun _ => True) Try.underlying41 (by kernel_rfl) decBool h
end
end Go.Proofs.Ytmmnhgkcdhdmkaa
