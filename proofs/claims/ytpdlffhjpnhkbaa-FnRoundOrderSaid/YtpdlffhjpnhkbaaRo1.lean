/- The order of ways round: the comparison. -/
import Derived.Test.YtpdlffhjpnhkbaaOrd
import Derived.Test.YtpdlffhjpnhkbaaWc
import Derived.Test.YtpdlffhjpnhkbaaWs
import Derived.Test.YtpdlffhjpnhkbaaIl
import Derived.Test.YtpdlffhjpnhkbaaHlp2
namespace Go.Proofs.Ytpdlffhjpnhkbaa
open Go.ChangeShapes Go.WideShapes Go.ChangeAt Go.RowKit
set_option linter.unusedSimpArgs false
set_option linter.unusedVariables false
set_option linter.unnecessarySimpa false

def cmpI (a b c d : Int) : Int := if befB a b c d = true then -1 else if befB c d a b = true then 1 else 0
theorem cmp_neg {a b c d : Int} : decide (cmpI a b c d < 0) = befB a b c d := by
  unfold cmpI; cases befB a b c d <;> simp
  cases befB c d a b <;> simp
theorem cmp_any (a b c d : Int) (w : World) (hx : crossW a b c d = a * d - b * c) (hy : crossW c d a b = c * b - d * a) :
    Calls Try.prog 18 #[.agg #[.int .i64 a, .int .i64 b], .agg #[.int .i64 c, .int .i64 d]] w fun e w' => e = .returned (.int .i64 (cmpI a b c d)) ∧ Below w.heap.size w w' := by
  have HC : Hid (cmpI a b c d = if befB a b c d = true then -1 else if befB c d a b = true then 1 else 0) := by show _ = _; rfl
  generalize cmpI a b c d = r at HC ⊢
  have HX := Lib.hid (And.intro hx hy)
  clear hx hy
  go_enter Try.func18, Try.ntmps18
  go_wp2_with fail
  refine (iBef_any _ _ _ _ _ HX.out.1).mono ?_; rintro e w1 ⟨rfl, hw1⟩
  obtain ⟨hP1, hQ1, hB1⟩ := ownb2 hw1
  obtain ⟨c0, c1, f0, f1, z1⟩ := blk2 hP1
  obtain ⟨d0, d1, g0, g1, z2⟩ := blk2 hQ1
  cases h1 : befB a b c d
  · have H1 := Lib.hid h1
    clear h1
    go_wp2_with fail
    refine (iBef_any _ _ _ _ _ HX.out.2).mono ?_; rintro e w2 ⟨rfl, hw2⟩
    have hB2 := bel_next hB1 hw2
    cases h2 : befB c d a b
    · have H2 := Lib.hid h2
      clear h2
      go_wp2
      go_ret
      exact ⟨ret_int (by rw [HC.out, H1.out, H2.out]; rfl), hB2⟩
    · have H2 := Lib.hid h2
      clear h2
      go_wp2
      go_ret
      exact ⟨ret_int (by rw [HC.out, H1.out, H2.out]; rfl), hB2⟩
  · have H1 := Lib.hid h1
    clear h1
    go_wp2
    go_ret
    exact ⟨ret_int (by rw [HC.out, H1.out]; rfl), hB1⟩
/-- What a world of the sort keeps: all that lay before the box, the box with the list. -/
def SoB (w0 : World) (A : Option Addr) (n cap : Nat) (w : World) : Prop := Below w0.heap.size w0 w ∧ w.heap[w0.heap.size]? = some (.cells #[.slice A n cap] 23 (0, 0))
theorem SoB.next {w0 w w' : World} {A : Option Addr} {n cap : Nat} (h : SoB w0 A n cap w) (hw : Below w.heap.size w w') : SoB w0 A n cap w' := ⟨bel_next h.1 hw, blk_next h.2 hw⟩
theorem SoB.cell {w0 w : World} {A : Option Addr} {n cap : Nat} (h : SoB w0 A n cap w) : w.cell? ⟨w0.heap.size, 0, none⟩ = some (.slice A n cap) := by
  have := h.2; simp [World.cell?, this]
theorem SoB.far {w0 w : World} {A : Option Addr} {n cap g i : Nat} {v : Value} (h : SoB w0 A n cap w) (hg : w0.heap.size < g) : SoB w0 A n cap (w.setCell ⟨g, i, none⟩ v) :=
  ⟨h.1.setCell (p := ⟨g, i, none⟩) (by show _ ≤ g; omega) v, blk_far h.2 (by omega) v⟩
theorem SoB.drew {w0 w : World} {A : Option Addr} {n cap : Nat} (h : SoB w0 A n cap w) : SoB w0 A n cap w.drew := ⟨h.1.drew, h.2⟩
theorem celB_next {w w' : World} {b o : Nat} {v : Value} (h : w.cell? ⟨b, o, none⟩ = some v) (hw : Below w.heap.size w w') : w'.cell? ⟨b, o, none⟩ = some v := by
  rw [hw.cell (p := ⟨b, o, none⟩) (World.block_lt_of_cell? w _ h)]; exact h
/-- The ways of the list, told by their numbers in it: bounds. -/
theorem go_bd {xs : List (Int × Int)} (h : wsB xs = true) (i : Nat) (hi : i < xs.length) : goB xs[i].1 xs[i].2 = true := by
  unfold wsB at h
  rw [Bool.and_eq_true, List.all_eq_true] at h
  have := h.2 xs[i] (List.getElem_mem hi)
  simpa [goP] using this
theorem go_len {xs : List (Int × Int)} (h : wsB xs = true) : xs.length ≤ 8 := by
  unfold wsB at h; rw [Bool.and_eq_true] at h; simpa using h.1

theorem clo_any {w0 : World} {A : Option Addr} {cap : Nat} {xs : List (Int × Int)} (hA : WRow w0 A xs) (hv : wsB xs = true) (i j : Nat) (hi : i < xs.length) (hj : j < xs.length) (w : World) (hS : SoB w0 A xs.length cap w) :
    Calls Try.prog 17 #[.int .i64 i, .int .i64 j, .pointer (some ⟨w0.heap.size, 0, none⟩)] w fun e w' => e = .returned (.int .i64 (cmpI xs[i].1 xs[i].2 xs[j].1 xs[j].2)) ∧ Below w.heap.size w w' := by
  have HX := Lib.hid (And.intro (go_cross (go_bd hv i hi) (go_bd hv j hj)) (go_cross (go_bd hv j hj) (go_bd hv i hi)))
  clear hv
  rcases hA with rfl | ⟨b, off, rfl, hcs⟩
  · simp at hi
  have HA : Hid (∀ wv, SoB w0 (some ⟨b, off, none⟩) xs.length cap wv → ∀ i (hi : i < xs.length), wv.cell? ⟨b, off + i * 2, none⟩ = some (.int .i64 xs[i].1) ∧ wv.cell? ⟨b, off + i * 2 + 1, none⟩ = some (.int .i64 xs[i].2)) :=
    fun wv h i hi => ⟨celB_next (hcs i hi).1 h.1, celB_next (hcs i hi).2 h.1⟩
  clear hcs
  go_enter Try.func17, Try.ntmps17
  go_wp2_with fail
  refine wp_region_held_drew (S := (fun w' => SoB w0 (some ⟨b, off, none⟩) xs.length cap w' ∧ Below w.heap.size w w')) (by kernel_rfl) ⟨hS.drew, (Below.refl _ _).drew⟩ (fun hHeld => ?_)
  obtain ⟨hS_0, hB_0⟩ := id hHeld
  refine wpAnyH_take (i := 0) (oi := _) (v := ?_) rfl (by kernel_rfl) (by kernel_rfl) (by kernel_rfl) (fun _ _ _ h => h) (Or.inl ⟨by rfl, ?_⟩) (by assumption) ?_
  (rotate_left); (focus (intro wv hSw; (obtain ⟨qS, qB⟩ := hSw); have e0 := qS.cell; go_simp; (try with_reducible rfl)))
  try simp only [Act.put, List.getElem_toArray, List.getElem_cons_succ, List.getElem_cons_zero, List.setIfInBounds_toArray, List.set_cons_zero, List.set_cons_succ]
  refine wpAnyH_take (i := 1) (oi := _) (v := ?_) rfl (by kernel_rfl) (by kernel_rfl) (by kernel_rfl) (fun _ _ _ h => h) (Or.inl ⟨by rfl, ?_⟩) (by assumption) ?_
  (rotate_left); (focus (intro wv hSw; (obtain ⟨qS, qB⟩ := hSw);  go_simp; (try with_reducible rfl)))
  try simp only [Act.put, List.getElem_toArray, List.getElem_cons_succ, List.getElem_cons_zero, List.setIfInBounds_toArray, List.set_cons_zero, List.set_cons_succ]
  refine wpAnyH_take (i := 4) (oi := _) (v := ?_) rfl (by kernel_rfl) (by kernel_rfl) (by kernel_rfl) (fun _ _ _ h => h) (Or.inl ⟨by rfl, ?_⟩) (by assumption) ?_
  (rotate_left); (focus (intro wv hSw; (obtain ⟨qS, qB⟩ := hSw); have e0 := qS.cell; go_simp; (try with_reducible rfl)))
  try simp only [Act.put, List.getElem_toArray, List.getElem_cons_succ, List.getElem_cons_zero, List.setIfInBounds_toArray, List.set_cons_zero, List.set_cons_succ]
  refine wpAnyH_take (i := 5) (oi := _) (v := ?_) rfl (by kernel_rfl) (by kernel_rfl) (by kernel_rfl) (fun _ _ _ h => h) (Or.inl ⟨by rfl, ?_⟩) (by assumption) ?_
  (rotate_left); (focus (intro wv hSw; (obtain ⟨qS, qB⟩ := hSw);  go_simp; (try with_reducible rfl)))
  try simp only [Act.put, List.getElem_toArray, List.getElem_cons_succ, List.getElem_cons_zero, List.setIfInBounds_toArray, List.set_cons_zero, List.set_cons_succ]
  refine wpAnyH_take (i := 2) (oi := _) (v := ?_) rfl (by kernel_rfl) (by kernel_rfl) (by kernel_rfl) (fun _ _ _ h => h) (Or.inl ⟨by rfl, ?_⟩) (by assumption) ?_
  (rotate_left); (focus (intro wv hSw; (obtain ⟨qS, qB⟩ := hSw);  go_simp; (try with_reducible rfl)))
  try simp only [Act.put, List.getElem_toArray, List.getElem_cons_succ, List.getElem_cons_zero, List.setIfInBounds_toArray, List.set_cons_zero, List.set_cons_succ]
  refine wpAnyH_take (i := 6) (oi := _) (v := ?_) rfl (by kernel_rfl) (by kernel_rfl) (by kernel_rfl) (fun _ _ _ h => h) (Or.inl ⟨by rfl, ?_⟩) (by assumption) ?_
  (rotate_left); (focus (intro wv hSw; (obtain ⟨qS, qB⟩ := hSw);  go_simp; (try with_reducible rfl)))
  try simp only [Act.put, List.getElem_toArray, List.getElem_cons_succ, List.getElem_cons_zero, List.setIfInBounds_toArray, List.set_cons_zero, List.set_cons_succ]
  refine wpAnyH_take (i := 3) (oi := _) (v := ?_) rfl (by kernel_rfl) (by kernel_rfl) (by kernel_rfl) (fun _ _ _ h => h) (Or.inl ⟨by rfl, ?_⟩) (by assumption) ?_
  (rotate_left); (focus (intro wv hSw; (obtain ⟨qS, qB⟩ := hSw); obtain ⟨k0, k1⟩ := HA.out wv qS i hi; go_simp; (try with_reducible rfl)))
  try simp only [Act.put, List.getElem_toArray, List.getElem_cons_succ, List.getElem_cons_zero, List.setIfInBounds_toArray, List.set_cons_zero, List.set_cons_succ]
  refine wpAnyH_take (i := 7) (oi := _) (v := ?_) rfl (by kernel_rfl) (by kernel_rfl) (by kernel_rfl) (fun _ _ _ h => h) (Or.inl ⟨by rfl, ?_⟩) (by assumption) ?_
  (rotate_left); (focus (intro wv hSw; (obtain ⟨qS, qB⟩ := hSw); obtain ⟨k0, k1⟩ := HA.out wv qS j hj; go_simp; (try with_reducible rfl)))
  try simp only [Act.put, List.getElem_toArray, List.getElem_cons_succ, List.getElem_cons_zero, List.setIfInBounds_toArray, List.set_cons_zero, List.set_cons_succ]
  refine wpAnyH_ready (rs := [8]) (by kernel_rfl) (by simp) ?_
  refine AllReadyH.cons (o := _) rfl (fun K hK => ?_) AllReadyH.nil
  go_simp
  (go_at_call 18; refine (cmp_any _ _ _ _ _ HX.out.1 HX.out.2).mono ?_; rintro e x0c ⟨rfl, hw_0c⟩)
  refine hK.out _ _ ⟨hS_0.next hw_0c, bel_next hB_0 hw_0c⟩ (fun hHeld => ?_)
  clear hK K
  try simp only [Act.put, List.getElem_toArray, List.getElem_cons_succ, List.getElem_cons_zero, List.setIfInBounds_toArray, List.set_cons_zero, List.set_cons_succ]
  obtain ⟨hS_0c, hB_0c⟩ := id hHeld
  refine wpAnyH_take (i := 9) (oi := _) (v := ?_) rfl (by kernel_rfl) (by kernel_rfl) (by kernel_rfl) (fun _ _ _ h => h) (Or.inl ⟨by rfl, ?_⟩) (by assumption) ?_
  (rotate_left); (focus (intro wv hSw; (obtain ⟨qS, qB⟩ := hSw);  go_simp; (try with_reducible rfl)))
  try simp only [Act.put, List.getElem_toArray, List.getElem_cons_succ, List.getElem_cons_zero, List.setIfInBounds_toArray, List.set_cons_zero, List.set_cons_succ]
  refine wpAnyH_done (by kernel_rfl) ?_ _
  go_wp2
  go_ret
  exact ⟨rfl, hB_0c⟩
end Go.Proofs.Ytpdlffhjpnhkbaa
