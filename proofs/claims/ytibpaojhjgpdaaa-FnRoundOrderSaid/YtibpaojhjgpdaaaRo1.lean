/- The order of ways round: the comparison. -/
import Derived.Test.YtibpaojhjgpdaaaOrd
import Derived.Test.YtibpaojhjgpdaaaWc
import Derived.Test.YtibpaojhjgpdaaaWs
import Derived.Test.YtibpaojhjgpdaaaIl
import Derived.Test.YtibpaojhjgpdaaaHlp2
namespace Go.Proofs.Ytibpaojhjgpdaaa
open Go.ChangeShapes Go.WideShapes Go.ChangeAt Go.RowKit
set_option linter.unusedSimpArgs false
set_option linter.unusedVariables false
set_option linter.unnecessarySimpa false

def cmpI (a b c d : Int) : Int := if befB a b c d = true then -1 else if befB c d a b = true then 1 else 0
theorem cmp_neg {a b c d : Int} : decide (cmpI a b c d < 0) = befB a b c d := by
  unfold cmpI; cases befB a b c d <;> simp
  cases befB c d a b <;> simp
theorem cmp_any (a b c d : Int) (w : World) (hx : crossW a b c d = a * d - b * c) (hy : crossW c d a b = c * b - d * a) :
    Calls Try.prog 44 #[.agg #[.int .i64 a, .int .i64 b], .agg #[.int .i64 c, .int .i64 d]] w fun e w' => e = .returned (.int .i64 (cmpI a b c d)) ∧ Below w.heap.size w w' := by
  have HC : Hid (cmpI a b c d = if befB a b c d = true then -1 else if befB c d a b = true then 1 else 0) := by show _ = _; rfl
  generalize cmpI a b c d = r at HC ⊢
  have HX := Lib.hid (And.intro hx hy)
  clear hx hy
  go_enter Try.func44, Try.ntmps44
  go_wp2_with fail
  refine (iBef_any _ _ _ _ _ HX.out.1).mono ?_; rintro e w1 ⟨rfl, hw1⟩
  obtain ⟨hP1, hQ1, hB1⟩ := ownb2 hw1
  obtain ⟨c0, c1, f0, f1, z1⟩ := blk2 hP1
  obtain ⟨d0, d1, g0, g1, z2⟩ := blk2 hQ1
  cases h1 : befB a b c d
  · have H1 := Lib.hid h1
    clear h1
    go_wp2_with fail
    refine (iBef_any _ _ _ _ _ HX.out.2).mono ?_; rintro e w2 ⟨rfl, hw2⟩
    have hB2 := bel_next hB1 hw2
    cases h2 : befB c d a b
    · have H2 := Lib.hid h2
      clear h2
      go_wp2
      go_ret
      exact ⟨ret_int (by rw [HC.out, H1.out, H2.out]; rfl), hB2⟩
    · have H2 := Lib.hid h2
      clear h2
      go_wp2
      go_ret
      exact ⟨ret_int (by rw [HC.out, H1.out, H2.out]; rfl), hB2⟩
  · have H1 := Lib.hid h1
    clear h1
    go_wp2
    go_ret
    exact ⟨ret_int (by rw [HC.out, H1.out]; rfl), hB1⟩
theorem celB_next {w w' : World} {b o : Nat} {v : Value} (h : w.cell? ⟨b, o, none⟩ = some v) (hw : Below w.heap.size w w') : w'.cell? ⟨b, o, none⟩ = some v := by
  rw [hw.cell (p := ⟨b, o, none⟩) (World.block_lt_of_cell? w _ h)]; exact h
/-- The ways of the list, told by their numbers in it: bounds. -/
theorem go_bd {xs : List (Int × Int)} (h : wsB xs = true) (i : Nat) (hi : i < xs.length) : goB xs[i].1 xs[i].2 = true := by
  unfold wsB at h
  rw [Bool.and_eq_true, List.all_eq_true] at h
  have := h.2 xs[i] (List.getElem_mem hi)
  simpa [goP] using this
theorem go_len {xs : List (Int × Int)} (h : wsB xs = true) : xs.length ≤ 8 := by
  unfold wsB at h; rw [Bool.and_eq_true] at h; simpa using h.1
end Go.Proofs.Ytibpaojhjgpdaaa
