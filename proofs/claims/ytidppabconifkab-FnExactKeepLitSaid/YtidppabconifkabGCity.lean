/- Cities: copies, comparisons, sizes, marks. -/
import Derived.Test.YtidppabconifkabRows
import Derived.Test.YtidppabconifkabGNum
import Derived.Test.YtidppabconifkabHlp2
namespace Go.Proofs.Ytidppabconifkab
open Go Go.ChangeShapes Go.WideShapes Go.ChangeAt Go.RowKit Go.Deep
set_option linter.unusedSimpArgs false
set_option linter.unusedVariables false
set_option linter.unnecessarySimpa false

def CopyCity (d : Int) (xs : List Int) (w : World) (e : Ending) (w' : World) : Prop := ∃ g : Nat, e = .returned (.agg #[.int .i64 d, .slice (some ⟨g, 0, none⟩) xs.length xs.length]) ∧ w.heap.size ≤ g ∧ SBlk encNum w' g 3 xs ∧ Below w.heap.size w w'
theorem toNumS_len (A : Option Addr) (cap : Nat) (xs : List Int) {n : Nat} (w : World) (hn : xs.length = n) (h : SRow encNum w A xs) (hl : n ≤ 2000000) :
    Calls Try.prog 67 #[.slice A n cap] w fun e w' => ∃ g : Nat, e = .returned (.slice (some ⟨g, 0, none⟩) n n) ∧ w.heap.size ≤ g ∧ SBlk encNum w' g 3 xs ∧ Below w.heap.size w w' := by
  subst hn; exact toNumS_any A cap xs w h hl
set_option maxHeartbeats 4000000 in
theorem toCity_any (d : Int) (A : Option Addr) (cap : Nat) (xs : List Int) (w : World) (h : SRow encNum w A xs) (hl : xs.length ≤ 2000000) :
    Calls Try.prog 26 #[.agg #[.int .i64 d, .slice A xs.length cap]] w (CopyCity d xs w) := by
  unfold CopyCity
  generalize hn : xs.length = n at hl ⊢
  have HN := Lib.hid hn
  clear hn
  go_enter Try.func26, Try.ntmps26
  go_wp2_with fail
  refine (toNumS_len A cap xs _ HN.out (h.next (bel3 w _ _ _)) hl).mono ?_; rintro E w1 ⟨g, rfl, hg, hb, hw1⟩
  obtain ⟨hP1, hQ1, hR1, hB1⟩ := ownb3 hw1
  obtain ⟨p0, p1, f0, f1, zp⟩ := blk2 hP1
  obtain ⟨q0, q1, g0, g1, zq⟩ := blk2 hQ1
  obtain ⟨r0, r1, k0, k1, zr⟩ := blk2 hR1
  simp at hg
  have hR2 := blk2_set1 (b := .slice (some ⟨g, 0, none⟩) n n) hR1
  have hQ2 := blk2_set (a := .int .i64 d) (b := .slice (some ⟨g, 0, none⟩) n n) (blk_far (C := w.heap.size + 1 + 1) (i := 1) hQ1 (by omega) (.slice (some ⟨g, 0, none⟩) n n))
  obtain ⟨u0, u1, _, _, _⟩ := blk2 hQ2
  have hb2 : SBlk encNum (((w1.setCell ⟨w.heap.size + 1 + 1, 1, none⟩ (.slice (some ⟨g, 0, none⟩) n n)).setCell ⟨w.heap.size + 1, 0, none⟩ (.int .i64 d)).setCell ⟨w.heap.size + 1, 1, none⟩ (.slice (some ⟨g, 0, none⟩) n n)) g 3 xs := blk_far (blk_far (blk_far hb (by omega) _) (by omega) _) (by omega) _
  go_wp2
  exact bodyPost_ret (v := .agg #[.int .i64 d, .slice (some ⟨g, 0, none⟩) n n]) (by simp [results, Try.results26, go_sem, u0, u1]) rfl ⟨g, rfl, by omega, hb2, store2_bel (hB1.setCell (by simp; omega) _) (by omega) _ _⟩
set_option maxHeartbeats 4000000 in
theorem eqCity_same (d : Int) (A B : Option Addr) (ca cb : Nat) (xs : List Int) {n : Nat} {w : World} (hn : xs.length = n) (hA : SRow encNum w A xs) (hB' : SRow encNum w B xs) (hl : n ≤ 2000000) :
    Calls Try.prog 28 #[.agg #[.int .i64 d, .slice A n ca], .agg #[.int .i64 d, .slice B n cb]] w fun e w' => e = .returned (.bool true) ∧ Below w.heap.size w w' := by
  have HN := Lib.hid hn
  clear hn
  go_enter Try.func28, Try.ntmps28
  go_wp2_with fail
  refine (eqNumS_same A B ca cb xs HN.out (hA.next (bel2 w _ _)) (hB'.next (bel2 w _ _)) hl).mono ?_; rintro E w1 ⟨rfl, hw1⟩
  go_wp2
  go_ret
  exact ⟨rfl, (ownb2 hw1).2.2⟩
theorem eqCity_zero (w : World) :
    Calls Try.prog 28 #[.agg #[.int .i64 0, .slice none 0 0], .agg #[.int .i64 0, .slice none 0 0]] w fun e w' => e = .returned (.bool true) ∧ Below w.heap.size w w' :=
  eqCity_same 0 none none 0 0 [] rfl (SRow.nil _ _) (SRow.nil _ _) (by omega)
set_option maxHeartbeats 4000000 in
theorem szCity_any (d : Int) (A : Option Addr) (n cap : Nat) (L : Int) (w : World) (h0 : 0 ≤ L) (h1 : L ≤ 1048576) (hl : n ≤ maxLen) : Calls Try.prog 24 #[.agg #[.int .i64 d, .slice A n cap], .int .i64 L] w fun e w' => ∃ r, e = .returned (.int .i64 r) ∧ LeftNum L n r ∧ Below w.heap.size w w' := by
  go_enter Try.func24, Try.ntmps24
  go_wp2_with fail
  refine (szNumS_any A n cap L _ h0 h1 hl).mono ?_; rintro E w1 ⟨r, rfl, hL, rfl⟩
  rcases hL with rfl | ⟨q0, q1, q2⟩
  · go_wp2
    go_ret
    exact ⟨-1, rfl, .inl rfl, bel1 _ _⟩
  · have hr : ¬ r < 0 := by omega
    go_wp2
    go_ret
    exact ⟨r, rfl, .inr ⟨q0, q1, q2⟩, bel1 _ _⟩
end Go.Proofs.Ytidppabconifkab
