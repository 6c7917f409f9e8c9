/- Contracts of chapter 5: the model's meeting of a way and a block. -/
import Derived.Test.YtigndpajpofofaaVb
namespace Go.Proofs.Ytigndpajpofofaa
open Go Go.ChangeShapes Go.WideShapes Go.ChangeAt Go.RowKit
set_option linter.unusedSimpArgs false
set_option linter.unusedVariables false

theorem mulD {a b p q : Int} (h0 : -p ≤ a) (h1 : a ≤ p) (h2 : -q ≤ b) (h3 : b ≤ q) : -(p * q) ≤ a * b ∧ a * b ≤ p * q := by
  have e1 := Int.mul_nonneg (show 0 ≤ p - a by omega) (show 0 ≤ q + b by omega)
  have e2 := Int.mul_nonneg (show 0 ≤ p + a by omega) (show 0 ≤ q - b by omega)
  have e3 := Int.mul_nonneg (show 0 ≤ p - a by omega) (show 0 ≤ q - b by omega)
  have e4 := Int.mul_nonneg (show 0 ≤ p + a by omega) (show 0 ≤ q + b by omega)
  simp only [Int.sub_mul, Int.add_mul, Int.mul_add, Int.mul_sub] at e1 e2 e3 e4
  omega
/-- Three rows of the call's own, in three blocks. -/
def Ap (w : World) (base ga ca : Nat) (xs : List Int) (gb cb : Nat) (ys : List Int) (gc cc : Nat) (zs : List Int) : Prop :=
  OwnI w base (some ⟨ga, 0, none⟩) ca xs ∧ OwnI w base (some ⟨gb, 0, none⟩) cb ys ∧ OwnI w base (some ⟨gc, 0, none⟩) cc zs ∧ ga ≠ gb ∧ ga ≠ gc ∧ gb ≠ gc
theorem Ap.rot {w : World} {base ga ca gb cb gc cc : Nat} {xs ys zs : List Int} (h : Ap w base ga ca xs gb cb ys gc cc zs) : Ap w base gb cb ys gc cc zs ga ca xs :=
  ⟨h.2.1, h.2.2.1, h.1, h.2.2.2.2.2, fun e => h.2.2.2.1 e.symm, fun e => h.2.2.2.2.1 e.symm⟩
theorem Ap.next {w w' : World} {base ga ca gb cb gc cc : Nat} {xs ys zs : List Int} (h : Ap w base ga ca xs gb cb ys gc cc zs) (hw : Below w.heap.size w w') : Ap w' base ga ca xs gb cb ys gc cc zs :=
  ⟨h.1.next hw, h.2.1.next hw, h.2.2.1.next hw, h.2.2.2⟩
theorem own_lt {w : World} {base g c : Nat} {xs : List Int} (h : OwnI w base (some ⟨g, 0, none⟩) c xs) : g < w.heap.size := by
  rcases h.form with ⟨e, _⟩ | ⟨k, e, _, hk⟩
  · cases e
  · cases e; exact hk
theorem own_ge {w : World} {base g c : Nat} {xs : List Int} (h : OwnI w base (some ⟨g, 0, none⟩) c xs) : base ≤ g := by
  rcases h.form with ⟨e, _⟩ | ⟨k, e, hk, _⟩
  · cases e
  · cases e; exact hk
theorem Ap.app {w w' : World} {base ga ca gb cb gc cc g5 cap5 n : Nat} {xs ys zs : List Int} {x : Int} (h : Ap w base ga ca xs gb cb ys gc cc zs) (hn : xs.length = n)
    (hown : w'.ownsRow base 3 1 (.slice (some ⟨g5, 0, none⟩) (n + 1) cap5) (n + 1) (ints xs ++ [.int .i64 x])) (hgr : w.grownBy w' (Value.ownBlock (.slice (some ⟨ga, 0, none⟩) n ca)))
    (hat : Value.ownBlock (.slice (some ⟨ga, 0, none⟩) n ca) = some g5 ∨ g5 = w.heap.size) : Ap w' base g5 cap5 (xs ++ [x]) gb cb ys gc cc zs := by
  subst hn
  obtain ⟨h1, h2, h3, e1, e2, e3⟩ := h
  have l2 := own_lt h2
  have l3 := own_lt h3
  have hd : g5 = ga ∨ g5 = w.heap.size := by
    rcases hat with e | e
    · simp [Value.ownBlock] at e; exact .inl e.symm
    · exact .inr e
  refine ⟨OwnI.snoc hown, h2.grown_far hgr (fun g hg e => ?_), h3.grown_far hgr (fun g hg e => ?_), by omega, by omega, e3⟩
  · simp [Value.ownBlock] at e; cases hg; exact e1 e
  · simp [Value.ownBlock] at e; cases hg; exact e2 e
theorem blk_grownI {w w' : World} {k ga n ca : Nat} {o : Obj} (h : w.heap[k]? = some o) (hgr : w.grownBy w' (Value.ownBlock (.slice (some ⟨ga, 0, none⟩) n ca))) (hne : k ≠ ga) : w'.heap[k]? = some o := by
  rw [hgr.block k (blk_lt h) (fun e => by simp [Value.ownBlock] at e; first | exact hne e.symm | exact hne e)]; exact h
theorem bel_grownI {w0 w w' : World} {ga n ca : Nat} (hB : Below w0.heap.size w0 w) (hgr : w.grownBy w' (Value.ownBlock (.slice (some ⟨ga, 0, none⟩) n ca))) (hg : w0.heap.size ≤ ga) : Below w0.heap.size w0 w' :=
  hB.grown hgr hB.size (fun j hj => by simp [Value.ownBlock] at hj; omega)
/-- What a round of the sides keeps. -/
def Sx (w0 : World) (oP oQ oR : Obj) (ga ca : Nat) (xs : List Int) (gb cb : Nat) (ys : List Int) (gc cc : Nat) (zs : List Int) (w : World) : Prop :=
  w.heap[w0.heap.size]? = some oP ∧ w.heap[w0.heap.size + 1]? = some oQ ∧ w.heap[w0.heap.size + 1 + 1]? = some oR ∧ Below w0.heap.size w0 w ∧ Ap w (w0.heap.size + 3) ga ca xs gb cb ys gc cc zs
theorem Sx.rot {w0 w : World} {oP oQ oR : Obj} {ga ca gb cb gc cc : Nat} {xs ys zs : List Int} (h : Sx w0 oP oQ oR ga ca xs gb cb ys gc cc zs w) : Sx w0 oP oQ oR gb cb ys gc cc zs ga ca xs w := ⟨h.1, h.2.1, h.2.2.1, h.2.2.2.1, h.2.2.2.2.rot⟩
theorem Sx.app {w0 w w' : World} {oP oQ oR : Obj} {ga ca gb cb gc cc g5 cap5 n : Nat} {xs ys zs : List Int} {x : Int} {o : Obj} (h : Sx w0 oP oQ oR ga ca xs gb cb ys gc cc zs w) (hn : xs.length = n)
    (hown : w'.ownsRow (w0.heap.size + 3) 3 1 (.slice (some ⟨g5, 0, none⟩) (n + 1) cap5) (n + 1) (ints xs ++ [.int .i64 x])) (hgr : (w.alloc o).grownBy w' (Value.ownBlock (.slice (some ⟨ga, 0, none⟩) n ca)))
    (hat : Value.ownBlock (.slice (some ⟨ga, 0, none⟩) n ca) = some g5 ∨ g5 = (w.alloc o).heap.size) : Sx w0 oP oQ oR g5 cap5 (xs ++ [x]) gb cb ys gc cc zs w' := by
  obtain ⟨h1, h2, h3, h4, h5⟩ := h
  have hg := own_ge h5.1
  exact ⟨blk_grownI (blk_old h1 o) hgr (by omega), blk_grownI (blk_old h2 o) hgr (by omega), blk_grownI (blk_old h3 o) hgr (by omega), bel_grownI (h4.alloc h4.size o) hgr (by omega), (h5.next (bel1 w o)).app hn hown hgr hat⟩
def St (w0 : World) (oP oQ oR : Obj) (T : List Tri) (ga ca gb cb gc cc : Nat) (w : World) : Prop :=
  w.heap[w0.heap.size]? = some oP ∧ w.heap[w0.heap.size + 1]? = some oQ ∧ w.heap[w0.heap.size + 1 + 1]? = some oR ∧ Below w0.heap.size w0 w ∧ Ap w (w0.heap.size + 3) ga ca (losT T) gb cb (hisT T) gc cc (desT T)
theorem St.next {w0 w w' : World} {oP oQ oR : Obj} {T : List Tri} {ga ca gb cb gc cc : Nat} (h : St w0 oP oQ oR T ga ca gb cb gc cc w) (hw : Below w.heap.size w w') : St w0 oP oQ oR T ga ca gb cb gc cc w' :=
  ⟨blk_next h.1 hw, blk_next h.2.1 hw, blk_next h.2.2.1 hw, bel_next h.2.2.2.1 hw, h.2.2.2.2.next hw⟩
theorem losT_len (T : List Tri) : (losT T).length = T.length := by simp [losT]
theorem hisT_len (T : List Tri) : (hisT T).length = T.length := by simp [hisT]
theorem desT_len (T : List Tri) : (desT T).length = T.length := by simp [desT]
theorem losT_at (T : List Tri) (i : Nat) (h : i < (losT T).length) : (losT T)[i] = (T[i]'(by simpa [losT] using h)).1 := by simp [losT]
theorem hisT_at (T : List Tri) (i : Nat) (h : i < (hisT T).length) : (hisT T)[i] = (T[i]'(by simpa [hisT] using h)).2.1 := by simp [hisT]
theorem desT_at (T : List Tri) (i : Nat) (h : i < (desT T).length) : (desT T)[i] = (T[i]'(by simpa [desT] using h)).2.2 := by simp [desT]
theorem losT_snoc (T : List Tri) (x : Tri) : losT (T ++ [x]) = losT T ++ [x.1] := by simp [losT]
theorem hisT_snoc (T : List Tri) (x : Tri) : hisT (T ++ [x]) = hisT T ++ [x.2.1] := by simp [hisT]
theorem desT_snoc (T : List Tri) (x : Tri) : desT (T ++ [x]) = desT T ++ [x.2.2] := by simp [desT]
theorem St.cells {w0 w : World} {oP oQ oR : Obj} {T : List Tri} {ga ca gb cb gc cc : Nat} (h : St w0 oP oQ oR T ga ca gb cb gc cc w) (i : Nat) (hi : i < T.length) :
    w.cell? ⟨ga, i, none⟩ = some (.int .i64 T[i].1) ∧ w.cell? ⟨gb, i, none⟩ = some (.int .i64 T[i].2.1) ∧ w.cell? ⟨gc, i, none⟩ = some (.int .i64 T[i].2.2) := by
  obtain ⟨h1, h2, h3, _⟩ := h.2.2.2.2
  refine ⟨?_, ?_, ?_⟩
  · have := h1.cell i (by rw [losT_len]; exact hi); rwa [losT_at] at this
  · have := h2.cell i (by rw [hisT_len]; exact hi); rwa [hisT_at] at this
  · have := h3.cell i (by rw [desT_len]; exact hi); rwa [desT_at] at this
theorem own_lit {w : World} {g base : Nat} {x : Int} (h : w.heap[g]? = some (.cells #[.int .i64 x] 3 (0, 0))) (hb : base ≤ g) : OwnI w base (some ⟨g, 0, none⟩) 1 [x] :=
  ⟨by simp [ints], .inr ⟨g, 1, #[.int .i64 x], rfl, hb, h, by simp, by simp [maxLen], by simp, by simp [ints]⟩⟩
end Go.Proofs.Ytigndpajpofofaa
