/- The program's PlateRead. -/
import Derived.Test.YtidppabconifkabPu
import Derived.Test.YtidppabconifkabPr
namespace Go.Proofs.Ytidppabconifkab
open Go Go.ChangeShapes Go.WideShapes Go.ChangeAt Go.RowKit
set_option linter.unusedSimpArgs false
set_option linter.unusedVariables false

theorem rl_trans {a b c d e f : Int} (h1 : rlB a b c d = true) (h2 : rlB c d e f = true) : rlB a b e f = true := by
  unfold rlB at *
  simp only [Bool.and_eq_true] at *
  have g1 := goB_iff.1 h1.1.1; have g2 := goB_iff.1 h1.1.2; have g3 := goB_iff.1 h2.1.2
  exact ⟨⟨h1.1.1, h2.1.2⟩, befB_iff.2 (bef_trans g1.2 g2.2 g3.2 (befB_iff.1 h1.2) (befB_iff.1 h2.2))⟩
/-- Behind a mark that the way comes before, it comes before all. -/
theorem rl_up {a b : Int} {xs : List VMark} (hg : plGood xs xs.length) {k : Nat} (hk : k < xs.length) (h : rlB a b xs[k].1 xs[k].2.1 = true) : ∀ j, k ≤ j → ∀ hj : j < xs.length, rlB a b xs[j].1 xs[j].2.1 = true := by
  intro j hkj
  induction j with
  | zero => intro hj; have : k = 0 := by omega
            subst this; exact h
  | succ j ih =>
    intro hj
    by_cases e : k = j + 1
    · subst e; exact h
    · have h1 := ih (by omega) (by omega)
      have h2 := (hg (j + 1) hj).2.2.1 (by omega)
      rw [mkAt_get hj, Nat.add_sub_cancel, mkAt_get (by omega)] at h2
      exact rl_trans h1 h2
theorem pass_keep {a b : Int} {o : ByteArray} : ∀ ys : List VMark, (∀ v ∈ ys, rlB a b v.1 v.2.1 = true) → passL a b o ys = o
  | [], _ => rfl
  | v :: ys, h => by
    unfold passL
    rw [List.foldl_cons, if_pos (h v (by simp))]
    exact pass_keep ys (fun u hu => h u (by simp [hu]))
theorem pass_all {a b : Int} {o : ByteArray} {xs : List VMark} : ∀ k, k ≤ xs.length → (xs.take k).all (okP a b) = true → passL a b o (xs.take k) = if k = 0 then o else (mkAt xs (k - 1)).2.2
  | 0, _, _ => rfl
  | k + 1, hk, ha => by
    have hk' : k < xs.length := hk
    have hr : rlB a b xs[k].1 xs[k].2.1 = false := by
      rw [List.take_succ_eq_append_getElem hk', List.all_append] at ha
      simp [okP] at ha
      exact ha.2
    rw [passL_next hk', if_neg (by rw [hr]; simp), if_neg (by omega), Nat.add_sub_cancel, mkAt_get hk']
theorem take_mu {α : Type} (p : α → Bool) : ∀ xs : List α, (xs.take (xs.takeWhile p).length).all p = true
  | [] => rfl
  | x :: xs => by
    rw [List.takeWhile_cons]
    split
    · rename_i h; simp [h]; exact fun y hy => List.all_eq_true.1 (take_mu p xs) y hy
    · simp
theorem mu_stop {α : Type} (p : α → Bool) : ∀ (xs : List α) (h : (xs.takeWhile p).length < xs.length), p (xs[(xs.takeWhile p).length]) = false
  | [], h => by simp at h
  | x :: xs, h => by
    by_cases e : p x = true
    · have e2 : ((x :: xs).takeWhile p).length = (xs.takeWhile p).length + 1 := by rw [List.takeWhile_cons, if_pos e]; rfl
      have h2 : (xs.takeWhile p).length < xs.length := by rw [e2] at h; simpa using h
      have := mu_stop p xs h2
      simp only [e2, List.getElem_cons_succ]; exact this
    · have e2 : ((x :: xs).takeWhile p).length = 0 := by rw [List.takeWhile_cons, if_neg e]; rfl
      simp only [e2, List.getElem_cons_zero]; simpa using e
/-- On a valid plate: the last mark that was passed, or the last of all. -/
theorem pass_mu {a b : Int} {o : ByteArray} {xs : List VMark} (hg : plGood xs xs.length) : passL a b o xs = if muN a b xs = 0 then o else (mkAt xs (muN a b xs - 1)).2.2 := by
  have h1 : passL a b o xs = passL a b (passL a b o (xs.take (muN a b xs))) (xs.drop (muN a b xs)) := by
    conv => lhs; rw [← List.take_append_drop (muN a b xs) xs]
    unfold passL; rw [List.foldl_append]
  rw [h1, pass_keep]
  · exact pass_all _ (muN_le a b xs) (take_mu _ xs)
  · intro v hv
    obtain ⟨i, hi, rfl⟩ := List.mem_iff_getElem.1 hv
    rw [List.getElem_drop]
    have hi2 : muN a b xs + i < xs.length := by simp at hi; omega
    have hlt : muN a b xs < xs.length := by omega
    have hs : okP a b xs[muN a b xs] = false := mu_stop (okP a b) xs hlt
    exact rl_up hg hlt (by simpa [okP] using hs) _ (by omega) hi2
/-- What the program tells: the index of the mark. -/
theorem read_idx {a b : Int} {xs : List VMark} (hp : plB xs = true) (hgo : goB a b = true) (h0 : 0 < xs.length) : readT xs a b = (mkAt xs ((if muN a b xs = 0 then xs.length else muN a b xs) - 1)).2.2 := by
  unfold readT
  rw [if_pos ⟨hp, hgo, h0⟩, pass_mu (plB_iff.1 hp).1]
  split <;> rfl
end Go.Proofs.Ytidppabconifkab
