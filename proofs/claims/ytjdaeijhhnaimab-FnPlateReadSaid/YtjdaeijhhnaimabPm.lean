/- What a plate tells of its own marks, and of the marks round a shadow. -/
import Derived.Test.YtjdaeijhhnaimabPq
import Derived.Test.YtjdaeijhhnaimabRot
import Derived.Test.YtjdaeijhhnaimabWbt
namespace Go.Proofs.Ytjdaeijhhnaimab
open Go Go.ChangeShapes Go.WideShapes Go.ChangeAt Go.RowKit
set_option linter.unusedSimpArgs false
set_option linter.unusedVariables false

theorem rl_chain {xs : List VMark} (hg : plGood xs xs.length) : ∀ k (hk : k < xs.length) j (hj : j < k), rlB xs[j].1 xs[j].2.1 xs[k].1 xs[k].2.1 = true := by
  intro k
  induction k with
  | zero => intro hk j hj; omega
  | succ k ih =>
    intro hk j hj
    have h2 := (hg (k + 1) hk).2.2.1 (by omega)
    rw [mkAt_get hk, Nat.add_sub_cancel, mkAt_get (by omega)] at h2
    by_cases e : j = k
    · subst e; exact h2
    · exact rl_trans (ih (by omega) j (by omega)) h2
theorem rl_bef {a b c d : Int} (h : rlB a b c d = true) : Bef a b c d := by
  unfold rlB at h; simp only [Bool.and_eq_true] at h; exact befB_iff.1 h.2
theorem rl_not {a b c d : Int} (h : Bef c d a b) : rlB a b c d = false := by
  cases e : rlB a b c d
  · rfl
  · exact absurd h (bef_asymm (rl_bef e))
theorem rl_self (a b : Int) : rlB a b a b = false := by
  cases e : rlB a b a b
  · rfl
  · exact absurd (rl_bef e) (bef_irrefl _ _)
theorem go_at {xs : List VMark} (hg : plGood xs xs.length) {k : Nat} (hk : k < xs.length) : goB xs[k].1 xs[k].2.1 = true := by
  have := (hg k hk).1; rwa [mkAt_get hk] at this
/-- On a mark it is its text. -/
theorem read_mark {xs : List VMark} (hp : plB xs = true) {k : Nat} (hk : k < xs.length) : readT xs xs[k].1 xs[k].2.1 = xs[k].2.2 := by
  have hg := (plB_iff.1 hp).1
  have hmu : muN xs[k].1 xs[k].2.1 xs = k + 1 := by
    refine muN_is (by omega) ?_ (fun h => rl_chain hg (k + 1) h k (by omega))
    rw [List.all_eq_true]
    intro v hv
    obtain ⟨j, hj, rfl⟩ := List.mem_iff_getElem.1 hv
    have hj2 : j < k + 1 := by simp at hj; omega
    simp only [List.getElem_take]
    unfold okP
    by_cases e : j = k
    · subst e; rw [rl_self]; rfl
    · rw [rl_not (rl_bef (rl_chain hg k hk j (by omega)))]; rfl
  rw [read_idx hp (go_at hg hk) (by omega), hmu, if_neg (by omega), Nat.add_sub_cancel, mkAt_get hk]
/-- The index of the mark that a plate tells. -/
def ixN (a b : Int) (xs : List VMark) : Nat := (if muN a b xs = 0 then xs.length else muN a b xs) - 1
theorem ix_lt {a b : Int} {xs : List VMark} (h0 : 0 < xs.length) : ixN a b xs < xs.length := by
  have := muN_le a b xs
  unfold ixN; split <;> omega
theorem read_ix {a b : Int} {xs : List VMark} (hp : plB xs = true) (hgo : goB a b = true) (h0 : 0 < xs.length) : readT xs a b = (xs[ixN a b xs]'(ix_lt h0)).2.2 := by
  rw [read_idx hp hgo h0]
  exact congrArg (fun v : VMark => v.2.2) (mkAt_get (ix_lt h0))
theorem text_ne {xs : List VMark} (hp : plB xs = true) {k : Nat} (hk : k < xs.length) : 1 ≤ xs[k].2.2.size := by
  have := ((plB_iff.1 hp).1 k hk).2.1
  rw [mkAt_get hk] at this
  unfold tokB at this
  rw [Bool.and_eq_true] at this
  have h := of_decide_eq_true this.2
  omega
theorem text_one {xs : List VMark} (hp : plB xs = true) {j k : Nat} (hj : j < xs.length) (hk : k < xs.length) (e : xs[j].2.2 = xs[k].2.2) : j = k := by
  have hg := (plB_iff.1 hp).1
  rcases Nat.lt_trichotomy j k with h | h | h
  · have := (hg k hk).2.2.2 j h; rw [mkAt_get hj, mkAt_get hk] at this; exact absurd e this
  · exact h
  · have := (hg j hj).2.2.2 k h; rw [mkAt_get hj, mkAt_get hk] at this; exact absurd e.symm this
/-- The mark behind it comes no sooner than the shadow. -/
theorem ix_btw {a b : Int} {xs : List VMark} (hp : plB xs = true) (hgo : goB a b = true) (h0 : 1 < xs.length) (i : Nat) (hi : i < xs.length) (hie : i = ixN a b xs) (n : Nat) (hn : n < xs.length) (hne : n = (i + 1) % xs.length) :
    btR a b xs[i].1 xs[i].2.1 xs[n].1 xs[n].2.1 = true := by
  have hg := (plB_iff.1 hp).1
  have gi := go_at hg hi
  have gn := go_at hg hn
  have hmu := muN_le a b xs
  have hall := take_mu (okP a b) xs
  have hstop := mu_stop (okP a b) xs
  have hnb : ∀ j (hj : j < xs.length), j < muN a b xs → ¬ Bef a b xs[j].1 xs[j].2.1 := by
    intro j hj hjm hb
    have h1 := List.all_eq_true.1 hall xs[j] (List.mem_iff_getElem.2 ⟨j, by rw [List.length_take]; unfold muN at hjm; omega, by simp⟩)
    unfold okP rlB at h1
    rw [hgo, go_at hg hj, befB_iff.2 hb] at h1; simp at h1
  have hyb : ∀ hm : muN a b xs < xs.length, Bef a b xs[muN a b xs].1 xs[muN a b xs].2.1 := by
    intro hm
    have hs : okP a b xs[muN a b xs] = false := mu_stop (okP a b) xs hm
    exact rl_bef (by simpa [okP] using hs)
  unfold btR btB
  rw [ws3_mk hgo gi gn, bt_bef, Bool.true_and, Bool.or_eq_true]
  right
  rw [decide_eq_true_iff]
  have nf := (goB_iff.1 gi).2
  have np := (goB_iff.1 hgo).2
  have nq := (goB_iff.1 gn).2
  refine rot_bef nf np nq ?_
  unfold ixN at hie
  by_cases m0 : muN a b xs = 0
  · rw [if_pos m0] at hie
    have en : n = 0 := by rw [hne, show i + 1 = xs.length by omega, Nat.mod_self]
    subst en
    have hb := hyb (by omega)
    simp only [m0] at hb
    have hc := rl_bef (rl_chain hg i hi 0 (by omega))
    exact .inr (.inr ⟨bef_trans np nq nf hb hc, hc, hb⟩)
  · rw [if_neg m0] at hie
    have hni := hnb i hi (by omega)
    by_cases m1 : muN a b xs < xs.length
    · have en : n = muN a b xs := by rw [hne, Nat.mod_eq_of_lt (by omega)]; omega
      subst en
      have hc := rl_bef (rl_chain hg _ hn i (by omega))
      exact .inr (.inl ⟨hni, bef_asymm hc, hyb m1⟩)
    · have en : n = 0 := by rw [hne, show i + 1 = xs.length by omega, Nat.mod_self]
      subst en
      exact .inl ⟨hni, rl_bef (rl_chain hg i hi 0 (by omega))⟩
theorem iPR_is {a b : Int} {s : ByteArray} (A : Option Addr) (cap : Nat) (xs : List VMark) {n : Nat} (w : World) (hn : xs.length = n) (h : SRow encMark w A xs) (hq : ∀ v ∈ xs, v.2.2.size ≤ maxLen) (hl : n ≤ 2000000) (hs : readT xs a b = s) :
    Calls Try.prog 19 #[.slice A n cap, .agg #[.int .i64 a, .int .i64 b]] w fun e w' => e = .returned (.string s) ∧ Below w.heap.size w w' := by subst hs; exact iPR_any A cap xs a b w hn h hq hl
theorem sPR_is {a b : Int} {s : ByteArray} (A : Option Addr) (cap : Nat) (xs : List VMark) {n : Nat} (w : World) (hn : xs.length = n) (h : SRow encMark w A xs) (hq : ∀ v ∈ xs, v.2.2.size ≤ maxLen) (hl : n ≤ 2000000) (hs : readT xs a b = s) :
    Calls Try.prog 20 #[.slice A n cap, .agg #[.int .i64 a, .int .i64 b]] w fun e w' => e = .returned (.string s) ∧ Below w.heap.size w w' := by subst hs; exact sPR_any A cap xs a b w hn h hq hl
end Go.Proofs.Ytjdaeijhhnaimab
