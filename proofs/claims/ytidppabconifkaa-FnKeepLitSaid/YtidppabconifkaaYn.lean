/- Cities: lanes of cells. -/
import Derived.Test.YtidppabconifkaaYm
namespace Go.Proofs.Ytidppabconifkaa
set_option linter.unusedVariables false
set_option linter.unusedSimpArgs false

/-- The j-th cell in a direction. -/
def lnI (d c e : Int) (j : Nat) : Int := c + stI d e * j
theorem ln_zero (d c e : Int) : lnI d c e 0 = c := by simp [lnI]
theorem ln_succ (d c e : Int) (j : Nat) : lnI d c e (j + 1) = lnI d c e j + stI d e := by
  unfold lnI; rw [Int.natCast_add, Int.mul_add]; simp; omega
theorem ln_in {d c e : Int} (h : InC d c) (h0 : 0 ≤ e) (h1 : e ≤ 3) : ∀ {j : Nat}, j ≤ faN d c e → InC d (lnI d c e j) ∧ faN d (lnI d c e j) e + j = faN d c e ∧ faN d (lnI d c e j) (opI e) = faN d c (opI e) + j
  | 0, _ => by rw [ln_zero]; exact ⟨h, rfl, rfl⟩
  | j + 1, hj => by
    obtain ⟨i1, i2, i3⟩ := ln_in h h0 h1 (j := j) (by omega)
    obtain ⟨s1, s2, s3⟩ := st_in i1 h0 h1 (by omega)
    rw [ln_succ]
    exact ⟨s1, by omega, by omega⟩
theorem ln_next {d c e : Int} (h : InC d c) (h0 : 0 ≤ e) (h1 : e ≤ 3) {j : Nat} (hj : j ≤ faN d c e) : nxI d (lnI d c e j) e = if j < faN d c e then lnI d c e (j + 1) else -1 := by
  obtain ⟨i1, i2, i3⟩ := ln_in h h0 h1 hj
  rw [(nx_far i1 h0 h1).1]
  by_cases c1 : j < faN d c e
  · rw [if_neg (by omega), if_pos c1, ln_succ]
  · rw [if_pos (by omega), if_neg c1]
theorem fa_le {d c e : Int} (h : InC d c) (h0 : 0 ≤ e) (h1 : e ≤ 3) : faN d c e ≤ 5 := (nx_far h h0 h1).2
theorem nx_edge {d c e : Int} (h : InC d c) (h0 : 0 ≤ e) (h1 : e ≤ 3) : nxI d c e = -1 ↔ faN d c e = 0 := by
  rw [(nx_far h h0 h1).1]
  by_cases c1 : faN d c e = 0
  · simp [c1]
  · have := (st_in h h0 h1 (by omega)).1.2.2.1
    rw [if_neg c1]; constructor <;> intro; omega; omega
/-- The cell at the edge towards the sun in a cell's line. -/
def hdI (d c e : Int) : Int := lnI d c e (faN d c e)
theorem hd_in {d c e : Int} (h : InC d c) (h0 : 0 ≤ e) (h1 : e ≤ 3) : InC d (hdI d c e) ∧ faN d (hdI d c e) e = 0 := by
  obtain ⟨i1, i2, _⟩ := ln_in h h0 h1 (j := faN d c e) (Nat.le_refl _)
  exact ⟨i1, by unfold hdI; omega⟩
theorem ln_back (d c e : Int) (h0 : 0 ≤ e) (h1 : e ≤ 3) (j : Nat) : lnI d (lnI d c e j) (opI e) j = c := by
  unfold lnI; rw [st_op h0 h1, Int.neg_mul]; omega
theorem hd_lane {d c e : Int} (h : InC d c) (h0 : 0 ≤ e) (h1 : e ≤ 3) : c = lnI d (hdI d c e) (opI e) (faN d c e) ∧ faN d c e ≤ faN d (hdI d c e) (opI e) := by
  refine ⟨(ln_back d c e h0 h1 _).symm, ?_⟩
  obtain ⟨_, _, i3⟩ := ln_in h h0 h1 (j := faN d c e) (Nat.le_refl _)
  unfold hdI; omega
/-- Away from the edge: the j-th cell, and how far it is from the edge. -/
theorem aw_in {d c e : Int} (h : InC d c) (h0 : 0 ≤ e) (h1 : e ≤ 3) (hf : faN d c e = 0) {j : Nat} (hj : j ≤ faN d c (opI e)) : InC d (lnI d c (opI e) j) ∧ faN d (lnI d c (opI e) j) e = j ∧ hdI d (lnI d c (opI e) j) e = c := by
  obtain ⟨o0, o1, oo⟩ := opI_in h0 h1
  obtain ⟨i1, i2, i3⟩ := ln_in h o0 o1 hj
  rw [oo, hf] at i3
  have e3 : faN d (lnI d c (opI e) j) e = j := by omega
  refine ⟨i1, e3, ?_⟩
  unfold hdI; rw [e3]
  have := ln_back d c (opI e) o0 o1 j
  rwa [oo] at this
theorem sh_edge {d : Int} {xs : List Int} {e f c : Int} (hf : faN d c e = 0) : shI d xs e f c = 0 := by unfold shI; rw [hf]; rfl
theorem sh_next {d : Int} {xs : List Int} {e f c : Int} (h : InC d c) (h0 : 0 ≤ e) (h1 : e ≤ 3) (hf : faN d c e = 0) {j : Nat} (hj : j + 1 ≤ faN d c (opI e)) :
    shI d xs e f (lnI d c (opI e) (j + 1)) = max (max (shI d xs e f (lnI d c (opI e) j)) (tlI xs (lnI d c (opI e) j)) - f) 0 := by
  have a := (aw_in h h0 h1 hf (j := j) (by omega)).2.1
  have b := (aw_in h h0 h1 hf hj).2.1
  have s : lnI d c (opI e) (j + 1) + stI d e = lnI d c (opI e) j := by rw [ln_succ, st_op h0 h1]; omega
  unfold shI; rw [a, b, shd, s]
/-- The row with the light over the first cells of a line. -/
def laL (d : Int) (xs : List Int) (e f c : Int) (L : List Int) : Nat → List Int
  | 0 => L
  | j + 1 => (laL d xs e f c L j).set (lnI d c (opI e) j).toNat (shI d xs e f (lnI d c (opI e) j))
theorem la_len (d : Int) (xs : List Int) (e f c : Int) (L : List Int) : ∀ j, (laL d xs e f c L j).length = L.length
  | 0 => rfl
  | j + 1 => by rw [laL, List.length_set, la_len d xs e f c L j]
theorem la_at {d : Int} {xs : List Int} {e f c : Int} {L : List Int} (h : InC d c) (h0 : 0 ≤ e) (h1 : e ≤ 3) (hf : faN d c e = 0) {i : Nat} (hi : i < L.length) : ∀ (j : Nat) (hj : j ≤ faN d c (opI e) + 1) (hq : i < (laL d xs e f c L j).length), (laL d xs e f c L j)[i] = if ∃ m : Nat, m < j ∧ lnI d c (opI e) m = (i : Int) then shI d xs e f (i : Nat) else L[i]
  | 0, _, _ => by simp [laL]
  | j + 1, hj, hq => by
    have i1 := (aw_in h h0 h1 hf (j := j) (by omega)).1.2.2.1
    have ih := la_at (xs := xs) (f := f) h h0 h1 hf hi j (by omega) (by rw [la_len]; exact hi)
    simp only [laL]
    rw [List.getElem_set]
    by_cases c1 : lnI d c (opI e) j = (i : Int)
    · rw [if_pos (by omega), if_pos ⟨j, by omega, c1⟩, c1]
    · rw [if_neg (by omega), ih]
      by_cases c2 : ∃ m : Nat, m < j ∧ lnI d c (opI e) m = (i : Int)
      · obtain ⟨m, a, b⟩ := c2
        rw [if_pos ⟨m, a, b⟩, if_pos ⟨m, by omega, b⟩]
      · rw [if_neg c2, if_neg]
        rintro ⟨m, a, b⟩
        by_cases c3 : m = j
        · rw [c3] at b; exact c1 b
        · exact c2 ⟨m, by omega, b⟩
def sdL (d : Int) (xs : List Int) (e f : Int) (n k : Nat) : List Int := mkI (fun i => if hdI d (i : Nat) e < (k : Int) then shI d xs e f (i : Nat) else 0) n
theorem mk_len (g : Nat → Int) (n : Nat) : (mkI g n).length = n := by simp [mkI]
theorem mk_at (g : Nat → Int) (n i : Nat) (h : i < (mkI g n).length) : (mkI g n)[i] = g i := by simp [mkI]
theorem sd_len (d : Int) (xs : List Int) (e f : Int) (n k : Nat) : (sdL d xs e f n k).length = n := mk_len _ _
theorem sd_at (d : Int) (xs : List Int) (e f : Int) (n k i : Nat) (h : i < (sdL d xs e f n k).length) : (sdL d xs e f n k)[i] = if hdI d (i : Nat) e < (k : Int) then shI d xs e f (i : Nat) else 0 := mk_at _ _ _ _
theorem sd_zero {d : Int} {xs : List Int} {e f : Int} {n : Nat} (hn : ∀ i : Nat, i < n → InC d i) (h0 : 0 ≤ e) (h1 : e ≤ 3) : sdL d xs e f n 0 = List.replicate n 0 := by
  refine List.ext_getElem (by rw [sd_len]; simp) fun i a b => ?_
  rw [sd_at, List.getElem_replicate, if_neg]
  rw [sd_len] at a
  have := (hd_in (hn i a) h0 h1).1.2.2.1
  omega
theorem sd_end {d : Int} {xs : List Int} {e f : Int} {n : Nat} (hn : ∀ i : Nat, i < n → InC d i) (hd : (n : Int) = d * d) (h0 : 0 ≤ e) (h1 : e ≤ 3) : sdL d xs e f n n = mkI (fun i => shI d xs e f (i : Nat)) n := by
  refine List.ext_getElem (by rw [sd_len, mk_len]) fun i a b => ?_
  rw [sd_at, mk_at, if_pos]
  rw [sd_len] at a
  have := (hd_in (hn i a) h0 h1).1.2.2.2
  omega
theorem sd_skip {d : Int} {xs : List Int} {e f : Int} {n k : Nat} (hn : ∀ i : Nat, i < n → InC d i) (h0 : 0 ≤ e) (h1 : e ≤ 3) (hk : ¬ faN d (k : Int) e = 0) : sdL d xs e f n (k + 1) = sdL d xs e f n k := by
  refine List.ext_getElem (by rw [sd_len, sd_len]) fun i a b => ?_
  rw [sd_at, sd_at]
  rw [sd_len] at a
  have h2 := (hd_in (hn i a) h0 h1).2
  have hne : hdI d (i : Nat) e ≠ (k : Int) := fun e9 => by rw [e9] at h2; exact hk h2
  by_cases c1 : hdI d (i : Nat) e < (k : Int)
  · rw [if_pos (by omega), if_pos c1]
  · rw [if_neg (by omega), if_neg c1]
theorem sd_line {d : Int} {xs : List Int} {e f : Int} {n k : Nat} (hn : ∀ i : Nat, i < n → InC d i) (hk : k < n) (h0 : 0 ≤ e) (h1 : e ≤ 3) (hf : faN d (k : Int) e = 0) : laL d xs e f k (sdL d xs e f n k) (faN d (k : Int) (opI e) + 1) = sdL d xs e f n (k + 1) := by
  refine List.ext_getElem (by rw [la_len, sd_len, sd_len]) fun i a b => ?_
  have hi : i < n := by rw [sd_len] at b; exact b
  rw [la_at (hn k hk) h0 h1 hf (by rw [sd_len]; exact hi) _ (Nat.le_refl _)]
  rw [sd_at, sd_at]
  by_cases c1 : ∃ m : Nat, m < faN d (k : Int) (opI e) + 1 ∧ lnI d (k : Int) (opI e) m = (i : Int)
  · rw [if_pos c1]
    obtain ⟨m, a1, b1⟩ := c1
    have := (aw_in (hn k hk) h0 h1 hf (j := m) (by omega)).2.2
    rw [b1] at this
    rw [if_pos (by omega)]
  · rw [if_neg c1]
    have hne : hdI d (i : Nat) e ≠ (k : Int) := fun e9 => by
      obtain ⟨q1, q2⟩ := hd_lane (hn i hi) h0 h1
      rw [e9] at q1 q2
      exact c1 ⟨_, by omega, q1.symm⟩
    by_cases c2 : hdI d (i : Nat) e < (k : Int)
    · rw [if_pos c2, if_pos (by omega)]
    · rw [if_neg c2, if_neg (by omega)]
-- the rays of the model
theorem rg_at (xs : List Int) (d c e f : Int) (j : Nat) : rgI xs (stI d e) f c j = tlI xs (lnI d c e j) - f * j := rfl
theorem sh_mx {d : Int} {xs : List Int} {e f : Int} (hf : 0 ≤ f) (c : Int) : shI d xs e f c = mxI (rgI xs (stI d e) f c) (faN d c e) := by unfold shI; exact shd_mx xs hf _ _
theorem mx_rng {d : Int} {xs : List Int} (h : cvB d xs = true) {s f c : Int} (hf : 0 ≤ f) : ∀ j, 0 ≤ mxI (rgI xs s f c) j ∧ mxI (rgI xs s f c) j ≤ 20
  | 0 => by simp [mxI]
  | j + 1 => by
    have i := mx_rng h hf (s := s) (f := f) (c := c) j
    have t := tlI_rng h (c + s * ((j + 1 : Nat) : Int))
    have m : 0 ≤ f * ((j + 1 : Nat) : Int) := Int.mul_nonneg hf (by omega)
    have r : rgI xs s f c (j + 1) = tlI xs (c + s * ((j + 1 : Nat) : Int)) - f * ((j + 1 : Nat) : Int) := rfl
    rw [mxI, r]; omega
/-- Whether one of the first cells in the direction stands higher than the light. -/
def dnB (xs : List Int) (s f c t : Int) (j : Nat) : Bool := decide (t < mxI (rgI xs s f c) j)
theorem cv_cells {d : Int} {xs : List Int} (h : cvB d xs = true) {n : Nat} (hn : xs.length = n) : (∀ i : Nat, i < n → InC d i) ∧ (n : Int) = d * d := by
  refine ⟨fun i hi => cv_in h (by omega) (by omega), ?_⟩
  have := (cvB_iff.1 h).2.1; rw [hn] at this; exact this
theorem in_lt {d c : Int} {n : Nat} (hd : (n : Int) = d * d) (h : InC d c) : c < n := by have := h.2.2.2; omega
end Go.Proofs.Ytidppabconifkaa
