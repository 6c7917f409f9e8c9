/- Sorting by insertion, over any order of indices: plain mathematics. -/
import Derived.Test.YtaikodebmkjafaaHelp
namespace Go.Proofs.Ytaikodebmkjafaa
set_option linter.unusedVariables false
set_option linter.unusedSimpArgs false
/-- A strict order of the indices below n. -/
structure Tot (n : Nat) (P : Nat → Nat → Prop) : Prop where
  asymm : ∀ i j, P i j → ¬ P j i
  trans : ∀ i j k, i < n → j < n → k < n → P i j → P j k → P i k
def IsOrd (n : Nat) (P : Nat → Nat → Prop) (l : List Nat) : Prop := l.Pairwise P ∧ ∀ i, i ∈ l ↔ i < n
def InsP (P : Nat → Nat → Prop) (i : Nat) (a b : List Nat) : Prop := (a ++ b).Pairwise P ∧ (∀ x, x ∈ a ++ b ↔ x < i) ∧ ∀ x ∈ b, P i x
def SrtP (P : Nat → Nat → Prop) (i : Nat) (l : List Nat) : Prop := l.length = i ∧ l.Pairwise P ∧ ∀ x, x ∈ l ↔ x < i
theorem pwU {α : Type} {r : α → α → Prop} (asymm : ∀ a b, r a b → ¬ r b a) : ∀ l m : List α, l.Pairwise r → m.Pairwise r → (∀ x, x ∈ l ↔ x ∈ m) → l = m
  | [], m, _, _, h => by
    cases m with
    | nil => rfl
    | cons y m => have := (h y).2 (by simp); simp at this
  | x :: l, m, hl, hm, h => by
    cases m with
    | nil => have := (h x).1 (by simp); simp at this
    | cons y m =>
      rw [List.pairwise_cons] at hl hm
      have hxy : x = y := by
        apply Classical.byContradiction
        intro hne
        have h1 : x ∈ m := by
          have := (h x).1 (by simp)
          simp at this
          exact this.resolve_left hne
        have h2 : y ∈ l := by
          have := (h y).2 (by simp)
          simp at this
          exact this.resolve_left (fun e => hne e.symm)
        exact asymm x y (hl.1 y h2) (hm.1 x h1)
      subst hxy
      congr 1
      refine pwU asymm l m hl.2 hm.2 fun z => ?_
      have irr : ∀ a, ¬ r a a := fun a h => asymm a a h h
      constructor
      · intro hz
        have := (h z).1 (by simp [hz])
        simp at this
        rcases this with rfl | this
        · exact absurd (hl.1 z hz) (irr z)
        · exact this
      · intro hz
        have := (h z).2 (by simp [hz])
        simp at this
        rcases this with rfl | this
        · exact absurd (hm.1 z hz) (irr z)
        · exact this
theorem IsOrd.unique {n : Nat} {P : Nat → Nat → Prop} (hT : Tot n P) {l m : List Nat} (h : IsOrd n P l) (k : IsOrd n P m) : l = m :=
  pwU hT.asymm l m h.1 k.1 fun i => (h.2 i).trans (k.2 i).symm
theorem IsOrd.nodup {n : Nat} {P : Nat → Nat → Prop} (hT : Tot n P) {l : List Nat} (h : IsOrd n P l) : l.Nodup :=
  h.1.imp fun hab e => by subst e; exact hT.asymm _ _ hab hab
theorem SrtP.one (P : Nat → Nat → Prop) : SrtP P 1 [0] := ⟨rfl, by simp, fun x => by simp⟩
theorem SrtP.ins {P : Nat → Nat → Prop} {i : Nat} {l : List Nat} (h : SrtP P i l) : InsP P i l [] := ⟨by simpa using h.2.1, by simpa using h.2.2, by simp⟩
theorem InsP.len {P : Nat → Nat → Prop} {i : Nat} {a b : List Nat} (h : InsP P i a b) : ∀ x ∈ a, x < i := fun x hx => (h.2.1 x).1 (by simp [hx])
theorem InsP.step {P : Nat → Nat → Prop} {i x : Nat} {a b : List Nat} (h : InsP P i (a ++ [x]) b) (hp : P i x) : InsP P i a (x :: b) := by
  obtain ⟨h1, h2, h3⟩ := h
  refine ⟨by simpa using h1, by simpa using h2, fun y hy => ?_⟩
  simp at hy
  rcases hy with rfl | hy
  · exact hp
  · exact h3 y hy
theorem InsP.done {n : Nat} {P : Nat → Nat → Prop} (hT : Tot n P) {i : Nat} (hi : i < n) {a b : List Nat} (h : InsP P i a b) (ha : ∀ x, a.getLast? = some x → P x i) : (a ++ i :: b).Pairwise P ∧ ∀ x, x ∈ a ++ i :: b ↔ x < i + 1 := by
  obtain ⟨h1, h2, h3⟩ := h
  rw [List.pairwise_append] at h1
  obtain ⟨p1, p2, p3⟩ := h1
  have hlast : ∀ y ∈ a, P y i := by
    intro y hy
    rcases List.eq_nil_or_concat a with rfl | ⟨a', z, rfl⟩
    · simp at hy
    · have hz := ha z (by simp)
      simp at hy
      rcases hy with hy | rfl
      · rw [List.concat_eq_append, List.pairwise_append] at p1
        have hyz := p1.2.2 y hy z (by simp)
        have b1 := (h2 y).1 (by simp [hy])
        have b2 := (h2 z).1 (by simp)
        exact hT.trans _ _ _ (by omega) (by omega) hi hyz hz
      · exact hz
  constructor
  · rw [List.pairwise_append, List.pairwise_cons]
    refine ⟨p1, ⟨h3, p2⟩, fun y hy z hz => ?_⟩
    simp at hz
    rcases hz with rfl | hz
    · exact hlast y hy
    · exact p3 y hy z hz
  · intro x
    have hx := h2 x
    simp only [List.mem_append, List.mem_cons] at hx ⊢
    constructor
    · rintro (k | rfl | k)
      · have := hx.1 (.inl k); omega
      · omega
      · have := hx.1 (.inr k); omega
    · intro k
      by_cases e : x = i
      · exact .inr (.inl e)
      · rcases hx.2 (by omega) with k | k
        · exact .inl k
        · exact .inr (.inr k)
theorem SrtP.isOrd {P : Nat → Nat → Prop} {n : Nat} {l : List Nat} (h : SrtP P n l) : IsOrd n P l := ⟨h.2.1, h.2.2⟩
theorem isOrd_range {P : Nat → Nat → Prop} {n : Nat} (h : n ≤ 1) : IsOrd n P (List.range n) := by
  refine ⟨?_, fun i => by simp⟩
  have : n = 0 ∨ n = 1 := by omega
  rcases this with rfl | rfl
  · exact .nil
  · simp
/-- By keys, those with the same in their order. -/
def ky (ks : List Int) (i : Nat) : Int := ks.getD i 0
def PreK (ks : List Int) (i j : Nat) : Prop := ky ks i < ky ks j ∨ (ky ks i = ky ks j ∧ i < j)
theorem preK_tot (ks : List Int) (n : Nat) : Tot n (PreK ks) := ⟨fun i j h k => by unfold PreK at h k; omega, fun i j k _ _ _ h1 h2 => by unfold PreK at *; omega⟩
/-- The order itself. -/
noncomputable def ordL (n : Nat) (P : Nat → Nat → Prop) : List Nat := by
  classical
  exact if h : ∃ l, IsOrd n P l then Classical.choose h else []
theorem ordL_is {n : Nat} {P : Nat → Nat → Prop} (hT : Tot n P) {l : List Nat} (h : IsOrd n P l) : ordL n P = l := by
  have hx : ∃ l, IsOrd n P l := ⟨l, h⟩
  unfold ordL
  rw [dif_pos hx]
  exact (Classical.choose_spec hx).unique hT h
/-- Numbers as a list of integers. -/
def natL (l : List Nat) : List Int := l.map (fun i : Nat => (i : Int))
theorem natL_len (l : List Nat) : (natL l).length = l.length := by simp [natL]
theorem natL_at (l : List Nat) (i : Nat) (h : i < (natL l).length) : (natL l)[i] = ((l[i]'(by simpa [natL] using h) : Nat) : Int) := by simp [natL]
theorem range_stepP {i n : Nat} (h : i < n) : List.range' i (n - i) = i :: List.range' (i + 1) (n - (i + 1)) := by
  rw [show n - i = (n - (i + 1)) + 1 by omega, List.range'_succ]
theorem swap_listP (a b r : List Nat) (x i : Nat) : ((natL (a ++ [x] ++ i :: b ++ r)).set (a.length + 1) (x : Int)).set a.length (i : Int) = natL (a ++ i :: (x :: b) ++ r) := by
  simp [natL, List.set_append]
/-- A list without doubles within another one is no longer. -/
theorem nodup_len {α : Type} [DecidableEq α] : ∀ (l m : List α), l.Nodup → (∀ x ∈ l, x ∈ m) → l.length ≤ m.length
  | [], m, _, _ => by simp
  | x :: l, m, hd, hs => by
    rw [List.nodup_cons] at hd
    have h1 := nodup_len l (m.erase x) hd.2 (fun y hy => (List.mem_erase_of_ne (fun e => hd.1 (by rw [← e]; exact hy))).2 (hs y (by simp [hy])))
    have h2 := List.length_erase_of_mem (hs x (by simp))
    have h3 := List.length_pos_of_mem (hs x (by simp))
    simp only [List.length_cons]; omega
theorem IsOrd.length {n : Nat} {P : Nat → Nat → Prop} (hT : Tot n P) {l : List Nat} (h : IsOrd n P l) : l.length = n := by
  have h1 := nodup_len l (List.range n) (h.nodup hT) (fun x hx => by simpa using (h.2 x).1 hx)
  have h2 := nodup_len (List.range n) l List.nodup_range (fun x hx => (h.2 x).2 (by simpa using hx))
  rw [List.length_range] at h1 h2; omega
end Go.Proofs.Ytaikodebmkjafaa
