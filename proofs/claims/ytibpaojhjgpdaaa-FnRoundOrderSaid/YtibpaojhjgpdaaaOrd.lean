/- The order of ways round, with equals in their order: plain mathematics of RoundOrder. -/
import Derived.Test.YtibpaojhjgpdaaaWay
namespace Go.Proofs.Ytibpaojhjgpdaaa
set_option linter.unusedVariables false

/-- A list in which each comes before each behind it is told by its elements. -/
theorem pw_unique {α : Type} {r : α → α → Prop} (asymm : ∀ a b, r a b → ¬ r b a) : ∀ l m : List α, l.Pairwise r → m.Pairwise r → (∀ x, x ∈ l ↔ x ∈ m) → l = m
  | [], m, _, _, h => by
    cases m with
    | nil => rfl
    | cons y m => have := (h y).2 (by simp); simp at this
  | x :: l, m, hl, hm, h => by
    cases m with
    | nil => have := (h x).1 (by simp); simp at this
    | cons y m =>
      rw [List.pairwise_cons] at hl hm
      have hxy : x = y := by
        apply Classical.byContradiction
        intro hne
        have h1 : x ∈ m := by
          have := (h x).1 (by simp)
          simp at this
          exact this.resolve_left hne
        have h2 : y ∈ l := by
          have := (h y).2 (by simp)
          simp at this
          exact this.resolve_left (fun e => hne e.symm)
        exact asymm x y (hl.1 y h2) (hm.1 x h1)
      subst hxy
      congr 1
      refine pw_unique asymm l m hl.2 hm.2 fun z => ?_
      have irr : ∀ a, ¬ r a a := fun a h => asymm a a h h
      constructor
      · intro hz
        have := (h z).1 (by simp [hz])
        simp at this
        rcases this with rfl | this
        · exact absurd (hl.1 z hz) (irr z)
        · exact this
      · intro hz
        have := (h z).2 (by simp [hz])
        simp at this
        rcases this with rfl | this
        · exact absurd (hm.1 z hz) (irr z)
        · exact this
/-- Ways by their numbers; a number beyond the list has the way of nothing. -/
def wy (xs : List (Int × Int)) (i : Nat) : Int × Int := xs.getD i (0, 0)
/-- i comes before j, or neither before the other one and i is less. -/
def Pre (xs : List (Int × Int)) (i j : Nat) : Prop := Bef (wy xs i).1 (wy xs i).2 (wy xs j).1 (wy xs j).2 ∨ (¬ Bef (wy xs j).1 (wy xs j).2 (wy xs i).1 (wy xs i).2 ∧ i < j)
theorem pre_asymm (xs : List (Int × Int)) (i j : Nat) (h : Pre xs i j) : ¬ Pre xs j i := by
  unfold Pre at *
  rintro (k | ⟨k, l⟩)
  · rcases h with h | ⟨h, _⟩
    · exact bef_asymm h k
    · exact h k
  · rcases h with h | ⟨h, l'⟩
    · exact k h
    · omega
/-- All ways of the list go somewhere. -/
def AllGo (xs : List (Int × Int)) : Prop := ∀ i, i < xs.length → ¬ ((wy xs i).1 = 0 ∧ (wy xs i).2 = 0)
theorem pre_trans {xs : List (Int × Int)} (hg : AllGo xs) {i j k : Nat} (hi : i < xs.length) (hj : j < xs.length) (hk : k < xs.length) (h1 : Pre xs i j) (h2 : Pre xs j k) : Pre xs i k := by
  have gi := hg i hi; have gj := hg j hj; have gk := hg k hk
  unfold Pre at *
  have n1 : ¬ Bef (wy xs j).1 (wy xs j).2 (wy xs i).1 (wy xs i).2 := by
    rcases h1 with h1 | h1
    · exact bef_asymm h1
    · exact h1.1
  have n2 : ¬ Bef (wy xs k).1 (wy xs k).2 (wy xs j).1 (wy xs j).2 := by
    rcases h2 with h2 | h2
    · exact bef_asymm h2
    · exact h2.1
  have n3 := nbef_trans gi gj gk n1 n2
  by_cases b : Bef (wy xs i).1 (wy xs i).2 (wy xs k).1 (wy xs k).2
  · exact .inl b
  · right
    refine ⟨n3, ?_⟩
    have b1 := nbef_trans gj gk gi n2 b
    have b2 := nbef_trans gk gi gj b n1
    have l1 : i < j := by
      rcases h1 with h1 | h1
      · exact absurd h1 b1
      · exact h1.2
    have l2 : j < k := by
      rcases h2 with h2 | h2
      · exact absurd h2 b2
      · exact h2.2
    omega
theorem pre_total {xs : List (Int × Int)} {i j : Nat} (hne : i ≠ j) : Pre xs i j ∨ Pre xs j i := by
  unfold Pre
  by_cases h : Bef (wy xs i).1 (wy xs i).2 (wy xs j).1 (wy xs j).2
  · exact .inl (.inl h)
  · by_cases k : Bef (wy xs j).1 (wy xs j).2 (wy xs i).1 (wy xs i).2
    · exact .inr (.inl k)
    · rcases Nat.lt_or_gt_of_ne hne with l | l
      · exact .inl (.inr ⟨k, l⟩)
      · exact .inr (.inr ⟨h, l⟩)
/-- An order of all indices. -/
def IsOrder (xs : List (Int × Int)) (l : List Nat) : Prop := l.Pairwise (Pre xs) ∧ ∀ i, i ∈ l ↔ i < xs.length
theorem IsOrder.unique {xs : List (Int × Int)} {l m : List Nat} (h : IsOrder xs l) (k : IsOrder xs m) : l = m :=
  pw_unique (pre_asymm xs) l m h.1 k.1 fun i => (h.2 i).trans (k.2 i).symm
/-- Numbers below n, none twice, as many as n: then all. -/
theorem all_of_len : ∀ (n : Nat) (l : List Nat), l.Nodup → (∀ i ∈ l, i < n) → n ≤ l.length → ∀ i, i < n → i ∈ l
  | 0, l, _, _, _, i, hi => by omega
  | n + 1, l, hd, hb, hl, i, hi => by
    have hne : l ≠ [] := by intro e; subst e; simp at hl
    by_cases hn : n ∈ l
    · have hd' := hd.erase n
      have hlen := List.length_erase_of_mem hn
      have hb' : ∀ j ∈ l.erase n, j < n := fun j hj => by
        have h1 := hb j (List.mem_of_mem_erase hj)
        have h2 : j ≠ n := fun e => by subst e; exact (List.Nodup.not_mem_erase hd) hj
        omega
      by_cases e : i = n
      · subst e; exact hn
      · exact List.mem_of_mem_erase (all_of_len n (l.erase n) hd' hb' (by omega) i (by omega))
    · -- none is n: then one too many
      exfalso
      have hb' : ∀ j ∈ l, j < n := fun j hj => by
        have h1 := hb j hj
        have h2 : j ≠ n := fun e => hn (by rw [← e]; exact hj)
        omega
      cases l with
      | nil => exact hne rfl
      | cons x r =>
        rw [List.nodup_cons] at hd
        have := all_of_len n r hd.2 (fun j hj => hb' j (by simp [hj])) (by simp at hl; omega) x (hb' x (by simp))
        exact hd.1 this
theorem pw_nodup {xs : List (Int × Int)} {l : List Nat} (h : l.Pairwise (Pre xs)) : l.Nodup :=
  h.imp fun hab e => by subst e; exact pre_asymm xs _ _ hab hab
/-- The selection, up to k of all: the chosen ones in order, each before all that are left. -/
def Chosen (xs : List (Int × Int)) (l : List Nat) : Prop := l.Pairwise (Pre xs) ∧ (∀ i ∈ l, i < xs.length) ∧ ∀ i ∈ l, ∀ j, j < xs.length → j ∉ l → Pre xs i j
theorem Chosen.nil (xs : List (Int × Int)) : Chosen xs [] := ⟨.nil, by simp, by simp⟩
/-- The best of those below j that are left. -/
def Best (xs : List (Int × Int)) (l : List Nat) (j b : Nat) : Prop := b < j ∧ b ∉ l ∧ ∀ i, i < j → i ∉ l → i = b ∨ Pre xs b i
theorem Chosen.snoc {xs : List (Int × Int)} {l : List Nat} {b : Nat} (h : Chosen xs l) (hb : Best xs l xs.length b) : Chosen xs (l ++ [b]) := by
  obtain ⟨h1, h2, h3⟩ := h
  obtain ⟨b1, b2, b3⟩ := hb
  refine ⟨?_, ?_, ?_⟩
  · rw [List.pairwise_append]
    exact ⟨h1, by simp, fun i hi j hj => by simp at hj; subst hj; exact h3 i hi _ b1 b2⟩
  · intro i hi
    simp at hi
    rcases hi with hi | rfl
    · exact h2 i hi
    · exact b1
  · intro i hi j hj hn
    simp at hi hn
    rcases hi with hi | rfl
    · exact h3 i hi j hj hn.1
    · rcases b3 j hj hn.1 with e | e
      · exact absurd e hn.2
      · exact e
theorem Chosen.done {xs : List (Int × Int)} {l : List Nat} (h : Chosen xs l) (hl : l.length = xs.length) : IsOrder xs l :=
  ⟨h.1, fun i => ⟨h.2.1 i, all_of_len xs.length l (pw_nodup h.1) h.2.1 (by omega) i⟩⟩
/-- As long as fewer are chosen than there are, one is left. -/
theorem Chosen.left {xs : List (Int × Int)} {l : List Nat} (h : Chosen xs l) (hl : l.length < xs.length) : ∃ j, j < xs.length ∧ j ∉ l := by
  apply Classical.byContradiction
  intro hn
  have hall : ∀ j, j < xs.length → j ∈ l := fun j hj => Classical.byContradiction fun k => hn ⟨j, hj, k⟩
  have hs : ∀ (n : Nat) (m : List Nat), m.Nodup → (∀ j, j < n → j ∈ m) → n ≤ m.length := by
    intro n
    induction n with
    | zero => intro m _ _; omega
    | succ n ih =>
      intro m hd hm
      have h1 := ih (m.erase n) (hd.erase n) (fun j hj => (List.mem_erase_of_ne (by omega)).2 (hm j (by omega)))
      have h2 := List.length_erase_of_mem (hm n (by omega))
      have h3 := List.length_pos_of_mem (hm n (by omega))
      omega
  have := hs xs.length l (pw_nodup h.1) hall
  omega
theorem Best.keep {xs : List (Int × Int)} {l : List Nat} {j b : Nat} (h : Best xs l j b) (hj : j ∈ l ∨ Pre xs b j) : Best xs l (j + 1) b := by
  obtain ⟨b1, b2, b3⟩ := h
  refine ⟨by omega, b2, fun i hi hn => ?_⟩
  by_cases e : i = j
  · subst e
    rcases hj with hj | hj
    · exact absurd hj hn
    · exact .inr hj
  · exact b3 i (by omega) hn
theorem Best.swap {xs : List (Int × Int)} (hg : AllGo xs) {l : List Nat} {j b : Nat} (h : Best xs l j b) (hj : j < xs.length) (hn : j ∉ l) (hp : Pre xs j b) : Best xs l (j + 1) j := by
  obtain ⟨b1, b2, b3⟩ := h
  refine ⟨by omega, hn, fun i hi hi2 => ?_⟩
  by_cases e : i = j
  · exact .inl e
  · right
    rcases b3 i (by omega) hi2 with rfl | h
    · exact hp
    · exact pre_trans hg hj (by omega) (by omega) hp h
theorem Best.first {xs : List (Int × Int)} {l : List Nat} {j : Nat} (hall : ∀ i, i < j → i ∈ l) (hn : j ∉ l) : Best xs l (j + 1) j :=
  ⟨by omega, hn, fun i hi hi2 => by
    by_cases e : i = j
    · exact .inl e
    · exact absurd (hall i (by omega)) hi2⟩
/-- The test of the model: comes before the best one so far. -/
theorem pre_of_bef {xs : List (Int × Int)} {i j : Nat} (h : Bef (wy xs i).1 (wy xs i).2 (wy xs j).1 (wy xs j).2) : Pre xs i j := .inl h
theorem pre_of_nbef {xs : List (Int × Int)} {i j : Nat} (hl : i < j) (h : ¬ Bef (wy xs j).1 (wy xs j).2 (wy xs i).1 (wy xs i).2) : Pre xs i j := by
  by_cases k : Bef (wy xs i).1 (wy xs i).2 (wy xs j).1 (wy xs j).2
  · exact .inl k
  · exact .inr ⟨h, hl⟩
/-- Insertion: the first ones, then i, then those that i comes before; j is i's place in a. -/
def Ins (xs : List (Int × Int)) (i : Nat) (a b : List Nat) : Prop :=
  (a ++ b).Pairwise (Pre xs) ∧ (∀ x, x ∈ a ++ b ↔ x < i) ∧ ∀ x ∈ b, Pre xs i x
theorem Ins.step {xs : List (Int × Int)} {i x : Nat} {a b : List Nat} (h : Ins xs i (a ++ [x]) b) (hp : Pre xs i x) : Ins xs i a (x :: b) := by
  obtain ⟨h1, h2, h3⟩ := h
  refine ⟨by simpa using h1, by simpa using h2, fun y hy => ?_⟩
  simp at hy
  rcases hy with rfl | hy
  · exact hp
  · exact h3 y hy
/-- At the place where the one before is not passed, i stands right. -/
theorem Ins.done {xs : List (Int × Int)} (hg : AllGo xs) {i : Nat} (hi : i < xs.length) {a b : List Nat} (h : Ins xs i a b) (ha : ∀ x, a.getLast? = some x → Pre xs x i) : (a ++ i :: b).Pairwise (Pre xs) ∧ ∀ x, x ∈ a ++ i :: b ↔ x < i + 1 := by
  obtain ⟨h1, h2, h3⟩ := h
  rw [List.pairwise_append] at h1
  obtain ⟨p1, p2, p3⟩ := h1
  have hlast : ∀ y ∈ a, Pre xs y i := by
    intro y hy
    rcases List.eq_nil_or_concat a with rfl | ⟨a', z, rfl⟩
    · simp at hy
    · have hz := ha z (by simp)
      simp at hy
      rcases hy with hy | rfl
      · rw [List.concat_eq_append, List.pairwise_append] at p1
        have hyz := p1.2.2 y hy z (by simp)
        have b1 := (h2 y).1 (by simp [hy])
        have b2 := (h2 z).1 (by simp)
        exact pre_trans hg (by omega) (by omega) hi hyz hz
      · exact hz
  constructor
  · rw [List.pairwise_append, List.pairwise_cons]
    refine ⟨p1, ⟨h3, p2⟩, fun y hy z hz => ?_⟩
    simp at hz
    rcases hz with rfl | hz
    · exact hlast y hy
    · exact p3 y hy z hz
  · intro x
    have hx := h2 x
    simp only [List.mem_append, List.mem_cons] at hx ⊢
    constructor
    · rintro (k | rfl | k)
      · have := hx.1 (.inl k); omega
      · omega
      · have := hx.1 (.inr k); omega
    · intro k
      by_cases e : x = i
      · exact .inr (.inl e)
      · rcases hx.2 (by omega) with k | k
        · exact .inl k
        · exact .inr (.inr k)
end Go.Proofs.Ytibpaojhjgpdaaa
