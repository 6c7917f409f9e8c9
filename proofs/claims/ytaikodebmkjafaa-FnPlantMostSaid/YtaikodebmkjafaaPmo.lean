/- Plants in beds: the model's order of beds, and its search through all ways. -/
import Derived.Test.YtaikodebmkjafaaPmm
namespace Go.Proofs.Ytaikodebmkjafaa
set_option linter.unusedVariables false
set_option linter.unusedSimpArgs false
/-- The beds of a light, and those of lesser lights. -/
def lmL (bs : List Int) (L : Nat) (b : Nat) : List Nat := (List.range b).filter (fun i => decide (bs.getD i 0 = (L : Int)))
def lmA (bs : List Int) : Nat → List Nat
  | 0 => []
  | L + 1 => lmA bs L ++ lmL bs L bs.length
theorem lmL_mem {bs : List Int} {L b i : Nat} : i ∈ lmL bs L b ↔ i < b ∧ bs.getD i 0 = L := by unfold lmL; simp
theorem lmA_mem {bs : List Int} (h : bsB bs = true) {i : Nat} : ∀ {L : Nat}, i ∈ lmA bs L ↔ i < bs.length ∧ bs.getD i 0 < L
  | 0 => by
    have := bsB_iff.1 h
    constructor
    · intro k; simp [lmA] at k
    · rintro ⟨k1, k2⟩
      have := this.2 bs[i] (List.getElem_mem k1)
      rw [show bs.getD i 0 = bs[i] by simp [k1]] at k2; omega
  | L + 1 => by
    rw [lmA, List.mem_append, lmA_mem h, lmL_mem]; omega
theorem lmA_pw {bs : List Int} (h : bsB bs = true) : ∀ L : Nat, (lmA bs L).Pairwise (PreK bs)
  | 0 => .nil
  | L + 1 => by
    rw [lmA, List.pairwise_append]
    refine ⟨lmA_pw h L, ?_, fun x hx y hy => ?_⟩
    · unfold lmL
      refine List.Pairwise.imp_of_mem (R := fun a b => a < b) ?_ (List.pairwise_lt_range.sublist List.filter_sublist)
      intro a b ha hb hab
      simp at ha hb
      unfold PreK ky
      right
      rw [List.getD_eq_getElem?_getD, List.getD_eq_getElem?_getD, ha.2, hb.2]
      exact ⟨rfl, hab⟩
    · have h1 := (lmA_mem h).1 hx
      have h2 := lmL_mem.1 hy
      unfold PreK ky; left; omega
theorem lmA_ord {bs : List Int} (h : bsB bs = true) : IsOrd bs.length (PreK bs) (lmA bs 17) := by
  refine ⟨lmA_pw h 17, fun i => ?_⟩
  rw [lmA_mem h]
  constructor
  · exact fun k => k.1
  · intro k
    have := (bsB_iff.1 h).2 bs[i] (List.getElem_mem k)
    rw [show bs.getD i 0 = bs[i] by simp [k]]; omega
theorem bo_lm {bs : List Int} (h : bsB bs = true) : bo bs = lmA bs 17 := bo_is rfl (lmA_ord h)
theorem lmL_yes {bs : List Int} {L b : Nat} (h : bs.getD b 0 = L) : lmL bs L (b + 1) = lmL bs L b ++ [b] := by unfold lmL; rw [List.range_succ, List.filter_append]; simp [List.getD_eq_getElem?_getD] at *; exact h
theorem lmL_no {bs : List Int} {L b : Nat} (h : ¬ bs.getD b 0 = L) : lmL bs L (b + 1) = lmL bs L b := by unfold lmL; rw [List.range_succ, List.filter_append]; simp [List.getD_eq_getElem?_getD] at *; exact h
theorem grL_nn (bs : List Int) (ps : List (Int × Int)) (o : List Nat) (i : Nat) (hi : i < ps.length) : (grL bs ps o).getD i 0 = -1 ∨ 0 ≤ (grL bs ps o).getD i 0 := by
  have key : ∀ (o : List Nat) (g : List Int), g.length = ps.length → (∀ i, i < ps.length → g.getD i 0 = -1 ∨ 0 ≤ g.getD i 0) → ∀ i, i < ps.length → (o.foldl (stG bs ps) g).getD i 0 = -1 ∨ 0 ≤ (o.foldl (stG bs ps) g).getD i 0 := by
    intro o
    induction o with
    | nil => intro g _ h; exact h
    | cons b o ih =>
      intro g hl h
      refine ih (stG bs ps g b) (by rw [stG_len]; exact hl) (fun i hi => ?_)
      unfold stG
      split
      · exact h i hi
      · rename_i hne
        have hb := plF_bd ps g (bs.getD b 0) ps.length
        rw [getD_setP (by omega)]
        split
        · right; omega
        · exact h i hi
  exact key o _ (by simp) (fun i hi => .inl (by simp [hi])) i hi
/-! The search through all ways. -/
def moB (bs : List Int) (p : Int × Int) (rec : Int → Int) (s : Int) (m : Int) : Nat → Int
  | 0 => m
  | b + 1 => if isB s b = true ∧ p.1 ≤ bs.getD b 0 ∧ bs.getD b 0 ≤ p.2 then max (moB bs p rec s m b) (1 + rec (s - 2 ^ b)) else moB bs p rec s m b
def moI (bs : List Int) : List (Int × Int) → Int → Int
  | [], _ => 0
  | p :: ps, s => moB bs p (moI bs ps) s (moI bs ps s) bs.length
theorem moB_ge (bs : List Int) (p : Int × Int) (rec : Int → Int) (s m : Int) : ∀ k, m ≤ moB bs p rec s m k
  | 0 => Int.le_refl _
  | k + 1 => by have := moB_ge bs p rec s m k; simp only [moB]; split <;> omega
theorem moB_at {bs : List Int} {p : Int × Int} {rec : Int → Int} {s m : Int} {b : Nat} (h : isB s b = true ∧ p.1 ≤ bs.getD b 0 ∧ bs.getD b 0 ≤ p.2) : ∀ k, b < k → 1 + rec (s - 2 ^ b) ≤ moB bs p rec s m k
  | 0, hk => by omega
  | k + 1, hk => by
    simp only [moB]
    by_cases e : b = k
    · subst e; rw [if_pos h]; omega
    · have := moB_at (m := m) h (rec := rec) k (by omega)
      split <;> omega
theorem moB_cases (bs : List Int) (p : Int × Int) (rec : Int → Int) (s m : Int) : ∀ k, moB bs p rec s m k = m ∨ ∃ b, b < k ∧ (isB s b = true ∧ p.1 ≤ bs.getD b 0 ∧ bs.getD b 0 ≤ p.2) ∧ moB bs p rec s m k = 1 + rec (s - 2 ^ b)
  | 0 => .inl rfl
  | k + 1 => by
    have ih := moB_cases bs p rec s m k
    simp only [moB]
    split
    · rename_i h
      by_cases c : moB bs p rec s m k ≤ 1 + rec (s - 2 ^ k)
      · right; exact ⟨k, by omega, h, by omega⟩
      · rw [show max (moB bs p rec s m k) (1 + rec (s - 2 ^ k)) = moB bs p rec s m k by omega]
        rcases ih with h1 | ⟨b, b1, b2, b3⟩
        · exact .inl h1
        · exact .inr ⟨b, by omega, b2, b3⟩
    · rcases ih with h1 | ⟨b, b1, b2, b3⟩
      · exact .inl h1
      · exact .inr ⟨b, by omega, b2, b3⟩
def MtF (bs : List Int) : List (Int × Int) → (Nat → Int) → Int → Prop
  | [], _, _ => True
  | p :: ps, f, s => (f 0 = -1 ∧ MtF bs ps (fun i => f (i + 1)) s) ∨ ∃ b : Nat, b < bs.length ∧ f 0 = b ∧ (isB s b = true ∧ p.1 ≤ bs.getD b 0 ∧ bs.getD b 0 ≤ p.2) ∧ MtF bs ps (fun i => f (i + 1)) (s - 2 ^ b)
theorem mt_le {bs : List Int} : ∀ {ps : List (Int × Int)} {f : Nat → Int} {s : Int}, MtF bs ps f s → szG f ps.length ≤ moI bs ps s
  | [], f, s, _ => by simp [szG, moI]
  | p :: ps, f, s, h => by
    simp only [List.length_cons, szG, moI]
    rcases h with ⟨h0, h⟩ | ⟨b, b1, b2, b3, h⟩
    · rw [if_pos h0]
      have := mt_le h
      have := moB_ge bs p (moI bs ps) s (moI bs ps s) bs.length
      omega
    · rw [if_neg (by omega)]
      have := mt_le h
      have := moB_at (m := moI bs ps s) (rec := moI bs ps) b3 bs.length b1
      omega
theorem mt_ex (bs : List Int) : ∀ (ps : List (Int × Int)) (s : Int), ∃ f, MtF bs ps f s ∧ szG f ps.length = moI bs ps s
  | [], s => ⟨fun _ => -1, trivial, rfl⟩
  | p :: ps, s => by
    have add : ∀ (v : Int) (f : Nat → Int), (fun i => (fun j => if j = 0 then v else f (j - 1)) (i + 1)) = f := fun v f => by funext i; simp
    rcases moB_cases bs p (moI bs ps) s (moI bs ps s) bs.length with h | ⟨b, b1, b2, b3⟩
    · obtain ⟨f, f1, f2⟩ := mt_ex bs ps s
      refine ⟨fun j => if j = 0 then -1 else f (j - 1), .inl ⟨rfl, by rw [add]; exact f1⟩, ?_⟩
      simp only [List.length_cons, moI, h]
      rw [szG, add, f2]; simp
    · obtain ⟨f, f1, f2⟩ := mt_ex bs ps (s - 2 ^ b)
      refine ⟨fun j => if j = 0 then (b : Int) else f (j - 1), .inr ⟨b, b1, rfl, b2, by rw [add]; exact f1⟩, ?_⟩
      simp only [List.length_cons, moI, b3]
      rw [szG, add, f2]
      rw [if_neg (by simp)]
theorem sub_all : ∀ s : Fin 64, ∀ j : Fin 6, isB (s : Nat) j = true → 0 ≤ ((s : Nat) : Int) - 2 ^ (j : Nat) ∧ ((s : Nat) : Int) - 2 ^ (j : Nat) < 64 ∧ (∀ q : Fin 6, isB (((s : Nat) : Int) - 2 ^ (j : Nat)) q = (isB (s : Nat) q && !((j : Nat) == (q : Nat)))) := by decide +kernel
theorem sub_bit {s : Int} {j : Nat} (h0 : 0 ≤ s) (h1 : s < 64) (hj : j < 6) (h : isB s j = true) : 0 ≤ s - 2 ^ j ∧ s - 2 ^ j < 64 ∧ ∀ q, q < 6 → isB (s - 2 ^ j) q = (isB s q && !(j == q)) := by
  obtain ⟨n, rfl⟩ : ∃ n : Nat, s = n := ⟨s.toNat, by omega⟩
  have := sub_all ⟨n, by omega⟩ ⟨j, hj⟩ h
  exact ⟨this.1, this.2.1, fun q hq => this.2.2 ⟨q, hq⟩⟩
/-- A way within a set of beds. -/
structure MfS (bs : List Int) (ps : List (Int × Int)) (f : Nat → Int) (s : Int) : Prop where
  ok : ∀ i, i < ps.length → f i = -1 ∨ ∃ b : Nat, f i = b ∧ b < bs.length ∧ isB s b = true ∧ (ps.getD i (0, 0)).1 ≤ bs.getD b 0 ∧ bs.getD b 0 ≤ (ps.getD i (0, 0)).2
  inj : ∀ i j, i < ps.length → j < ps.length → f i = f j → f i ≠ -1 → i = j
theorem mt_of {bs : List Int} (h6 : bs.length ≤ 6) : ∀ {ps : List (Int × Int)} {f : Nat → Int} {s : Int}, 0 ≤ s → s < 64 → MfS bs ps f s → MtF bs ps f s
  | [], f, s, _, _, _ => trivial
  | p :: ps, f, s, s0, s1, h => by
    have tail : MfS bs ps (fun i => f (i + 1)) s := ⟨fun i hi => h.ok (i + 1) (by simp; omega), fun i j hi hj e ne => by have := h.inj (i + 1) (j + 1) (by simp; omega) (by simp; omega) e ne; omega⟩
    rcases h.ok 0 (by simp) with k | ⟨b, k, kb, k1, k2⟩
    · exact .inl ⟨k, mt_of h6 s0 s1 tail⟩
    · obtain ⟨t0, t1, t2⟩ := sub_bit s0 s1 (by omega) k1
      refine .inr ⟨b, kb, k, ⟨k1, by simpa using k2⟩, mt_of h6 t0 t1 ⟨fun i hi => ?_, tail.inj⟩⟩
      rcases tail.ok i hi with e | ⟨c, e, cb, c1, c2⟩
      · exact .inl e
      · refine .inr ⟨c, e, cb, ?_, c2⟩
        rw [t2 c (by omega), c1]
        have : b ≠ c := fun hbc => by
          have := h.inj 0 (i + 1) (by simp) (by simp; omega) (by rw [k]; show (b : Int) = f (i + 1); have e : f (i + 1) = c := e; omega) (by rw [k]; omega)
          omega
        simpa using this
theorem mf_of {bs : List Int} (h6 : bs.length ≤ 6) : ∀ {ps : List (Int × Int)} {f : Nat → Int} {s : Int}, 0 ≤ s → s < 64 → MtF bs ps f s → MfS bs ps f s
  | [], f, s, _, _, _ => ⟨fun i hi => by simp at hi, fun i j hi => by simp at hi⟩
  | p :: ps, f, s, s0, s1, h => by
    rcases h with ⟨h0, h⟩ | ⟨b, b1, b2, b3, h⟩
    · have ih := mf_of h6 s0 s1 h
      refine ⟨fun i hi => ?_, fun i j hi hj e ne => ?_⟩
      · cases i with
        | zero => exact .inl h0
        | succ i => exact ih.ok i (by simp at hi; omega)
      · cases i with
        | zero => exact absurd h0 ne
        | succ i => cases j with
          | zero => rw [h0] at e; exact absurd e ne
          | succ j => have := ih.inj i j (by simp at hi; omega) (by simp at hj; omega) e ne; omega
    · obtain ⟨t0, t1, t2⟩ := sub_bit s0 s1 (by omega) b3.1
      have ih := mf_of h6 t0 t1 h
      have hne : ∀ i, i < ps.length → f (i + 1) ≠ (b : Int) := fun i hi e => by
        rcases ih.ok i hi with k | ⟨c, k, cb, c1, _⟩
        · have k : f (i + 1) = -1 := k
          omega
        · have k : f (i + 1) = (c : Int) := k
          obtain rfl : c = b := by omega
          rw [t2 c (by omega)] at c1; simp at c1
      refine ⟨fun i hi => ?_, fun i j hi hj e ne => ?_⟩
      · cases i with
        | zero => exact .inr ⟨b, b2, b1, b3.1, by simpa using b3.2⟩
        | succ i =>
          rcases ih.ok i (by simp at hi; omega) with k | ⟨c, k, cb, c1, c2⟩
          · exact .inl k
          · refine .inr ⟨c, k, cb, ?_, c2⟩
            rw [t2 c (by omega)] at c1
            simp at c1; exact c1.1
      · cases i with
        | zero => cases j with
          | zero => rfl
          | succ j => rw [b2] at e; exact absurd e.symm (hne j (by simp at hj; omega))
        | succ i => cases j with
          | zero => rw [b2] at e; exact absurd e (hne i (by simp at hi; omega))
          | succ j => have := ih.inj i j (by simp at hi; omega) (by simp at hj; omega) e ne; omega
theorem all_bits : ∀ n : Fin 7, 0 ≤ (2 : Int) ^ (n : Nat) - 1 ∧ (2 : Int) ^ (n : Nat) - 1 < 64 ∧ ∀ q : Fin 6, (q : Nat) < (n : Nat) → isB ((2 : Int) ^ (n : Nat) - 1) q = true := by decide +kernel
/-- The search finds as many as the choice. -/
theorem mo_px {bs : List Int} {ps : List (Int × Int)} (h1 : bsB bs = true) (h2 : ptB ps = true) : moI bs ps (2 ^ bs.length - 1) = pxI bs ps := by
  have h6 := (bsB_iff.1 h1).1
  obtain ⟨s0, s1, sb⟩ := all_bits ⟨bs.length, by omega⟩
  simp only at s0 s1 sb
  obtain ⟨f, hf, hfe⟩ := pxI_mf h1 h2
  have a := mt_le (mt_of h6 s0 s1 (f := f) (ps := ps) ⟨fun i hi => by
    rcases hf.ok i hi with k | ⟨b, k, kb, k2⟩
    · exact .inl k
    · exact .inr ⟨b, k, kb, sb ⟨b, by omega⟩ kb, k2⟩, hf.inj⟩)
  obtain ⟨g, hg, hge⟩ := mt_ex bs ps (2 ^ bs.length - 1)
  have hg' := mf_of h6 s0 s1 hg
  have b := pxI_ge h1 h2 (f := g) ⟨fun i hi => by
    rcases hg'.ok i hi with k | ⟨b, k, kb, _, k2⟩
    · exact .inl k
    · exact .inr ⟨b, k, kb, k2⟩, hg'.inj⟩
  omega
theorem moB_bd {bs : List Int} {p : Int × Int} {rec : Int → Int} {s m c : Int} (hr : ∀ s, 0 ≤ rec s ∧ rec s ≤ c) (hm : 0 ≤ m ∧ m ≤ c + 1) : ∀ k, 0 ≤ moB bs p rec s m k ∧ moB bs p rec s m k ≤ c + 1
  | 0 => hm
  | k + 1 => by
    have ih := moB_bd (bs := bs) (p := p) (s := s) hr hm k
    have := hr (s - 2 ^ k)
    simp only [moB]; split <;> omega
theorem moI_bd (bs : List Int) : ∀ (ps : List (Int × Int)) (s : Int), 0 ≤ moI bs ps s ∧ moI bs ps s ≤ ps.length
  | [], s => by simp [moI]
  | p :: ps, s => by
    have ih := moI_bd bs ps
    have := moB_bd (bs := bs) (p := p) (rec := moI bs ps) (s := s) (m := moI bs ps s) (c := ps.length) ih (by have := ih s; omega) bs.length
    simp only [moI, List.length_cons]; push_cast; exact this
end Go.Proofs.Ytaikodebmkjafaa
