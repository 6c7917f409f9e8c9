/- KeepLit: plain mathematics. -/
import Derived.Test.YtidppabconifkaaYg
namespace Go.Proofs.Ytidppabconifkaa
set_option linter.unusedVariables false
set_option linter.unusedSimpArgs false

/-- How high the cell may be at most, after the first j cells behind it. -/
def kpG (d : Int) (xs : List Int) (e f c : Int) : Nat → Int
  | 0 => 20
  | j + 1 => if dkB d xs e f (lnI d c (opI e) (j + 1)) = true then kpG d xs e f c j else min (kpG d xs e f c j) (tlI xs (lnI d c (opI e) (j + 1)) + f * ((j + 1 : Nat) : Int))
theorem kp_le {d : Int} {xs : List Int} {e f c t : Int} : ∀ n : Nat, t ≤ kpG d xs e f c n ↔ t ≤ 20 ∧ ∀ j : Nat, 1 ≤ j → j ≤ n → dkB d xs e f (lnI d c (opI e) j) = false → t ≤ tlI xs (lnI d c (opI e) j) + f * (j : Int)
  | 0 => by rw [kpG]; exact ⟨fun h => ⟨h, fun j a b => by omega⟩, fun h => h.1⟩
  | n + 1 => by
    have ih := kp_le (d := d) (xs := xs) (e := e) (f := f) (c := c) (t := t) n
    rw [kpG]
    cases hd : dkB d xs e f (lnI d c (opI e) (n + 1))
    · rw [if_neg (by simp)]
      constructor
      · intro h
        have h1 := ih.1 (by omega)
        refine ⟨h1.1, fun j a b hj => ?_⟩
        by_cases e9 : j = n + 1
        · subst e9; omega
        · exact h1.2 j a (by omega) hj
      · rintro ⟨h1, h2⟩
        have h3 := ih.2 ⟨h1, fun j a b => h2 j a (by omega)⟩
        have h4 := h2 (n + 1) (by omega) (by omega) hd
        omega
    · rw [if_pos rfl, ih]
      constructor
      · rintro ⟨h1, h2⟩
        refine ⟨h1, fun j a b hj => ?_⟩
        by_cases e9 : j = n + 1
        · subst e9; rw [hd] at hj; cases hj
        · exact h2 j a (by omega) hj
      · rintro ⟨h1, h2⟩; exact ⟨h1, fun j a b => h2 j a (by omega)⟩
theorem kp_rng {d : Int} {xs : List Int} {e f c : Int} (hv : cvB d xs = true) (hf : 0 ≤ f) (n : Nat) : 0 ≤ kpG d xs e f c n ∧ kpG d xs e f c n ≤ 20 := by
  refine ⟨(kp_le n).2 ⟨by omega, fun j _ _ _ => ?_⟩, ((kp_le n).1 (Int.le_refl _)).1⟩
  have h1 := (tlI_rng hv (lnI d c (opI e) j)).1
  have h2 : 0 ≤ f * (j : Int) := Int.mul_nonneg hf (by omega)
  omega
/-- With another height of the cell those of a list are lit, the cell left out. -/
def gdB (d : Int) (xs : List Int) (e f c t : Int) (l : List Int) : Bool := l.all fun k => k == c || !dkB d (xs.set c.toNat t) e f k
theorem gd_kp {d : Int} {xs : List Int} {e f c t : Int} (hv : okB d xs e f = true) (hc : ceB xs c = true) (h0 : 0 ≤ t) (h20 : t ≤ 20) : gdB d xs e f c t (liL d xs e f) = decide (t ≤ kpG d xs e f c (faN d c (opI e))) := by
  rw [Bool.eq_iff_iff, decide_eq_true_iff, kp_le]
  unfold gdB; rw [List.all_eq_true, li_yes hv]
  obtain ⟨hcv, ⟨e0, e1⟩, f0, f1⟩ := okB_iff.1 hv
  have hin := ce_in hcv hc
  have hcr := ce_rng hc
  have hop := opI_in e0 e1
  have hv2 : cvB d (xs.set c.toNat t) = true := cv_set hcv (tlB_iff.2 ⟨h0, h20⟩)
  have hset : tlI (xs.set c.toNat t) c = t := tl_set_self (by omega)
  have hlen := (cvB_iff.1 hcv).2.1
  constructor
  · intro h
    refine ⟨h20, fun j j1 jn hd => ?_⟩
    have hj := ln_in hin hop.1 hop.2.1 jn
    rw [hop.2.2] at hj
    have hb := ln_back d c (opI e) hop.1 hop.2.1 j
    rw [hop.2.2] at hb
    generalize lnI d c (opI e) j = k at hj hb hd ⊢
    obtain ⟨⟨_, _, k0, k1⟩, _, hfa⟩ := hj
    have hmem : k ∈ ltL d xs e f xs.length := ltL_mem.2 ⟨k0, by omega, hd⟩
    have h9 := h k hmem
    unfold lnI at hb
    have hne : k ≠ c := by
      intro e9
      have hs := st_ne hin.1 e0 e1
      have : stI d e * (j : Int) = 0 := by omega
      rcases Int.mul_eq_zero.1 this with e2 | e2
      · exact hs e2
      · omega
    have hdk : dkB d (xs.set c.toNat t) e f k = false := by simpa [hne] using h9
    apply Classical.byContradiction
    intro hlt
    rw [← Bool.not_eq_true, dkB_iff hv2 f0] at hdk
    refine hdk ⟨j, j1, by omega, ?_⟩
    unfold rgI
    rw [hb, hset, tl_set_ne (by omega)]
    omega
  · rintro ⟨_, h⟩ k hk
    rw [ltL_mem] at hk
    obtain ⟨k0, k1, hd⟩ := hk
    by_cases hkc : k = c
    · simp [hkc]
    · have hdk : dkB d (xs.set c.toNat t) e f k = false := by
        rw [← Bool.not_eq_true, dkB_iff hv2 f0]
        rintro ⟨i, i1, i2, hlt⟩
        have hkin := cv_in hcv k0 k1
        have hl := ln_in hkin e0 e1 i2
        unfold rgI at hlt
        rw [tl_set_ne (x := k) (by omega)] at hlt
        by_cases hp : lnI d k e i = c
        · have hb := ln_back d k e e0 e1 i
          rw [hp] at hb hl
          unfold lnI at hp
          rw [hp, hset] at hlt
          have := h i i1 (by omega) (by rw [hb]; exact hd)
          rw [hb] at this
          omega
        · have hne : (k + stI d e * i).toNat ≠ c.toNat := by
            have := hl.1.2.2.1
            unfold lnI at this hp
            omega
          rw [tl_set_ne hne] at hlt
          have hdt : dkB d xs e f k = true := (dkB_iff hcv f0).2 ⟨i, i1, i2, by unfold rgI; exact hlt⟩
          rw [hd] at hdt; cases hdt
      rw [hdk]; simp
def kpI (d : Int) (xs : List Int) (c e f : Int) : Int := if (okB d xs e f && ceB xs c) = true then kpG d xs e f c (faN d c (opI e)) else -1
theorem kp_no {d : Int} {xs : List Int} {c e f : Int} (h : (okB d xs e f && ceB xs c) = false) : kpI d xs c e f = -1 := by unfold kpI; rw [h]; rfl
theorem kp_yes {d : Int} {xs : List Int} {c e f : Int} (h1 : okB d xs e f = true) (h2 : ceB xs c = true) : kpI d xs c e f = kpG d xs e f c (faN d c (opI e)) := by unfold kpI; rw [h1, h2]; rfl
/-- The greatest good height below k. -/
def kbI (M : Int) (k : Nat) : Int := if k = 0 then -1 else min ((k : Int) - 1) M
theorem kb_next {M : Int} {k : Nat} (h : 0 ≤ M) : kbI M (k + 1) = if (k : Int) ≤ M then (k : Int) else kbI M k := by
  unfold kbI
  rw [if_neg (by omega)]
  by_cases e : k = 0
  · subst e; rw [if_pos (by simpa using h)]; simp; omega
  · rw [if_neg e]
    by_cases c : (k : Int) ≤ M
    · rw [if_pos c]; push_cast; omega
    · rw [if_neg c]; push_cast; omega
theorem kb_end {M : Int} (h : M ≤ 20) : kbI M 21 = M := by unfold kbI; rw [if_neg (by omega)]; push_cast; omega
theorem gd_next {d : Int} {xs : List Int} {e f c t : Int} {l : List Int} {j : Nat} (hj : j < l.length) : gdB d xs e f c t (l.take (j + 1)) = (gdB d xs e f c t (l.take j) && (l[j] == c || !dkB d (xs.set c.toNat t) e f l[j])) := by
  unfold gdB
  rw [List.take_succ_eq_append_getElem hj, List.all_append]; simp
end Go.Proofs.Ytidppabconifkaa
