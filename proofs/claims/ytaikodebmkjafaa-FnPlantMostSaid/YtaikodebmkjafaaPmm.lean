/- Plants in beds: the greedy choice is as good as any; plain mathematics. -/
import Derived.Test.YtaikodebmkjafaaQs
import Derived.Test.YtaikodebmkjafaaSo
namespace Go.Proofs.Ytaikodebmkjafaa
set_option linter.unusedVariables false
set_option linter.unusedSimpArgs false
theorem revRec {α : Type} {motive : List α → Prop} (nil : motive []) (snoc : ∀ (l : List α) (a : α), motive l → motive (l ++ [a])) : ∀ (n : Nat) (l : List α), l.length = n → motive l
  | 0, l, h => by rw [List.length_eq_zero_iff.1 h]; exact nil
  | n + 1, l, h => by
    rcases List.eq_nil_or_concat l with rfl | ⟨l', a, rfl⟩
    · simp at h
    · rw [List.concat_eq_append]; exact snoc l' a (revRec nil snoc n l' (by simpa using h))
/-- How many of the first n are in a bed. -/
def szG : (Nat → Int) → Nat → Int
  | _, 0 => 0
  | f, n + 1 => (if f 0 = -1 then 0 else 1) + szG (fun i => f (i + 1)) n
theorem szG_nn : ∀ (n : Nat) (f : Nat → Int), 0 ≤ szG f n ∧ szG f n ≤ n
  | 0, f => by simp [szG]
  | n + 1, f => by have := szG_nn n (fun i => f (i + 1)); simp only [szG]; split <;> omega
theorem szG_congr : ∀ (n : Nat) (f g : Nat → Int), (∀ i, i < n → (f i = -1 ↔ g i = -1)) → szG f n = szG g n
  | 0, f, g, _ => rfl
  | n + 1, f, g, h => by
    have h0 := h 0 (by omega)
    have ih := szG_congr n (fun i => f (i + 1)) (fun i => g (i + 1)) (fun i hi => h (i + 1) (by omega))
    simp only [szG, ih]
    by_cases e : f 0 = -1
    · rw [if_pos e, if_pos (h0.1 e)]
    · rw [if_neg e, if_neg (fun k => e (h0.2 k))]
theorem szG_le : ∀ (n : Nat) (f g : Nat → Int), (∀ i, i < n → g i = -1 → f i = -1) → szG f n ≤ szG g n
  | 0, f, g, _ => by simp [szG]
  | n + 1, f, g, h => by
    have h0 := h 0 (by omega)
    have ih := szG_le n (fun i => f (i + 1)) (fun i => g (i + 1)) (fun i hi => h (i + 1) (by omega))
    simp only [szG]
    by_cases e : g 0 = -1
    · rw [if_pos e, if_pos (h0 e)]; omega
    · rw [if_neg e]; split <;> omega
def updF (f : Nat → Int) (i : Nat) (v : Int) : Nat → Int := fun j => if j = i then v else f j
theorem updF_same (f : Nat → Int) (i : Nat) (v : Int) : updF f i v i = v := if_pos rfl
theorem updF_ne {f : Nat → Int} {i j : Nat} {v : Int} (h : j ≠ i) : updF f i v j = f j := if_neg h
theorem szG_upd : ∀ (n : Nat) (f : Nat → Int) (i : Nat) (v : Int), i < n → szG (updF f i v) n + (if f i = -1 then 0 else 1) = szG f n + (if v = -1 then 0 else 1)
  | 0, f, i, v, h => by omega
  | n + 1, f, 0, v, h => by
    have e : szG (fun i => updF f 0 v (i + 1)) n = szG (fun i => f (i + 1)) n := szG_congr _ _ _ (fun i _ => by rw [updF_ne (by omega)])
    simp only [szG, e, updF_same]; omega
  | n + 1, f, i + 1, v, h => by
    have e : (fun j => updF f (i + 1) v (j + 1)) = updF (fun j => f (j + 1)) i v := by
      funext j; unfold updF; by_cases k : j = i
      · subst k; simp
      · rw [if_neg (by omega), if_neg k]
    have ih := szG_upd n (fun j => f (j + 1)) i v (by omega)
    simp only [szG, e, updF_ne (show 0 ≠ i + 1 by omega)]
    omega
/-- A way to plant. -/
structure Mf (bs : List Int) (ps : List (Int × Int)) (f : Nat → Int) : Prop where
  ok : ∀ i, i < ps.length → f i = -1 ∨ ∃ b : Nat, f i = b ∧ b < bs.length ∧ (ps.getD i (0, 0)).1 ≤ bs.getD b 0 ∧ bs.getD b 0 ≤ (ps.getD i (0, 0)).2
  inj : ∀ i j, i < ps.length → j < ps.length → f i = f j → f i ≠ -1 → i = j
/-- The choice for a bed. -/
def OkP (ps : List (Int × Int)) (g : List Int) (x : Int) (i : Nat) : Prop := g.getD i 0 = -1 ∧ (ps.getD i (0, 0)).1 ≤ x ∧ x ≤ (ps.getD i (0, 0)).2
instance (ps : List (Int × Int)) (g : List Int) (x : Int) (i : Nat) : Decidable (OkP ps g x i) := by unfold OkP; exact inferInstance
def plF (ps : List (Int × Int)) (g : List Int) (x : Int) : Nat → Int
  | 0 => -1
  | k + 1 => if OkP ps g x k ∧ (plF ps g x k = -1 ∨ (ps.getD k (0, 0)).2 < (ps.getD (plF ps g x k).toNat (0, 0)).2) then k else plF ps g x k
theorem plF_spec (ps : List (Int × Int)) (g : List Int) (x : Int) : ∀ k, (plF ps g x k = -1 ∧ ∀ i, i < k → ¬ OkP ps g x i) ∨ ∃ p : Nat, p < k ∧ plF ps g x k = p ∧ OkP ps g x p ∧ ∀ i, i < k → OkP ps g x i → (ps.getD p (0, 0)).2 ≤ (ps.getD i (0, 0)).2
  | 0 => .inl ⟨rfl, fun i hi => by omega⟩
  | k + 1 => by
    have ih := plF_spec ps g x k
    by_cases c : OkP ps g x k ∧ (plF ps g x k = -1 ∨ (ps.getD k (0, 0)).2 < (ps.getD (plF ps g x k).toNat (0, 0)).2)
    · have e : plF ps g x (k + 1) = k := by rw [plF, if_pos c]
      refine .inr ⟨k, by omega, e, c.1, fun i hi ho => ?_⟩
      by_cases ei : i = k
      · subst ei; omega
      · rcases ih with ⟨_, h2⟩ | ⟨p, p1, p2, p3, p4⟩
        · exact absurd ho (h2 i (by omega))
        · have := p4 i (by omega) ho
          rcases c.2 with h | h
          · omega
          · rw [p2] at h; simp only [Int.toNat_natCast] at h; omega
    · have e : plF ps g x (k + 1) = plF ps g x k := by rw [plF, if_neg c]
      rw [e]
      rcases ih with ⟨h1, h2⟩ | ⟨p, p1, p2, p3, p4⟩
      · refine .inl ⟨h1, fun i hi ho => ?_⟩
        by_cases ei : i = k
        · subst ei; exact c ⟨ho, .inl h1⟩
        · exact h2 i (by omega) ho
      · refine .inr ⟨p, by omega, p2, p3, fun i hi ho => ?_⟩
        by_cases ei : i = k
        · subst ei
          apply Classical.byContradiction; intro hn
          exact c ⟨ho, .inr (by rw [p2]; simp only [Int.toNat_natCast]; omega)⟩
        · exact p4 i (by omega) ho
theorem plF_bd (ps : List (Int × Int)) (g : List Int) (x : Int) (k : Nat) : -1 ≤ plF ps g x k ∧ plF ps g x k < k := by
  rcases plF_spec ps g x k with ⟨h, _⟩ | ⟨p, h1, h2, _⟩ <;> omega
def stG (bs : List Int) (ps : List (Int × Int)) (g : List Int) (b : Nat) : List Int := if plF ps g (bs.getD b 0) ps.length = -1 then g else g.set (plF ps g (bs.getD b 0) ps.length).toNat b
def grL (bs : List Int) (ps : List (Int × Int)) (o : List Nat) : List Int := o.foldl (stG bs ps) (List.replicate ps.length (-1))
theorem grL_snoc (bs : List Int) (ps : List (Int × Int)) (o : List Nat) (b : Nat) : grL bs ps (o ++ [b]) = stG bs ps (grL bs ps o) b := by unfold grL; rw [List.foldl_append]; rfl
theorem stG_len (bs : List Int) (ps : List (Int × Int)) (g : List Int) (b : Nat) : (stG bs ps g b).length = g.length := by unfold stG; split <;> simp
theorem foldl_stG_len (bs : List Int) (ps : List (Int × Int)) : ∀ (o : List Nat) (g : List Int), (o.foldl (stG bs ps) g).length = g.length
  | [], g => rfl
  | b :: o, g => by rw [List.foldl_cons, foldl_stG_len bs ps o, stG_len]
theorem grL_len (bs : List Int) (ps : List (Int × Int)) (o : List Nat) : (grL bs ps o).length = ps.length := by unfold grL; rw [foldl_stG_len]; simp
theorem getD_setP {o : List Int} {i j : Nat} {h : Int} (hi : i < o.length) : (o.set i h).getD j 0 = if j = i then h else o.getD j 0 := by
  by_cases e : j = i
  · subst e; simp [hi]
  · rw [if_neg e]; simp [List.getD, List.getElem?_set_ne (Ne.symm e)]
/-- The state of the choice, and any way to plant changed so that it agrees with it. -/
theorem greedy {bs : List Int} {ps : List (Int × Int)} {l : List Nat} (hl : IsOrd bs.length (PreK bs) l) : ∀ (pre rest : List Nat), pre ++ rest = l →
    Mf bs ps (fun i => (grL bs ps pre).getD i 0) ∧ (∀ i, i < ps.length → (grL bs ps pre).getD i 0 = -1 ∨ ∃ b ∈ pre, (grL bs ps pre).getD i 0 = ((b : Nat) : Int)) ∧
    ∀ f, Mf bs ps f → ∃ f', Mf bs ps f' ∧ szG f ps.length ≤ szG f' ps.length ∧ ∀ b ∈ pre, ∀ i, i < ps.length → (f' i = ((b : Nat) : Int) ↔ (grL bs ps pre).getD i 0 = (b : Int)) := by
  intro pre
  refine revRec (motive := fun pre => ∀ rest : List Nat, pre ++ rest = l →
    Mf bs ps (fun i => (grL bs ps pre).getD i 0) ∧ (∀ i, i < ps.length → (grL bs ps pre).getD i 0 = -1 ∨ ∃ b ∈ pre, (grL bs ps pre).getD i 0 = ((b : Nat) : Int)) ∧
    ∀ f, Mf bs ps f → ∃ f', Mf bs ps f' ∧ szG f ps.length ≤ szG f' ps.length ∧ ∀ b ∈ pre, ∀ i, i < ps.length → (f' i = ((b : Nat) : Int) ↔ (grL bs ps pre).getD i 0 = (b : Int))) ?_ ?_ pre.length pre rfl
  case refine_1 =>
    intro rest _
    have e : ∀ i, i < ps.length → (grL bs ps []).getD i 0 = -1 := fun i hi => by simp [grL, hi]
    refine ⟨⟨fun i hi => .inl (e i hi), fun i j hi hj _ h => absurd (e i hi) h⟩, fun i hi => .inl (e i hi), fun f hf => ⟨f, hf, by omega, fun b hb => by simp at hb⟩⟩
  case refine_2 =>
    intro pre b ih rest hr
    obtain ⟨g1, g2, g3⟩ := ih (b :: rest) (by simpa using hr)
    have hnd := hl.nodup (preK_tot _ _)
    have hpw := hl.1
    rw [← hr] at hnd hpw
    rw [List.append_assoc] at hnd hpw
    have hbl : b < bs.length := (hl.2 b).1 (by rw [← hr]; simp)
    have hbp : b ∉ pre := fun h => by
      rw [List.nodup_append] at hnd
      exact hnd.2.2 b h b (by simp) rfl
    have hlater : ∀ c, c < bs.length → c ∉ pre → c ≠ b → bs.getD b 0 ≤ bs.getD c 0 := fun c hc h1 h2 => by
      have hcm : c ∈ rest := by
        have := (hl.2 c).2 hc
        rw [← hr] at this
        simp at this
        rcases this with h | h | h
        · exact absurd h h1
        · exact absurd h h2
        · exact h
      rw [List.pairwise_append] at hpw
      have h3 := hpw.2.1
      rw [List.singleton_append, List.pairwise_cons] at h3
      have := h3.1 c hcm
      unfold PreK ky at this; omega
    have hlen := grL_len bs ps pre
    rw [grL_snoc]
    rcases plF_spec ps (grL bs ps pre) (bs.getD b 0) ps.length with ⟨p1, p2⟩ | ⟨p, p1, p2, p3, p4⟩
    · have e : stG bs ps (grL bs ps pre) b = grL bs ps pre := by unfold stG; rw [if_pos p1]
      rw [e]
      refine ⟨g1, fun i hi => ?_, fun f hf => ?_⟩
      · rcases g2 i hi with h | ⟨c, hc, h⟩
        · exact .inl h
        · exact .inr ⟨c, by simp [hc], h⟩
      · obtain ⟨f', h1, h2, h3⟩ := g3 f hf
        refine ⟨f', h1, h2, fun c hc i hi => ?_⟩
        rcases List.mem_append.1 hc with hc | hc
        · exact h3 c hc i hi
        · obtain rfl : c = b := by simpa using hc
          constructor
          · intro hfi
            exfalso
            have hgi : (grL bs ps pre).getD i 0 = -1 := by
              rcases g2 i hi with h | ⟨d, hd, h⟩
              · exact h
              · have := (h3 d hd i hi).2 h
                have : d = c := by omega
                exact absurd (this ▸ hd) hbp
            rcases h1.ok i hi with h | ⟨d, h, _, h5, h6⟩
            · omega
            · obtain rfl : d = c := by omega
              exact p2 i hi ⟨hgi, h5, h6⟩
          · intro hgi
            exfalso
            rcases g2 i hi with h | ⟨d, hd, h⟩
            · omega
            · have : d = c := by omega
              exact hbp (this ▸ hd)
    · have e : stG bs ps (grL bs ps pre) b = (grL bs ps pre).set p b := by
        unfold stG; rw [if_neg (by rw [p2]; omega), p2]; simp
      rw [e]
      have hp : p < (grL bs ps pre).length := by rw [hlen]; exact p1
      have hset : ∀ i, ((grL bs ps pre).set p (b : Int)).getD i 0 = if i = p then (b : Int) else (grL bs ps pre).getD i 0 := fun i => getD_setP hp
      have hgb : ∀ i, i < ps.length → (grL bs ps pre).getD i 0 ≠ (b : Int) := fun i hi h => by
        rcases g2 i hi with k | ⟨d, hd, k⟩
        · omega
        · have : d = b := by omega
          exact hbp (this ▸ hd)
      refine ⟨⟨fun i hi => ?_, fun i j hi hj h h' => ?_⟩, fun i hi => ?_, fun f hf => ?_⟩
      · show ((grL bs ps pre).set p (b : Int)).getD i 0 = -1 ∨ _
        rw [hset]
        by_cases ei : i = p
        · subst ei; right; exact ⟨b, if_pos rfl, hbl, p3.2.1, p3.2.2⟩
        · rw [if_neg ei]
          rcases g1.ok i hi with k | ⟨c, k1, k2⟩
          · exact .inl k
          · exact .inr ⟨c, k1, k2⟩
      · have h : ((grL bs ps pre).set p (b : Int)).getD i 0 = ((grL bs ps pre).set p (b : Int)).getD j 0 := h
        have h' : ((grL bs ps pre).set p (b : Int)).getD i 0 ≠ -1 := h'
        rw [hset] at h h'
        rw [hset] at h
        by_cases ei : i = p
        · rw [if_pos ei] at h
          by_cases ej : j = p
          · omega
          · rw [if_neg ej] at h; exact absurd h.symm (hgb j hj)
        · rw [if_neg ei] at h h'
          by_cases ej : j = p
          · rw [if_pos ej] at h; exact absurd h (hgb i hi)
          · rw [if_neg ej] at h; exact g1.inj i j hi hj h h'
      · rw [hset]
        by_cases ei : i = p
        · rw [if_pos ei]; exact .inr ⟨b, by simp, rfl⟩
        · rw [if_neg ei]
          rcases g2 i hi with k | ⟨c, hc, k⟩
          · exact .inl k
          · exact .inr ⟨c, by simp [hc], k⟩
      · obtain ⟨f', h1, h2, h3⟩ := g3 f hf
        have hfp : ∀ c ∈ pre, f' p ≠ ((c : Nat) : Int) := fun c hc h => by
          have := (h3 c hc p p1).1 h
          rw [p3.1] at this; omega
        -- whoever has the bed b gives it to p
        have hagree : ∀ f'' : Nat → Int, f'' p = (b : Int) → (∀ i, i < ps.length → i ≠ p → f'' i ≠ (b : Int)) → (∀ i, i < ps.length → i ≠ p → ∀ c ∈ pre, (f'' i = ((c : Nat) : Int) ↔ f' i = (c : Int))) →
            ∀ c ∈ pre ++ [b], ∀ i, i < ps.length → (f'' i = ((c : Nat) : Int) ↔ ((grL bs ps pre).set p (b : Int)).getD i 0 = (c : Int)) := by
          intro f'' a1 a2 a3 c hc i hi
          rw [hset]
          rcases List.mem_append.1 hc with hc | hc
          · by_cases ei : i = p
            · subst ei
              rw [if_pos rfl, a1]
            · rw [if_neg ei, a3 i hi ei c hc]; exact h3 c hc i hi
          · obtain rfl : c = b := by simpa using hc
            by_cases ei : i = p
            · subst ei; rw [if_pos rfl, a1]
            · rw [if_neg ei]
              exact ⟨fun k => absurd k (a2 i hi ei), fun k => absurd k (hgb i hi)⟩
        by_cases hq : ∃ q, q < ps.length ∧ f' q = (b : Int)
        · obtain ⟨q, q1, q2⟩ := hq
          by_cases eq : q = p
          · subst eq
            exact ⟨f', h1, h2, hagree f' q2 (fun i hi hne k => hne (h1.inj i q hi q1 (by rw [k, q2]) (by rw [k]; omega))) (fun i hi _ c hc => Iff.rfl)⟩
          · -- q is free in the state, and ends no earlier than p
            have hgq : (grL bs ps pre).getD q 0 = -1 := by
              rcases g2 q q1 with h | ⟨d, hd, h⟩
              · exact h
              · have := (h3 d hd q q1).2 h
                have : d = b := by omega
                exact absurd (this ▸ hd) hbp
            have hqc : (ps.getD q (0, 0)).1 ≤ bs.getD b 0 ∧ bs.getD b 0 ≤ (ps.getD q (0, 0)).2 := by
              rcases h1.ok q q1 with h | ⟨d, h, _, h5⟩
              · omega
              · obtain rfl : d = b := by omega
                exact h5
            have hpq := p4 q q1 ⟨hgq, hqc.1, hqc.2⟩
            have v1 : updF (updF f' q (f' p)) p b p = b := updF_same _ _ _
            have v2 : updF (updF f' q (f' p)) p b q = f' p := by rw [updF_ne eq, updF_same]
            have v3 : ∀ i, i ≠ p → i ≠ q → updF (updF f' q (f' p)) p b i = f' i := fun i a1 a2 => by rw [updF_ne a1, updF_ne a2]
            have hpb : f' p ≠ (b : Int) := fun k => eq (h1.inj q p q1 p1 (by rw [k, q2]) (by rw [q2]; omega))
            refine ⟨updF (updF f' q (f' p)) p b, ⟨fun i hi => ?_, fun i j hi hj h h' => ?_⟩, ?_, hagree _ v1 (fun i hi hne => ?_) (fun i hi hne c hc => ?_)⟩
            · by_cases e1 : i = p
              · subst e1; rw [v1]; exact .inr ⟨b, rfl, hbl, p3.2.1, p3.2.2⟩
              · by_cases e2 : i = q
                · subst e2; rw [v2]
                  rcases h1.ok p p1 with k | ⟨c, k1, k2, k3, k4⟩
                  · exact .inl k
                  · right
                    refine ⟨c, k1, k2, ?_, by omega⟩
                    have := hlater c k2 (fun hc => hfp c hc k1) (fun k => hpb (by rw [k1, k]))
                    omega
                · rw [v3 i e1 e2]; exact h1.ok i hi
            · have tr : ∀ i, i < ps.length → ∃ j, j < ps.length ∧ updF (updF f' q (f' p)) p b i = f' j ∧ (j = if i = p then q else if i = q then p else i) := fun i hi => by
                by_cases e1 : i = p
                · subst e1; exact ⟨q, q1, by rw [v1, q2], by rw [if_pos rfl]⟩
                · by_cases e2 : i = q
                  · subst e2; exact ⟨p, p1, v2, by rw [if_neg e1, if_pos rfl]⟩
                  · exact ⟨i, hi, v3 i e1 e2, by rw [if_neg e1, if_neg e2]⟩
              obtain ⟨a, a1, a2, a3⟩ := tr i hi
              obtain ⟨c, c1, c2, c3⟩ := tr j hj
              have := h1.inj a c a1 c1 (by rw [← a2, ← c2]; exact h) (by rw [← a2]; exact h')
              rw [a3, c3] at this
              by_cases e1 : i = p <;> by_cases e2 : j = p <;> by_cases e3 : i = q <;> by_cases e4 : j = q <;> simp_all
            · have u1 := szG_upd ps.length f' q (f' p) q1
              have u2 := szG_upd ps.length (updF f' q (f' p)) p b p1
              rw [updF_ne (Ne.symm eq)] at u2
              rw [q2, if_neg (by omega)] at u1
              rw [if_neg (c := (b : Int) = -1) (by omega)] at u2
              omega
            · by_cases e2 : i = q
              · subst e2; rw [v2]; exact hpb
              · rw [v3 i hne e2]; exact fun k => e2 (h1.inj i q hi q1 (by rw [k, q2]) (by rw [k]; omega))
            · by_cases e2 : i = q
              · subst e2; rw [v2, q2]
                have hcb : c ≠ b := fun k => hbp (k ▸ hc)
                exact ⟨fun k => absurd k (hfp c hc), fun k => absurd (by omega : c = b) hcb⟩
              · rw [v3 i hne e2]
        · have hnb : ∀ i, i < ps.length → f' i ≠ (b : Int) := fun i hi k => hq ⟨i, hi, k⟩
          refine ⟨updF f' p b, ⟨fun i hi => ?_, fun i j hi hj h h' => ?_⟩, ?_, hagree _ (updF_same _ _ _) (fun i hi hne => by rw [updF_ne hne]; exact hnb i hi) (fun i hi hne c hc => by rw [updF_ne hne])⟩
          · by_cases e1 : i = p
            · subst e1; rw [updF_same]; exact .inr ⟨b, rfl, hbl, p3.2.1, p3.2.2⟩
            · rw [updF_ne e1]; exact h1.ok i hi
          · by_cases e1 : i = p
            · by_cases e2 : j = p
              · omega
              · subst e1; rw [updF_same, updF_ne e2] at h; exact absurd h.symm (hnb j hj)
            · rw [updF_ne e1] at h h'
              by_cases e2 : j = p
              · subst e2; rw [updF_same] at h; exact absurd h (hnb i hi)
              · rw [updF_ne e2] at h; exact h1.inj i j hi hj h h'
          · have u1 := szG_upd ps.length f' p b p1
            rw [if_neg (c := (b : Int) = -1) (by omega)] at u1
            split at u1 <;> omega
/-- The choice is best. -/
theorem greedy_best {bs : List Int} {ps : List (Int × Int)} {l : List Nat} (hl : IsOrd bs.length (PreK bs) l) {f : Nat → Int} (hf : Mf bs ps f) : szG f ps.length ≤ szG (fun i => (grL bs ps l).getD i 0) ps.length := by
  obtain ⟨g1, g2, g3⟩ := greedy (ps := ps) hl l [] (by simp)
  obtain ⟨f', h1, h2, h3⟩ := g3 f hf
  have : szG f' ps.length ≤ szG (fun i => (grL bs ps l).getD i 0) ps.length := szG_le _ _ _ (fun i hi hg => by
    rcases h1.ok i hi with k | ⟨b, k, kb, _⟩
    · exact k
    · have := (h3 b ((hl.2 b).2 kb) i hi).1 k
      have hg : (grL bs ps l).getD i 0 = -1 := hg
      omega)
  omega
theorem greedy_mf {bs : List Int} {ps : List (Int × Int)} {l : List Nat} (hl : IsOrd bs.length (PreK bs) l) : Mf bs ps (fun i => (grL bs ps l).getD i 0) := (greedy (ps := ps) hl l [] (by simp)).1
/-! Ways to plant as lists. -/
theorem cnI_szG : ∀ us : List Int, cnI us = szG (fun i => us.getD i 0) us.length
  | [] => rfl
  | x :: us => by
    have ih := cnI_szG us
    simp only [cnI, List.length_cons, szG, ih]
    rfl
theorem poB_mf {bs : List Int} {ps : List (Int × Int)} {us : List Int} : poB bs ps us = true ↔ bsB bs = true ∧ ptB ps = true ∧ us.length = ps.length ∧ Mf bs ps (fun i => us.getD i 0) := by
  rw [poB_iff]
  constructor
  · rintro ⟨h1, h2, h3, h4⟩
    refine ⟨h1, h2, h3, ⟨fun i hi => ?_, fun i j hi hj h h' => ?_⟩⟩
    · have := poK_at (k := i) (by omega) h4
      unfold pkB at this
      rcases pxB_nn this with k | ⟨k1, k2, _, k3, k4⟩
      · exact .inl k
      · refine .inr ⟨(us.getD i 0).toNat, ?_, ?_, k3, k4⟩
        · show us.getD i 0 = _; omega
        · omega
    · have h : us.getD i 0 = us.getD j 0 := h
      have h' : us.getD i 0 ≠ -1 := h'
      have key : ∀ i j, i < j → j < us.length → us.getD i 0 = us.getD j 0 → us.getD i 0 ≠ -1 → False := by
        intro i j hij hj e ne
        have := poK_at (k := j) hj h4
        unfold pkB at this
        rcases pxB_nn this with k | ⟨_, _, k, _⟩
        · rw [e] at ne; exact ne k
        · rw [hsI_no] at k
          apply k
          rw [← e]
          have hi : i < us.length := by omega
          rw [show us.getD i 0 = us[i] by simp [hi]]
          exact List.mem_take_iff_getElem.2 ⟨i, by omega, rfl⟩
      rcases Nat.lt_trichotomy i j with k | k | k
      · exact (key i j k (by omega) h h').elim
      · exact k
      · exact (key j i k (by omega) h.symm (by rw [← h]; exact h')).elim
  · rintro ⟨h1, h2, h3, hf⟩
    refine ⟨h1, h2, h3, ?_⟩
    have : ∀ k, k ≤ us.length → poK bs ps us k = true := by
      intro k
      induction k with
      | zero => intro _; rfl
      | succ k ih =>
        intro hk
        refine poK_yes (ih (by omega)) ?_
        unfold pkB
        rcases hf.ok k (by omega) with e | ⟨b, e, kb, k1, k2⟩
        · have e : us.getD k 0 = -1 := e
          rw [e]; rfl
        · have e : us.getD k 0 = (b : Int) := e
          rw [e]
          have hno : hsI (us.take k) (b : Int) = false := by
            rw [hsI_no]
            intro hm
            obtain ⟨i, hi, he⟩ := List.mem_take_iff_getElem.1 hm
            have hi2 : i < us.length := by omega
            have := hf.inj i k (by omega) (by omega) (by show us.getD i 0 = us.getD k 0; rw [e]; simp [hi2, he]) (by show us.getD i 0 ≠ -1; simp [hi2, he])
            omega
          rw [hno]
          rw [pxB_wants (by omega) (inV_iff.2 (by omega))]
          simp only [Int.toNat_natCast]
          exact inV_iff.2 ⟨k1, k2⟩
    exact this _ (Nat.le_refl _)
/-- What PlantBest and PlantMost give. -/
theorem ordK_exists (ks : List Int) (n : Nat) : ∃ l, IsOrd n (PreK ks) l := by
  have tot := preK_tot ks n
  have key : ∀ i, i ≤ n → ∃ l, SrtP (PreK ks) i l := by
    intro i
    induction i with
    | zero => intro _; exact ⟨[], rfl, .nil, fun x => by simp⟩
    | succ i ih =>
      intro h
      obtain ⟨l, h1, h2, h3⟩ := ih (by omega)
      classical
      have ha : ∀ x, x ∈ l.filter (fun x => decide (PreK ks x i)) ↔ x < i ∧ PreK ks x i := fun x => by simp [h3]
      have hb : ∀ x, x ∈ l.filter (fun x => !decide (PreK ks x i)) ↔ x < i ∧ ¬ PreK ks x i := fun x => by simp [h3]
      have hor : ∀ x, x ≠ i → PreK ks i x ∨ PreK ks x i := fun x hx => by unfold PreK; omega
      refine ⟨l.filter (fun x => decide (PreK ks x i)) ++ i :: l.filter (fun x => !decide (PreK ks x i)), ?_, ?_, ?_⟩
      · rw [List.length_append, List.length_cons, ← List.countP_eq_length_filter, ← List.countP_eq_length_filter]
        have := List.length_eq_countP_add_countP (fun x => decide (PreK ks x i)) (l := l)
        have e : List.countP (fun x => !decide (PreK ks x i)) l = List.countP (fun a => decide ¬(decide (PreK ks a i)) = true) l := by
          congr 1; funext a; simp
        omega
      · rw [List.pairwise_append, List.pairwise_cons]
        refine ⟨h2.sublist List.filter_sublist, ⟨fun x hx => ?_, h2.sublist List.filter_sublist⟩, fun x hx y hy => ?_⟩
        · have := (hb x).1 hx
          exact (hor x (by omega)).resolve_right this.2
        · have h4 := (ha x).1 hx
          rcases List.mem_cons.1 hy with rfl | hy
          · exact h4.2
          · have h5 := (hb y).1 hy
            have h6 := (hor y (by omega)).resolve_right h5.2
            exact tot.trans x i y (by omega) (by omega) (by omega) h4.2 h6
      · intro x
        rw [List.mem_append, List.mem_cons, ha, hb]
        constructor
        · rintro (k | k | k) <;> omega
        · intro k
          by_cases e : x = i
          · exact .inr (.inl e)
          · by_cases p : PreK ks x i
            · exact .inl ⟨by omega, p⟩
            · exact .inr (.inr ⟨by omega, p⟩)
  obtain ⟨l, hl⟩ := key n (Nat.le_refl _)
  exact ⟨l, hl.isOrd⟩
noncomputable def bo (bs : List Int) : List Nat := ordL bs.length (PreK bs)
theorem bo_is {bs : List Int} {n : Nat} (hn : bs.length = n) {l : List Nat} (h : IsOrd n (PreK bs) l) : bo bs = l := by subst hn; exact ordL_is (preK_tot _ _) h
theorem bo_ord (bs : List Int) : IsOrd bs.length (PreK bs) (bo bs) := by
  obtain ⟨l, hl⟩ := ordK_exists bs bs.length
  rw [bo_is rfl hl]; exact hl
noncomputable def pbL (bs : List Int) (ps : List (Int × Int)) : List Int := if (bsB bs && ptB ps) = true then grL bs ps (bo bs) else []
theorem pbL_yes {bs : List Int} {ps : List (Int × Int)} (h1 : bsB bs = true) (h2 : ptB ps = true) : pbL bs ps = grL bs ps (bo bs) := by unfold pbL; rw [h1, h2]; rfl
theorem pbL_no1 {bs : List Int} {ps : List (Int × Int)} (h1 : bsB bs = false) : pbL bs ps = [] := by unfold pbL; rw [h1]; rfl
theorem pbL_no2 {bs : List Int} {ps : List (Int × Int)} (h2 : ptB ps = false) : pbL bs ps = [] := by unfold pbL; rw [h2]; simp
theorem pbL_len {bs : List Int} {ps : List (Int × Int)} : (pbL bs ps).length ≤ 6 := by
  unfold pbL; split
  · rename_i h; rw [Bool.and_eq_true] at h; rw [grL_len]; exact (ptB_iff.1 h.2).1
  · simp
theorem pbL_ok {bs : List Int} {ps : List (Int × Int)} (h1 : bsB bs = true) (h2 : ptB ps = true) : poB bs ps (pbL bs ps) = true := by
  rw [pbL_yes h1 h2, poB_mf]
  exact ⟨h1, h2, grL_len _ _ _, greedy_mf (bo_ord bs)⟩
noncomputable def pxI (bs : List Int) (ps : List (Int × Int)) : Int := pmI bs ps (pbL bs ps)
theorem pxI_no1 {bs : List Int} {ps : List (Int × Int)} (h : bsB bs = false) : pxI bs ps = -1 := pmI_no (by cases e : poB bs ps (pbL bs ps); rfl; have := (poB_mf.1 e).1; rw [h] at this; cases this)
theorem pxI_no2 {bs : List Int} {ps : List (Int × Int)} (h : ptB ps = false) : pxI bs ps = -1 := pmI_no (by cases e : poB bs ps (pbL bs ps); rfl; have := (poB_mf.1 e).2.1; rw [h] at this; cases this)
theorem pxI_yes {bs : List Int} {ps : List (Int × Int)} (h1 : bsB bs = true) (h2 : ptB ps = true) : pxI bs ps = szG (fun i => (pbL bs ps).getD i 0) ps.length := by
  unfold pxI
  rw [pmI_yes (pbL_ok h1 h2), cnI_szG, (poB_mf.1 (pbL_ok h1 h2)).2.2.1]
theorem pxI_ge {bs : List Int} {ps : List (Int × Int)} (h1 : bsB bs = true) (h2 : ptB ps = true) {f : Nat → Int} (hf : Mf bs ps f) : szG f ps.length ≤ pxI bs ps := by
  rw [pxI_yes h1 h2, pbL_yes h1 h2]; exact greedy_best (bo_ord bs) hf
theorem pxI_mf {bs : List Int} {ps : List (Int × Int)} (h1 : bsB bs = true) (h2 : ptB ps = true) : ∃ f, Mf bs ps f ∧ szG f ps.length = pxI bs ps := ⟨_, (poB_mf.1 (pbL_ok h1 h2)).2.2.2, (pxI_yes h1 h2).symm⟩
/-- The law of PlantedOk. -/
theorem po_less {bs : List Int} {ps : List (Int × Int)} {us : List Int} (h : poB bs ps us = true) {k : Nat} (hk : k < us.length) : poB bs ps (us.set k (-1)) = true := by
  obtain ⟨h1, h2, h3, hf⟩ := poB_mf.1 h
  have hg : ∀ i, (us.set k (-1)).getD i 0 = if i = k then -1 else us.getD i 0 := fun i => getD_setP hk
  refine poB_mf.2 ⟨h1, h2, by rw [List.length_set]; exact h3, ⟨fun i hi => ?_, fun i j hi hj e ne => ?_⟩⟩
  · show (us.set k (-1)).getD i 0 = -1 ∨ _
    rw [hg]
    by_cases e : i = k
    · rw [if_pos e]; exact .inl rfl
    · rw [if_neg e]; exact hf.ok i hi
  · have e : (us.set k (-1)).getD i 0 = (us.set k (-1)).getD j 0 := e
    have ne : (us.set k (-1)).getD i 0 ≠ -1 := ne
    rw [hg] at e ne
    rw [hg] at e
    by_cases a : i = k
    · rw [if_pos a] at ne; omega
    · rw [if_neg a] at e ne
      by_cases b : j = k
      · rw [if_pos b] at e; omega
      · rw [if_neg b] at e; exact hf.inj i j hi hj e ne
theorem pm_le_px {bs : List Int} {ps : List (Int × Int)} {us : List Int} (h : poB bs ps us = true) : pmI bs ps us ≤ pxI bs ps := by
  obtain ⟨h1, h2, h3, hf⟩ := poB_mf.1 h
  rw [pmI_yes h, cnI_szG, h3]; exact pxI_ge h1 h2 hf
/-- No more than beds. -/
theorem szG_beds {bs : List Int} {ps : List (Int × Int)} {f : Nat → Int} (hf : Mf bs ps f) : szG f ps.length ≤ bs.length := by
  have hsz : ∀ (n : Nat) (f : Nat → Int), szG f n = (((List.range n).filter (fun i => decide (f i ≠ -1))).length : Nat) := by
    intro n
    induction n with
    | zero => intro f; rfl
    | succ n ih =>
      intro f
      rw [szG, ih, List.range_succ_eq_map, List.filter_cons, List.filter_map, ]
      by_cases e : f 0 = -1
      · simp [e]; rfl
      · simp [e]
        have : ((List.range n).filter (fun i => decide (f (i + 1) ≠ -1))).length = ((List.range n).filter ((fun i => !decide (f i = -1)) ∘ Nat.succ)).length := by
          congr 1; congr 1; funext i; simp
        simp at this
        omega
  rw [hsz]
  have h1 := nodup_len (((List.range ps.length).filter (fun i => decide (f i ≠ -1))).map (fun i => (f i).toNat)) (List.range bs.length) (by
    rw [List.nodup_iff_pairwise_ne, List.pairwise_map]
    refine List.Pairwise.imp_of_mem (R := fun a b => a ≠ b) ?_ (List.Pairwise.sublist List.filter_sublist (List.nodup_iff_pairwise_ne.1 List.nodup_range))
    intro a b ha hb hab e
    rw [List.mem_filter, List.mem_range] at ha hb
    have na : f a ≠ -1 := by simpa using ha.2
    have nb : f b ≠ -1 := by simpa using hb.2
    rcases hf.ok a ha.1 with k | ⟨x, k, _⟩
    · exact na k
    rcases hf.ok b hb.1 with k' | ⟨y, k', _⟩
    · exact nb k'
    exact hab (hf.inj a b ha.1 hb.1 (by rw [k, k'] at e ⊢; simp at e; omega) na)) (by
    intro x hx
    obtain ⟨i, hi, rfl⟩ := List.mem_map.1 hx
    rw [List.mem_filter, List.mem_range] at hi
    have na : f i ≠ -1 := by simpa using hi.2
    rcases hf.ok i hi.1 with k | ⟨b, k, kb, _⟩
    · exact absurd k na
    · rw [List.mem_range, k]; simpa using kb)
  rw [List.length_map, List.length_range] at h1
  omega
theorem pm_bd {bs : List Int} {ps : List (Int × Int)} {us : List Int} (h : poB bs ps us = true) : 0 ≤ pmI bs ps us ∧ pmI bs ps us ≤ bs.length ∧ pmI bs ps us ≤ ps.length := by
  obtain ⟨h1, h2, h3, hf⟩ := poB_mf.1 h
  rw [pmI_yes h]
  have := cnI_nn us
  have := szG_beds hf
  rw [cnI_szG, h3] at *
  omega
theorem szG_none (n : Nat) : ∀ (f : Nat → Int), (∀ i, i < n → f i = -1) → szG f n = 0 := by
  induction n with
  | zero => intro f _; rfl
  | succ n ih => intro f h; rw [szG, if_pos (h 0 (by omega)), ih _ (fun i hi => h (i + 1) (by omega))]; rfl
theorem pm_none {bs : List Int} {ps : List (Int × Int)} (h1 : bsB bs = true) (h2 : ptB ps = true) : pmI bs ps (List.replicate ps.length (-1)) = 0 := by
  have hz : ∀ i, i < ps.length → (List.replicate ps.length (-1 : Int)).getD i 0 = -1 := fun i hi => by simp [hi]
  have hp : poB bs ps (List.replicate ps.length (-1)) = true := poB_mf.2 ⟨h1, h2, by simp, ⟨fun i hi => .inl (hz i hi), fun i j hi hj _ ne => absurd (hz i hi) ne⟩⟩
  rw [pmI_yes hp, cnI_szG, List.length_replicate]
  exact szG_none _ _ hz
/-- Plants that want anything. -/
theorem px_easy {bs : List Int} (n : Nat) (hn : n ≤ 6) (h1 : bsB bs = true) : pxI bs (List.replicate n (0, 16)) = min (bs.length : Int) n := by
  have hb := bsB_iff.1 h1
  have h2 : ptB (List.replicate n (0, 16)) = true := ptB_iff.2 ⟨by simpa using hn, fun p hp => by rw [(List.mem_replicate.1 hp).2]; omega⟩
  have hw : ∀ b, b < bs.length → 0 ≤ bs.getD b 0 ∧ bs.getD b 0 ≤ 16 := fun b h => by
    rw [show bs.getD b 0 = bs[b] by simp [h]]; exact hb.2 _ (List.getElem_mem h)
  have hp : ∀ i, i < n → (List.replicate n ((0, 16) : Int × Int)).getD i (0, 0) = (0, 16) := fun i hi => by simp [hi]
  have hm : Mf bs (List.replicate n (0, 16)) (fun i => if i < bs.length then (i : Int) else -1) := by
    refine ⟨fun i hi => ?_, fun i j hi hj e ne => ?_⟩
    · rw [List.length_replicate] at hi
      by_cases c : i < bs.length
      · right; rw [hp i hi]; exact ⟨i, if_pos c, c, (hw i c).1, (hw i c).2⟩
      · left; exact if_neg c
    · by_cases c : i < bs.length
      · by_cases d : j < bs.length
        · simp only [if_pos c, if_pos d] at e; omega
        · simp only [if_pos c, if_neg d] at e; omega
      · simp only [if_neg c] at ne; exact absurd rfl ne
  have lo := pxI_ge h1 h2 hm
  obtain ⟨f, hf, hfe⟩ := pxI_mf h1 h2
  have up := szG_beds hf
  have up2 := (szG_nn (List.replicate n ((0, 16) : Int × Int)).length f).2
  rw [List.length_replicate] at *
  have sz : ∀ (m k : Nat) (q : Nat), szG (fun i => if i + q < m then ((i + q : Nat) : Int) else -1) k = min (max ((m : Int) - q) 0) k := by
    intro m k
    induction k with
    | zero => intro q; simp only [szG]; omega
    | succ k ih =>
      intro q
      have e : (fun i => (fun i => if i + q < m then ((i + q : Nat) : Int) else -1) (i + 1)) = (fun i => if i + (q + 1) < m then ((i + (q + 1) : Nat) : Int) else -1) := by
        funext i; show (if i + 1 + q < m then _ else _) = _
        rw [show i + 1 + q = i + (q + 1) by omega]
      rw [szG, e, ih (q + 1)]
      by_cases c : q < m
      · rw [if_neg (by simp only [Nat.zero_add, if_pos c]; omega)]; omega
      · rw [if_pos (by simp only [Nat.zero_add, if_neg c])]; omega
  have s0 := sz bs.length n 0
  simp only [Nat.add_zero] at s0
  have : szG (fun i => if i < bs.length then (i : Int) else -1) n = min (bs.length : Int) n := by rw [s0]; omega
  omega
/-- A bed less. -/
theorem px_less {x : Int} {bs : List Int} {ps : List (Int × Int)} (h1 : bsB (x :: bs) = true) (h2 : ptB ps = true) : pxI bs ps = pxI (x :: bs) ps ∨ pxI bs ps = pxI (x :: bs) ps - 1 := by
  have h1' := bsB_tail h1
  obtain ⟨f, hf, hfe⟩ := pxI_mf h1' h2
  obtain ⟨g, hg, hge⟩ := pxI_mf h1 h2
  have a := pxI_ge h1 h2 (f := fun i => if f i = -1 then -1 else f i + 1) (by
    refine ⟨fun i hi => ?_, fun i j hi hj e ne => ?_⟩
    · rcases hf.ok i hi with k | ⟨b, k, kb, k1, k2⟩
      · left; simp [k]
      · right; exact ⟨b + 1, by rw [if_neg (by omega), k]; rfl, by simp; exact kb, by simpa using k1, by simpa using k2⟩
    · have e : (if f i = -1 then (-1 : Int) else f i + 1) = if f j = -1 then -1 else f j + 1 := e
      have ne : (if f i = -1 then (-1 : Int) else f i + 1) ≠ -1 := ne
      by_cases c : f i = -1
      · rw [if_pos c] at ne; exact absurd rfl ne
      · rw [if_neg c] at e ne
        by_cases d : f j = -1
        · rw [if_pos d] at e; exact absurd e ne
        · rw [if_neg d] at e; exact hf.inj i j hi hj (by omega) c)
  have a2 : szG (fun i => if f i = -1 then (-1 : Int) else f i + 1) ps.length = szG f ps.length := szG_congr _ _ _ (fun i hi => by
    rcases hf.ok i hi with k | ⟨b, k, _⟩
    · simp [k]
    · simp only [k]; rw [if_neg (by omega)]; omega)
  have b := pxI_ge h1' h2 (f := fun i => if g i = -1 then -1 else if g i = 0 then -1 else g i - 1) (by
    refine ⟨fun i hi => ?_, fun i j hi hj e ne => ?_⟩
    · rcases hg.ok i hi with k | ⟨b, k, kb, k1, k2⟩
      · left; simp [k]
      · cases b with
        | zero => left; simp [k]
        | succ b => right; exact ⟨b, by rw [if_neg (by omega), if_neg (by omega), k]; simp, by simpa using kb, by simpa using k1, by simpa using k2⟩
    · have e : (if g i = -1 then (-1 : Int) else if g i = 0 then -1 else g i - 1) = if g j = -1 then -1 else if g j = 0 then -1 else g j - 1 := e
      have ne : (if g i = -1 then (-1 : Int) else if g i = 0 then -1 else g i - 1) ≠ -1 := ne
      by_cases c : g i = -1
      · rw [if_pos c] at ne; exact absurd rfl ne
      · rw [if_neg c] at e ne
        by_cases c2 : g i = 0
        · rw [if_pos c2] at ne; exact absurd rfl ne
        · rw [if_neg c2] at e ne
          by_cases d : g j = -1
          · rw [if_pos d] at e; exact absurd e ne
          · rw [if_neg d] at e
            by_cases d2 : g j = 0
            · rw [if_pos d2] at e; exact absurd e ne
            · rw [if_neg d2] at e; exact hg.inj i j hi hj (by omega) c)
  have b2 : szG g ps.length ≤ szG (fun i => if g i = -1 then (-1 : Int) else if g i = 0 then -1 else g i - 1) ps.length + 1 := by
    by_cases hz : ∃ i, i < ps.length ∧ g i = 0
    · obtain ⟨i, i1, i2⟩ := hz
      have u := szG_upd ps.length g i (-1) i1
      rw [i2, if_neg (by omega), if_pos rfl] at u
      have v : szG (updF g i (-1)) ps.length = szG (fun i => if g i = -1 then (-1 : Int) else if g i = 0 then -1 else g i - 1) ps.length := szG_congr _ _ _ (fun j hj => by
        by_cases e : j = i
        · subst e; rw [updF_same]; simp [i2]
        · rw [updF_ne e]
          rcases hg.ok j hj with k | ⟨b, k, _⟩
          · simp [k]
          · have : g j ≠ 0 := fun k2 => e (hg.inj j i hj i1 (by rw [k2, i2]) (by rw [k2]; omega))
            rw [if_neg (by omega), if_neg this]; omega)
      omega
    · have v : szG g ps.length = szG (fun i => if g i = -1 then (-1 : Int) else if g i = 0 then -1 else g i - 1) ps.length := szG_congr _ _ _ (fun j hj => by
        rcases hg.ok j hj with k | ⟨b, k, _⟩
        · simp [k]
        · have : g j ≠ 0 := fun k2 => hz ⟨j, hj, k2⟩
          rw [if_neg (by omega), if_neg this]; omega)
      omega
  omega
end Go.Proofs.Ytaikodebmkjafaa
