/- Gardens: plain mathematics of chapter 9. -/
import Derived.Test.YtoklehmoeollfaaVm
namespace Go.Proofs.Ytoklehmoeollfaa
set_option linter.unusedVariables false
set_option linter.unusedSimpArgs false

theorem drop_at {α : Type} {xs : List α} {k : Nat} (hk : k < xs.length) : xs.drop k = xs[k] :: xs.drop (k + 1) := List.drop_eq_getElem_cons hk
/-! Beds, plants. -/
def snV (x : Int) : Bool := inV x 0 16
def bsB (xs : List Int) : Bool := decide (xs.length ≤ 6) && xs.all snV
def ptV (p : Int × Int) : Bool := decide (0 ≤ p.1 ∧ p.1 ≤ p.2 ∧ p.2 ≤ 16)
def ptB (ps : List (Int × Int)) : Bool := decide (ps.length ≤ 6) && ps.all ptV
theorem snV_iff {x : Int} : snV x = true ↔ 0 ≤ x ∧ x ≤ 16 := by unfold snV inV; rw [decide_eq_true_eq]
theorem ptV_iff {p : Int × Int} : ptV p = true ↔ 0 ≤ p.1 ∧ p.1 ≤ p.2 ∧ p.2 ≤ 16 := by unfold ptV; rw [decide_eq_true_eq]
theorem bsB_iff {xs : List Int} : bsB xs = true ↔ xs.length ≤ 6 ∧ ∀ x ∈ xs, 0 ≤ x ∧ x ≤ 16 := by
  unfold bsB; rw [Bool.and_eq_true, decide_eq_true_eq, List.all_eq_true]
  exact ⟨fun h => ⟨h.1, fun x hx => snV_iff.1 (h.2 x hx)⟩, fun h => ⟨h.1, fun x hx => snV_iff.2 (h.2 x hx)⟩⟩
theorem ptB_iff {ps : List (Int × Int)} : ptB ps = true ↔ ps.length ≤ 6 ∧ ∀ p ∈ ps, 0 ≤ p.1 ∧ p.1 ≤ p.2 ∧ p.2 ≤ 16 := by
  unfold ptB; rw [Bool.and_eq_true, decide_eq_true_eq, List.all_eq_true]
  exact ⟨fun h => ⟨h.1, fun x hx => ptV_iff.1 (h.2 x hx)⟩, fun h => ⟨h.1, fun x hx => ptV_iff.2 (h.2 x hx)⟩⟩
theorem bsB_tail {x : Int} {xs : List Int} (h : bsB (x :: xs) = true) : bsB xs = true := by
  rw [bsB_iff] at h ⊢; exact ⟨by have := h.1; simp at this; omega, fun y hy => h.2 y (List.mem_cons_of_mem _ hy)⟩
theorem ptB_tail {x : Int × Int} {xs : List (Int × Int)} (h : ptB (x :: xs) = true) : ptB xs = true := by
  rw [ptB_iff] at h ⊢; exact ⟨by have := h.1; simp at this; omega, fun y hy => h.2 y (List.mem_cons_of_mem _ hy)⟩
theorem bsB_bad (xs : List Int) : bsB (xs ++ [-1]) = false := by
  unfold bsB; rw [List.all_append]
  have : ([-1] : List Int).all snV = false := rfl
  rw [this]; simp
theorem ptB_bad (xs : List (Int × Int)) : ptB (xs ++ [(2, 1)]) = false := by
  unfold ptB; rw [List.all_append]
  have : ([(2, 1)] : List (Int × Int)).all ptV = false := rfl
  rw [this]; simp
def hsI (xs : List Int) (x : Int) : Bool := xs.any (fun y => y == x)
theorem hsI_iff {xs : List Int} {x : Int} : hsI xs x = true ↔ x ∈ xs := by unfold hsI; simp
theorem hsI_no {xs : List Int} {x : Int} : hsI xs x = false ↔ x ∉ xs := by rw [← Bool.not_eq_true, hsI_iff]
theorem hsI_snoc (xs : List Int) (y x : Int) : hsI (xs ++ [y]) x = (hsI xs x || y == x) := by unfold hsI; simp
theorem hsI_step {xs : List Int} {k : Nat} (hk : k < xs.length) (x : Int) : hsI (xs.take (k + 1)) x = (hsI (xs.take k) x || xs[k] == x) := by
  rw [List.take_succ_eq_append_getElem hk, hsI_snoc]
/-- One entry of a list fits: x tells a bed of n ones, told before or not, with hours b, of a plant that wants lo to hi. -/
def pxB (n : Int) (x : Int) (tk : Bool) (b lo hi : Int) : Bool := x == -1 || (inV x 0 (n - 1) && !tk && inV b lo hi)
def pkB (bs : List Int) (ps : List (Int × Int)) (us : List Int) (k : Nat) : Bool :=
  pxB bs.length (us.getD k 0) (hsI (us.take k) (us.getD k 0)) (bs.getD (us.getD k 0).toNat 0) (ps.getD k (0, 0)).1 (ps.getD k (0, 0)).2
def poK (bs : List Int) (ps : List (Int × Int)) (us : List Int) : Nat → Bool
  | 0 => true
  | k + 1 => poK bs ps us k && pkB bs ps us k
def poB (bs : List Int) (ps : List (Int × Int)) (us : List Int) : Bool := bsB bs && ptB ps && decide (us.length = ps.length) && poK bs ps us us.length
section
variable {bs : List Int} {ps : List (Int × Int)} {us : List Int}
theorem poK_down : ∀ {m k : Nat}, k ≤ m → poK bs ps us m = true → poK bs ps us k = true
  | 0, k, h, hm => by obtain rfl : k = 0 := by omega
                      exact hm
  | m + 1, k, h, hm => by
    by_cases e : k = m + 1
    · subst e; exact hm
    · rw [poK] at hm
      simp only [Bool.and_eq_true] at hm
      exact poK_down (by omega) hm.1
theorem poK_no {k m : Nat} (hk : k < m) (h : pkB bs ps us k = false) : poK bs ps us m = false := by
  cases e : poK bs ps us m
  · rfl
  · have := poK_down (k := k + 1) (by omega) e
    rw [poK, h] at this
    simp at this
theorem poK_yes {k : Nat} (h1 : poK bs ps us k = true) (h : pkB bs ps us k = true) : poK bs ps us (k + 1) = true := by rw [poK, h1, h]; rfl
theorem poK_at {k m : Nat} (hk : k < m) (h : poK bs ps us m = true) : pkB bs ps us k = true := by
  have := poK_down (k := k + 1) (by omega) h
  rw [poK] at this
  simp only [Bool.and_eq_true] at this
  exact this.2
theorem poB_iff : poB bs ps us = true ↔ bsB bs = true ∧ ptB ps = true ∧ us.length = ps.length ∧ poK bs ps us us.length = true := by
  unfold poB; simp only [Bool.and_eq_true, decide_eq_true_eq, and_assoc]
theorem poB_false (h : poB bs ps us = false) : bsB bs = false ∨ (bsB bs = true ∧ ptB ps = false) ∨ (bsB bs = true ∧ ptB ps = true ∧ us.length ≠ ps.length) ∨ (bsB bs = true ∧ ptB ps = true ∧ us.length = ps.length ∧ poK bs ps us us.length = false) := by
  unfold poB at h
  cases h1 : bsB bs
  · exact .inl rfl
  · cases h2 : ptB ps
    · exact .inr (.inl ⟨rfl, rfl⟩)
    · by_cases h3 : us.length = ps.length
      · rw [h1, h2] at h; simp only [h3, decide_true, Bool.true_and] at h
        exact .inr (.inr (.inr ⟨rfl, rfl, h3, by rw [h3]; exact h⟩))
      · exact .inr (.inr (.inl ⟨rfl, rfl, h3⟩))
theorem pkB_eq {k : Nat} (hk : k < us.length) (hp : k < ps.length) : pkB bs ps us k = pxB bs.length us[k] (hsI (us.take k) us[k]) (bs.getD us[k].toNat 0) ps[k].1 ps[k].2 := by
  unfold pkB
  rw [show us.getD k 0 = us[k] by simp [hk], show ps.getD k (0, 0) = ps[k] by simp [hp]]
end
theorem pxB_none {n : Int} {tk : Bool} {b lo hi : Int} : pxB n (-1) tk b lo hi = true := rfl
theorem pxB_out {n x : Int} {tk : Bool} {b lo hi : Int} (h1 : x ≠ -1) (h : inV x 0 (n - 1) = false) : pxB n x tk b lo hi = false := by
  unfold pxB; rw [h]; simpa using h1
theorem pxB_taken {n x b lo hi : Int} (h1 : x ≠ -1) : pxB n x true b lo hi = false := by
  unfold pxB; simpa using h1
theorem pxB_wants {n x b lo hi : Int} (h1 : x ≠ -1) (h : inV x 0 (n - 1) = true) : pxB n x false b lo hi = inV b lo hi := by
  unfold pxB; rw [h]
  have : (x == -1) = false := by simpa using h1
  rw [this]; simp
theorem pxB_nn {n x b lo hi : Int} {tk : Bool} (h : pxB n x tk b lo hi = true) : x = -1 ∨ (0 ≤ x ∧ x ≤ n - 1 ∧ tk = false ∧ lo ≤ b ∧ b ≤ hi) := by
  unfold pxB inV at h
  simp only [Bool.or_eq_true, Bool.and_eq_true, beq_iff_eq, decide_eq_true_eq, Bool.not_eq_true'] at h
  rcases h with h | ⟨⟨h1, h2⟩, h3⟩
  · exact .inl h
  · exact .inr ⟨h1.1, h1.2, h2, h3.1, h3.2⟩
/-- How many entries tell a bed. -/
def cnI : List Int → Int
  | [] => 0
  | x :: xs => (if x = -1 then 0 else 1) + cnI xs
theorem cnI_nn : ∀ xs : List Int, 0 ≤ cnI xs ∧ cnI xs ≤ xs.length
  | [] => by simp [cnI]
  | x :: xs => by have := cnI_nn xs; simp only [cnI, List.length_cons]; split <;> omega
theorem cnI_none {xs : List Int} {k : Nat} (hk : k < xs.length) (h : xs[k] = -1) : cnI (xs.drop k) = cnI (xs.drop (k + 1)) := by
  rw [drop_at hk, cnI, if_pos h]; omega
theorem cnI_some {xs : List Int} {k : Nat} (hk : k < xs.length) (h : xs[k] ≠ -1) : cnI (xs.drop k) = 1 + cnI (xs.drop (k + 1)) := by
  rw [drop_at hk, cnI, if_neg h]
def pmI (bs : List Int) (ps : List (Int × Int)) (us : List Int) : Int := if poB bs ps us = true then cnI us else -1
theorem pmI_yes {bs : List Int} {ps : List (Int × Int)} {us : List Int} (h : poB bs ps us = true) : pmI bs ps us = cnI us := if_pos h
theorem pmI_no {bs : List Int} {ps : List (Int × Int)} {us : List Int} (h : poB bs ps us = false) : pmI bs ps us = -1 := by unfold pmI; rw [h]; rfl
/-! Water. -/
def wvB (wet full : Int) : Bool := inV wet 0 50 && inV full 16 50
def wtB (wet full : Int) (ts : List Int) : Bool := inV wet 0 50 && inV full 16 50 && ts.all snV
def wuI (full wet t : Int) : Int := if wet < t then full else wet
def wtR (full : Int) : Int → List Int → List Int
  | _, [] => []
  | wet, t :: ts => (wuI full wet t - t) :: wtR full (wuI full wet t - t) ts
def wtC (full : Int) : Int → List Int → Int
  | _, [] => 0
  | wet, t :: ts => (if wet < t then 1 else 0) + wtC full (wuI full wet t - t) ts
theorem wtR_len (full : Int) : ∀ (ts : List Int) (wet : Int), (wtR full wet ts).length = ts.length
  | [], _ => rfl
  | t :: ts, wet => by simp [wtR, wtR_len full ts]
theorem wtC_nn (full : Int) : ∀ (ts : List Int) (wet : Int), 0 ≤ wtC full wet ts ∧ wtC full wet ts ≤ ts.length
  | [], _ => by simp [wtC]
  | t :: ts, wet => by have := wtC_nn full ts (wuI full wet t - t); simp only [wtC, List.length_cons]; split <;> omega
theorem wu_dry {full wet t : Int} (h : wet < t) : wuI full wet t = full := if_pos h
theorem wu_wet {full wet t : Int} (h : ¬ wet < t) : wuI full wet t = wet := if_neg h
theorem wtR_dry {full wet : Int} {ts : List Int} {k : Nat} (hk : k < ts.length) (h : wet < ts[k]) : wtR full wet (ts.drop k) = (full - ts[k]) :: wtR full (full - ts[k]) (ts.drop (k + 1)) := by
  rw [drop_at hk, wtR, wu_dry h]
theorem wtR_wet {full wet : Int} {ts : List Int} {k : Nat} (hk : k < ts.length) (h : ¬ wet < ts[k]) : wtR full wet (ts.drop k) = (wet - ts[k]) :: wtR full (wet - ts[k]) (ts.drop (k + 1)) := by
  rw [drop_at hk, wtR, wu_wet h]
theorem wtC_dry {full wet : Int} {ts : List Int} {k : Nat} (hk : k < ts.length) (h : wet < ts[k]) : wtC full wet (ts.drop k) = 1 + wtC full (full - ts[k]) (ts.drop (k + 1)) := by
  rw [drop_at hk, wtC, wu_dry h, if_pos h]
theorem wtC_wet {full wet : Int} {ts : List Int} {k : Nat} (hk : k < ts.length) (h : ¬ wet < ts[k]) : wtC full wet (ts.drop k) = wtC full (wet - ts[k]) (ts.drop (k + 1)) := by
  rw [drop_at hk, wtC, wu_wet h, if_neg h]; omega
def wrL (wet full : Int) (ts : List Int) : List Int := if wtB wet full ts = true then wtR full wet ts else []
def wrC (wet full : Int) (ts : List Int) : Int := if wtB wet full ts = true then wtC full wet ts else 0
theorem wr_yes {wet full : Int} {ts : List Int} (h : wtB wet full ts = true) : wrL wet full ts = wtR full wet ts ∧ wrC wet full ts = wtC full wet ts := ⟨if_pos h, if_pos h⟩
theorem wr_no {wet full : Int} {ts : List Int} (h : wtB wet full ts = false) : wrL wet full ts = [] ∧ wrC wet full ts = 0 := by unfold wrL wrC; rw [h]; exact ⟨rfl, rfl⟩
theorem wrL_len (wet full : Int) (ts : List Int) : (wrL wet full ts).length ≤ ts.length := by
  unfold wrL; split
  · rw [wtR_len]; exact Nat.le_refl _
  · simp
theorem wtB_iff {wet full : Int} {ts : List Int} : wtB wet full ts = true ↔ inV wet 0 50 = true ∧ inV full 16 50 = true ∧ ts.all snV = true := by
  unfold wtB; simp only [Bool.and_eq_true, and_assoc]
theorem wtB_false {wet full : Int} {ts : List Int} (h : wtB wet full ts = false) : inV wet 0 50 = false ∨ (inV wet 0 50 = true ∧ inV full 16 50 = false) ∨ (inV wet 0 50 = true ∧ inV full 16 50 = true ∧ ts.all snV = false) := by
  unfold wtB at h
  cases h1 : inV wet 0 50
  · exact .inl rfl
  · rw [h1] at h
    cases h2 : inV full 16 50
    · exact .inr (.inl ⟨rfl, rfl⟩)
    · rw [h2] at h; exact .inr (.inr ⟨rfl, rfl, by simpa using h⟩)
theorem inV_iff {x a b : Int} : inV x a b = true ↔ a ≤ x ∧ x ≤ b := by unfold inV; rw [decide_eq_true_eq]
theorem inV_no {x a b : Int} : inV x a b = false ↔ ¬ (a ≤ x ∧ x ≤ b) := by unfold inV; rw [decide_eq_false_iff_not]
def wdI (full wet : Int) (d : Bool) : Int := if d = true then max wet full else wet
def woR (full : Int) : Int → List (Int × Bool) → Bool
  | _, [] => true
  | wet, x :: xs => if wdI full wet x.2 < x.1 then false else woR full (wdI full wet x.2 - x.1) xs
def woB (wet full : Int) (ts : List Int) (ds : List Bool) : Bool := wtB wet full ts && decide (ds.length = ts.length) && woR full wet (ts.zip ds)
theorem woB_iff {wet full : Int} {ts : List Int} {ds : List Bool} : woB wet full ts ds = true ↔ wtB wet full ts = true ∧ ds.length = ts.length ∧ woR full wet (ts.zip ds) = true := by
  unfold woB; simp only [Bool.and_eq_true, decide_eq_true_eq, and_assoc]
theorem woR_dry {full wet : Int} {ts : List Int} {ds : List Bool} {k : Nat} (h1 : k < ts.length) (h2 : k < ds.length) (h : wdI full wet ds[k] < ts[k]) : woR full wet ((ts.zip ds).drop k) = false := by
  rw [drop_at (by rw [List.length_zip]; omega), woR, List.getElem_zip, if_pos h]
theorem woR_wet {full wet : Int} {ts : List Int} {ds : List Bool} {k : Nat} (h1 : k < ts.length) (h2 : k < ds.length) (h : ¬ wdI full wet ds[k] < ts[k]) : woR full wet ((ts.zip ds).drop k) = woR full (wdI full wet ds[k] - ts[k]) ((ts.zip ds).drop (k + 1)) := by
  rw [drop_at (xs := ts.zip ds) (by rw [List.length_zip]; omega), woR, List.getElem_zip, if_neg h]
/-- The model's way: what a day takes is looked at on the day. -/
theorem woB_eq {wet full : Int} {ts : List Int} {ds : List Bool} (h0 : inV wet 0 50 = true) (h1 : inV full 16 50 = true) (h2 : ds.length = ts.length) : woB wet full ts ds = (ts.all snV && woR full wet (ts.zip ds)) := by
  unfold woB wtB; rw [h0, h1]; simp [h2]
/-! What the laws say of water. -/
theorem wtR_at (full : Int) : ∀ (ts : List Int) (wet : Int), (∀ t ∈ ts, 0 ≤ t ∧ t ≤ 16) → 0 ≤ wet → 16 ≤ full → ∀ x ∈ wtR full wet ts, 0 ≤ x
  | [], _, _, _, _, x, hx => by simp [wtR] at hx
  | t :: ts, wet, h, hw, hf, x, hx => by
    have ht := h t (List.mem_cons_self)
    have h0 : 0 ≤ wuI full wet t - t := by unfold wuI; split <;> omega
    rw [wtR, List.mem_cons] at hx
    rcases hx with rfl | hx
    · exact h0
    · exact wtR_at full ts _ (fun y hy => h y (List.mem_cons_of_mem _ hy)) h0 hf x hx
/-- By no way fewer days. -/
def dyC : List Bool → Int
  | [] => 0
  | d :: ds => (if d = true then 1 else 0) + dyC ds
theorem dyC_nn : ∀ ds : List Bool, 0 ≤ dyC ds ∧ dyC ds ≤ ds.length
  | [] => by simp [dyC]
  | d :: ds => by have := dyC_nn ds; simp only [dyC, List.length_cons]; split <;> omega
theorem water_least (full : Int) : ∀ (zs : List (Int × Bool)) (a b : Int), (∀ z ∈ zs, 0 ≤ z.1 ∧ z.1 ≤ 16) → 16 ≤ full → a ≤ max b full → 0 ≤ b → woR full a zs = true →
    wtC full b (zs.map Prod.fst) ≤ dyC (zs.map Prod.snd) + (if a ≤ b then 0 else 1)
  | [], a, b, _, _, _, _, _ => by simp [wtC, dyC]; split <;> omega
  | z :: zs, a, b, h, hf, hab, hb, hw => by
    have hz := h z List.mem_cons_self
    rw [woR] at hw
    have ih := fun a' b' => water_least full zs a' b' (fun y hy => h y (List.mem_cons_of_mem _ hy)) hf
    simp only [List.map_cons, wtC, dyC]
    by_cases hd : wdI full a z.2 < z.1
    · rw [if_pos hd] at hw; cases hw
    · rw [if_neg hd] at hw
      have h1 := ih (wdI full a z.2 - z.1) (wuI full b z.1 - z.1)
      unfold wdI at h1 hd hw
      unfold wuI at h1 ⊢
      cases hz2 : z.2
      · rw [hz2] at h1 hd hw
        simp only [Bool.false_eq_true, if_false] at h1 hd hw ⊢
        by_cases hbz : b < z.1
        · rw [if_pos hbz, if_pos hbz] at *
          have h2 := h1 (by omega) (by omega) hw
          rw [if_neg (by omega)]
          split at h2 <;> omega
        · rw [if_neg hbz, if_neg hbz] at *
          have h2 := h1 (by omega) (by omega) hw
          split at h2 <;> split <;> omega
      · rw [hz2] at h1 hd hw
        simp only [if_true] at h1 hd hw ⊢
        by_cases hbz : b < z.1
        · rw [if_pos hbz, if_pos hbz] at *
          have h2 := h1 (by omega) (by omega) hw
          split at h2 <;> split <;> omega
        · rw [if_neg hbz, if_neg hbz] at *
          have h2 := h1 (by omega) (by omega) hw
          split at h2 <;> split <;> omega
theorem water_all (full : Int) : ∀ (zs : List (Int × Bool)) (a : Int), (∀ z ∈ zs, z.1 ≤ 16 ∧ z.2 = true) → 16 ≤ full → woR full a zs = true
  | [], _, _, _ => rfl
  | z :: zs, a, h, hf => by
    have hz := h z List.mem_cons_self
    rw [woR, if_neg (by unfold wdI; rw [hz.2, if_pos rfl]; omega)]
    exact water_all full zs _ (fun y hy => h y (List.mem_cons_of_mem _ hy)) hf
end Go.Proofs.Ytoklehmoeollfaa
