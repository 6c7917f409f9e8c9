/- The course of the sun: plain mathematics of chapter 3. -/
import Derived.Test.YtigndpajpofofaaSin
namespace Go.Proofs.Ytigndpajpofofaa

def skyB (l t : Int) : Bool := decide (-90 ≤ l ∧ l ≤ 90 ∧ -23 ≤ t ∧ t ≤ 23)
theorem skyB_iff {l t : Int} : skyB l t = true ↔ -90 ≤ l ∧ l ≤ 90 ∧ -23 ≤ t ∧ t ≤ 23 := by unfold skyB; simp
def eastI (t h : Int) : Int := -1000 * cosI t * sinI h
def northI (l t h : Int) : Int := 1000 * cosI l * sinI t - sinI l * cosI t * cosI h
def upI (l t h : Int) : Int := 1000 * sinI l * sinI t + cosI l * cosI t * cosI h
theorem mul_bn {x y A B : Int} (h0 : -A ≤ x) (h1 : x ≤ A) (k0 : -B ≤ y) (k1 : y ≤ B) : -(A * B) ≤ x * y ∧ x * y ≤ A * B := by
  have e1 : 0 ≤ (A - x) * (B + y) := Int.mul_nonneg (by omega) (by omega)
  have e2 : 0 ≤ (A + x) * (B - y) := Int.mul_nonneg (by omega) (by omega)
  have e3 : 0 ≤ (A - x) * (B - y) := Int.mul_nonneg (by omega) (by omega)
  have e4 : 0 ≤ (A + x) * (B + y) := Int.mul_nonneg (by omega) (by omega)
  have a1 : (A - x) * (B + y) = A * B + A * y - x * B - x * y := by grind
  have a2 : (A + x) * (B - y) = A * B - A * y + x * B - x * y := by grind
  have a3 : (A - x) * (B - y) = A * B - A * y - x * B + x * y := by grind
  have a4 : (A + x) * (B + y) = A * B + A * y + x * B + x * y := by grind
  omega
/-! Counts. -/
def hit (p : Int → Bool) (h : Int) : Int := if p h = true then 1 else 0
/-- How many of the n hour angles from a on have it. -/
def cnt (p : Int → Bool) (a : Int) : Nat → Int
  | 0 => 0
  | n + 1 => cnt p a n + hit p (a + n)
theorem hit_bd (p : Int → Bool) (h : Int) : 0 ≤ hit p h ∧ hit p h ≤ 1 := by unfold hit; split <;> omega
theorem cnt_bd (p : Int → Bool) (a : Int) (n : Nat) : 0 ≤ cnt p a n ∧ cnt p a n ≤ n := by
  induction n with
  | zero => simp [cnt]
  | succ n ih => have := hit_bd p (a + n); simp only [cnt]; omega
theorem cnt_front (p : Int → Bool) (a : Int) (n : Nat) : cnt p a (n + 1) = hit p a + cnt p (a + 1) n := by
  induction n with
  | zero => simp [cnt]
  | succ n ih =>
    have e : cnt p (a + 1) (n + 1) = cnt p (a + 1) n + hit p (a + ((n + 1 : Nat) : Int)) := by
      simp only [cnt]; congr 2; omega
    have e2 : cnt p a (n + 1 + 1) = cnt p a (n + 1) + hit p (a + ((n + 1 : Nat) : Int)) := rfl
    rw [e, e2, ih]; omega
theorem cnt_add (p : Int → Bool) (a : Int) (n m : Nat) : cnt p a (n + m) = cnt p a n + cnt p (a + n) m := by
  induction m with
  | zero => simp [cnt]
  | succ m ih =>
    rw [show n + (m + 1) = (n + m) + 1 by omega]
    simp only [cnt]
    rw [ih, show a + ((n + m : Nat) : Int) = a + (n : Int) + (m : Int) by omega]; omega
theorem cnt_congr {p q : Int → Bool} {a : Int} {n : Nat} (h : ∀ k, a ≤ k → k < a + n → p k = q k) : cnt p a n = cnt q a n := by
  induction n with
  | zero => rfl
  | succ n ih =>
    simp only [cnt]
    rw [ih (fun k h0 h1 => h k h0 (by omega))]
    unfold hit
    rw [h (a + n) (by omega) (by omega)]
theorem cnt_back (p : Int → Bool) (c a : Int) (n : Nat) : cnt (fun h => p (c - h)) a n = cnt p (c - a - n + 1) n := by
  induction n with
  | zero => rfl
  | succ n ih =>
    have e : cnt p (c - a - ((n + 1 : Nat) : Int) + 1) (n + 1) = hit p (c - (a + n)) + cnt p (c - a - n + 1) n := by
      rw [cnt_front]; congr 2 <;> omega
    rw [e]
    show cnt (fun h => p (c - h)) a n + hit (fun h => p (c - h)) (a + n) = _
    rw [ih]
    simp only [hit]; omega
theorem cnt_turn1 {p : Int → Bool} (hp : ∀ h, p (h + 360) = p h) (a : Int) : cnt p (a + 1) 360 = cnt p a 360 := by
  have e1 : cnt p a 361 = cnt p a 360 + hit p (a + 360) := rfl
  have e2 := cnt_front p a 360
  have e3 : hit p (a + 360) = hit p a := by unfold hit; rw [hp]
  rw [e1] at e2; omega
theorem cnt_turnN {p : Int → Bool} (hp : ∀ h, p (h + 360) = p h) (a : Int) (n : Nat) : cnt p (a + n) 360 = cnt p a 360 := by
  induction n with
  | zero => simp
  | succ n ih => rw [show a + ((n + 1 : Nat) : Int) = (a + n) + 1 by omega, cnt_turn1 hp, ih]
theorem cnt_turn {p : Int → Bool} (hp : ∀ h, p (h + 360) = p h) (a b : Int) : cnt p a 360 = cnt p b 360 := by
  rcases Int.le_total a b with h | h
  · rw [show b = a + ((b - a).toNat : Int) by omega, cnt_turnN hp]
  · rw [show a = b + ((a - b).toNat : Int) by omega, cnt_turnN hp]
/-- A whole turn, counted backwards. -/
theorem cnt_mirror {p : Int → Bool} (hp : ∀ h, p (h + 360) = p h) (c a : Int) : cnt (fun h => p (c - h)) a 360 = cnt p a 360 := by
  rw [cnt_back, cnt_turn hp _ a]
theorem cnt_zero {p : Int → Bool} {a : Int} {n : Nat} (h : ∀ k, a ≤ k → k < a + n → p k = false) : cnt p a n = 0 := by
  induction n with
  | zero => rfl
  | succ n ih => simp only [cnt]; rw [ih (fun k h0 h1 => h k h0 (by omega))]; unfold hit; rw [h _ (by omega) (by omega)]; simp
theorem cnt_all {p : Int → Bool} {a : Int} {n : Nat} (h : ∀ k, a ≤ k → k < a + n → p k = true) : cnt p a n = n := by
  induction n with
  | zero => rfl
  | succ n ih => simp only [cnt]; rw [ih (fun k h0 h1 => h k h0 (by omega))]; unfold hit; rw [h _ (by omega) (by omega)]; simp
/-! The sun. -/
def posB (l t : Int) (h : Int) : Bool := decide (0 < upI l t h)
def negB (l t : Int) (h : Int) : Bool := decide (upI l t h < 0)
def nilB (l t : Int) (h : Int) : Bool := decide (upI l t h = 0)
def dayI (l t : Int) : Int := if skyB l t = true then cnt (posB l t) (-180) 360 else 0
def nightI (l t : Int) : Int := if skyB l t = true then cnt (negB l t) (-180) 360 else 0
def edgeI (l t : Int) : Int := if skyB l t = true then cnt (nilB l t) (-180) 360 else 0
/-- SunUp: nothing where the sky is not valid. -/
def upS (l t h : Int) : Int := if skyB l t = true then upI l t h else 0
theorem sin_neg (a : Int) : sinI (-a) = -sinI a := by
  have h1 := sin_half a
  have h2 := sin_back (a + 180)
  rw [← h1, ← h2]; congr 1; omega
theorem cos_mod (a : Int) : cosI (a % 360) = cosI a := by unfold cosI; congr 1; omega
theorem cos_360 (a : Int) : cosI (a + 360) = cosI a := by rw [← cos_mod (a + 360), ← cos_mod a]; congr 1; omega
theorem sin_360 (a : Int) : sinI (a + 360) = sinI a := by rw [← sin_mod (a + 360), ← sin_mod a]; congr 1; omega
theorem cos_opp (a : Int) : cosI (180 - a) = -cosI a := by
  rw [show (180 - a : Int) = (-a) + 180 by omega, cos_half, cos_neg]
/-- From noon to midnight the cosine never rises. -/
theorem cos_down_all : (List.range 360).all (fun k => decide (180 ≤ (k : Int) ∨ cosI ((k : Int) + 1) ≤ cosI (k : Int))) = true := by decide +kernel
theorem cos_down (h : Int) (h0 : 0 ≤ h) (h1 : h < 180) : cosI (h + 1) ≤ cosI h := by
  have := all360 (p := fun k => decide (180 ≤ k ∨ cosI (k + 1) ≤ cosI k)) cos_down_all h h0 (by omega)
  have := of_decide_eq_true this
  omega
theorem cos_lat_all : (List.range 360).all (fun k => decide (¬ ((k : Int) ≤ 90 ∨ 270 ≤ (k : Int)) ∨ 0 ≤ cosI (k : Int))) = true := by decide +kernel
theorem cos_lat (l : Int) (h0 : -90 ≤ l) (h1 : l ≤ 90) : 0 ≤ cosI l := by
  have := all360 (p := fun k => decide (¬ (k ≤ 90 ∨ 270 ≤ k) ∨ 0 ≤ cosI k)) cos_lat_all (l % 360) (by omega) (by omega)
  have := of_decide_eq_true this
  rw [cos_mod] at this
  omega
theorem up_opp (l t h : Int) : upI l (-t) (180 - h) = -upI l t h := by
  unfold upI; rw [sin_neg, cos_neg, cos_opp]; grind
theorem up_back (l t h : Int) : upI l t (-h) = upI l t h := by unfold upI; rw [cos_neg]
theorem up_360 (l t h : Int) : upI l t (h + 360) = upI l t h := by unfold upI; rw [cos_360]
theorem up_mod (l t h : Int) : upI l t (h % 360) = upI l t h := by unfold upI; rw [cos_mod]
theorem up_other (l t h : Int) : upI (-l) (-t) h = upI l t h := by
  unfold upI; rw [sin_neg, sin_neg, cos_neg, cos_neg]; grind
theorem up_down {l t : Int} (hs : skyB l t = true) (h : Int) (h0 : 0 ≤ h) (h1 : h < 180) : upI l t (h + 1) ≤ upI l t h := by
  obtain ⟨a, b, c, d⟩ := skyB_iff.1 hs
  have e := cos_down h h0 h1
  have f : 0 ≤ cosI l * cosI t := Int.mul_nonneg (cos_lat l a b) (cos_lat t (by omega) (by omega))
  have g := Int.mul_le_mul_of_nonneg_left e f
  unfold upI; omega
theorem up_mono {l t : Int} (hs : skyB l t = true) (n : Nat) (h : Int) (h0 : 0 ≤ h) (h1 : h + n ≤ 180) : upI l t (h + n) ≤ upI l t h := by
  induction n with
  | zero => simp
  | succ n ih =>
    have := up_down hs (h + n) (by omega) (by omega)
    have := ih (by omega)
    rw [show h + ((n + 1 : Nat) : Int) = h + n + 1 by omega]; omega
theorem up_le {l t : Int} (hs : skyB l t = true) (h k : Int) (h0 : 0 ≤ h) (h1 : h ≤ k) (h2 : k ≤ 180) : upI l t k ≤ upI l t h := by
  have := up_mono hs (k - h).toNat h h0 (by omega)
  rwa [show h + ((k - h).toNat : Int) = k by omega] at this
theorem sky_neg (l t : Int) : skyB l (-t) = skyB l t := by rw [Bool.eq_iff_iff, skyB_iff, skyB_iff]; omega
theorem sky_negl (l t : Int) : skyB (-l) t = skyB l t := by rw [Bool.eq_iff_iff, skyB_iff, skyB_iff]; omega
theorem sky_neg2 (l t : Int) : skyB (-l) (-t) = skyB l t := by rw [sky_neg, sky_negl]
theorem cnt_flip (p q : Int → Bool) (hp : ∀ h, q (h + 360) = q h) (h : ∀ k, p k = q (180 - k)) : cnt p (-180) 360 = cnt q (-180) 360 := by
  have e : cnt p (-180) 360 = cnt (fun h => q (180 - h)) (-180) 360 := cnt_congr (fun k _ _ => h k)
  rw [e, cnt_mirror hp]
theorem day_neg (l t : Int) : dayI l (-t) = nightI l t := by
  unfold dayI nightI; rw [sky_neg]
  split
  · exact cnt_flip _ _ (fun h => by unfold negB; rw [up_360]) (fun k => by
      unfold posB negB; rw [Bool.eq_iff_iff]; simp only [decide_eq_true_eq]
      have := up_opp l t (180 - k); rw [show (180 - (180 - k) : Int) = k by omega] at this; omega)
  · rfl
theorem edge_neg (l t : Int) : edgeI l (-t) = edgeI l t := by
  unfold edgeI; rw [sky_neg]
  split
  · exact cnt_flip _ _ (fun h => by unfold nilB; rw [up_360]) (fun k => by
      unfold nilB; rw [Bool.eq_iff_iff]; simp only [decide_eq_true_eq]
      have := up_opp l t (180 - k); rw [show (180 - (180 - k) : Int) = k by omega] at this; omega)
  · rfl
theorem day_other (l t : Int) : dayI (-l) (-t) = dayI l t := by
  unfold dayI; rw [sky_neg2]
  split
  · exact cnt_congr (fun k _ _ => by unfold posB; rw [up_other])
  · rfl
theorem cnt_three (l t a : Int) (n : Nat) : cnt (posB l t) a n + cnt (negB l t) a n + cnt (nilB l t) a n = n := by
  induction n with
  | zero => rfl
  | succ n ih =>
    simp only [cnt]
    have : hit (posB l t) (a + n) + hit (negB l t) (a + n) + hit (nilB l t) (a + n) = 1 := by
      unfold hit posB negB nilB
      simp only [decide_eq_true_eq]
      rcases Int.lt_trichotomy (upI l t (a + n)) 0 with h | h | h
      · rw [if_neg (by omega), if_pos h, if_neg (by omega)]; rfl
      · rw [if_neg (by omega), if_neg (by omega), if_pos h]; rfl
      · rw [if_pos h, if_neg (by omega), if_neg (by omega)]; rfl
    omega
theorem all_three {l t : Int} (hs : skyB l t = true) : dayI l t + nightI l t + edgeI l t = 360 := by
  unfold dayI nightI edgeI; rw [if_pos hs, if_pos hs, if_pos hs]; exact cnt_three l t (-180) 360
theorem edge_two {l : Int} (hs : skyB l 0 = true) : 2 ≤ edgeI l 0 := by
  unfold edgeI; rw [if_pos hs]
  have n1 : nilB l 0 90 = true := by
    unfold nilB upI; rw [show sinI 0 = 0 by decide, show cosI 90 = 0 by decide]; simp
  have n2 : nilB l 0 (-90) = true := by
    unfold nilB upI; rw [show sinI 0 = 0 by decide, show cosI (-90) = 0 by decide]; simp
  have e1 : cnt (nilB l 0) (-180) 360 = cnt (nilB l 0) (-180) 90 + cnt (nilB l 0) (-90) 270 := cnt_add _ _ 90 270
  have e2 : cnt (nilB l 0) (-90) 270 = hit (nilB l 0) (-90) + cnt (nilB l 0) (-89) 269 := cnt_front _ _ 269
  have e3 : cnt (nilB l 0) (-89) 269 = cnt (nilB l 0) (-89) 179 + cnt (nilB l 0) 90 90 := cnt_add _ _ 179 90
  have e4 : cnt (nilB l 0) 90 90 = hit (nilB l 0) 90 + cnt (nilB l 0) 91 89 := cnt_front _ _ 89
  have h1 : hit (nilB l 0) 90 = 1 := by unfold hit; rw [if_pos n1]
  have h2 : hit (nilB l 0) (-90) = 1 := by unfold hit; rw [if_pos n2]
  have b1 := cnt_bd (nilB l 0) (-180) 90
  have b2 := cnt_bd (nilB l 0) (-89) 179
  have b3 := cnt_bd (nilB l 0) 91 89
  omega
/-- The greatest hour angle at which the sun is up. -/
def SetIs (p : Int → Bool) (n : Int) : Prop := (n = -1 ∧ ∀ h, 0 ≤ h → h ≤ 180 → p h = false) ∨ (0 ≤ n ∧ n ≤ 180 ∧ p n = true ∧ ∀ h, n < h → h ≤ 180 → p h = false)
theorem SetIs.unique {p : Int → Bool} {n m : Int} (h : SetIs p n) (k : SetIs p m) : n = m := by
  rcases h with ⟨rfl, h⟩ | ⟨h0, h1, h2, h3⟩
  · rcases k with ⟨rfl, k⟩ | ⟨k0, k1, k2, k3⟩
    · rfl
    · rw [h m k0 k1] at k2; cases k2
  · rcases k with ⟨rfl, k⟩ | ⟨k0, k1, k2, k3⟩
    · rw [k n h0 h1] at h2; cases h2
    · rcases Int.lt_trichotomy n m with l | l | l
      · rw [h3 m l k1] at k2; cases k2
      · exact l
      · rw [k3 n l h1] at h2; cases h2
theorem SetIs.up {l t n : Int} (hs : skyB l t = true) (h : SetIs (posB l t) n) (k : Int) (k0 : 0 ≤ k) (k1 : k ≤ 180) : posB l t k = decide (k ≤ n) := by
  rcases h with ⟨rfl, h⟩ | ⟨h0, h1, h2, h3⟩
  · rw [h k k0 k1]; symm; simp; omega
  · by_cases e : k ≤ n
    · have := up_le hs k n k0 e h1
      unfold posB at h2 ⊢
      simp at h2 ⊢
      constructor <;> intro <;> omega
    · rw [h3 k (by omega) k1]; symm; simp; omega
theorem SetIs.day {l t n : Int} (hs : skyB l t = true) (h : SetIs (posB l t) n) : dayI l t = if n = 180 then 360 else 2 * n + (if n = -1 then 2 else 1) := by
  have hu := h.up hs
  have hb : -1 ≤ n ∧ n ≤ 180 := by rcases h with ⟨rfl, h⟩ | ⟨h0, h1, _⟩ <;> omega
  have hm : ∀ k, -180 ≤ k → k ≤ 180 → posB l t k = decide (-n ≤ k ∧ k ≤ n) := by
    intro k k0 k1
    rcases Int.le_total 0 k with g | g
    · rw [hu k g k1, Bool.eq_iff_iff]; simp; omega
    · have : posB l t k = posB l t (-k) := by unfold posB; rw [up_back]
      rw [this, hu (-k) (by omega) (by omega), Bool.eq_iff_iff]; simp; omega
  unfold dayI; rw [if_pos hs]
  by_cases e : n = 180
  · have g := cnt_all (p := posB l t) (a := -180) (n := 360) (fun k k0 k1 => by
      have k2 : k < 180 := by have : ((360 : Nat) : Int) = 360 := rfl
                              omega
      rw [hm k k0 (by omega), decide_eq_true_iff]; omega)
    rw [if_pos e, g]; rfl
  · rw [if_neg e]
    by_cases e' : n = -1
    · have g := cnt_zero (p := posB l t) (a := -180) (n := 360) (fun k k0 k1 => by
        have k2 : k < 180 := by have : ((360 : Nat) : Int) = 360 := rfl
                                omega
        rw [hm k k0 (by omega), decide_eq_false_iff_not]; omega)
      rw [if_pos e', g]; omega
    · rw [if_neg e']
      obtain ⟨m, rfl⟩ : ∃ m : Nat, n = m := ⟨n.toNat, by omega⟩
      have s0 := cnt_add (posB l t) (-180) (180 - m) (180 + m)
      have s1 := cnt_add (posB l t) (-m) (2 * m + 1) (179 - m)
      have c1 : (-180 : Int) + ((180 - m : Nat) : Int) = -m := by omega
      have c2 : (-m : Int) + ((2 * m + 1 : Nat) : Int) = m + 1 := by omega
      have c3 : 180 - m + (180 + m) = 360 := by omega
      have c4 : 2 * m + 1 + (179 - m) = 180 + m := by omega
      have z1 := cnt_zero (p := posB l t) (a := -180) (n := 180 - m) (fun k k0 k1 => by rw [hm k k0 (by omega)]; simp; omega)
      have z2 := cnt_all (p := posB l t) (a := -m) (n := 2 * m + 1) (fun k k0 k1 => by rw [hm k (by omega) (by omega)]; simp; omega)
      have z3 := cnt_zero (p := posB l t) (a := m + 1) (n := 179 - m) (fun k k0 k1 => by rw [hm k (by omega) (by omega)]; simp; omega)
      rw [c3, c1, z1] at s0
      rw [c4, c2, z2, z3] at s1
      rw [s0, s1]; omega
theorem set_ex (p : Int → Bool) (n : Nat) : (∀ h : Int, 0 ≤ h → h < n → p h = false) ∨ ∃ m : Int, 0 ≤ m ∧ m < n ∧ p m = true ∧ ∀ h : Int, m < h → h < n → p h = false := by
  induction n with
  | zero => exact .inl (fun h _ _ => by omega)
  | succ n ih =>
    cases e : p n
    · rcases ih with h | ⟨m, a, b, c, d⟩
      · refine .inl (fun k k0 k1 => ?_)
        by_cases g : k = n
        · rw [g]; exact e
        · exact h k k0 (by omega)
      · refine .inr ⟨m, a, by omega, c, fun k k0 k1 => ?_⟩
        by_cases g : k = n
        · rw [g]; exact e
        · exact d k k0 (by omega)
    · exact .inr ⟨n, by omega, by omega, e, fun k k0 k1 => by omega⟩
theorem set_is (p : Int → Bool) : ∃ n, SetIs p n := by
  rcases set_ex p 181 with h | ⟨m, a, b, c, d⟩
  · exact ⟨-1, .inl ⟨rfl, fun k k0 k1 => h k k0 (by omega)⟩⟩
  · exact ⟨m, .inr ⟨a, by omega, c, fun k k0 k1 => d k k0 (by omega)⟩⟩
theorem noset_iff {l t : Int} (hs : skyB l t = true) : 0 < upI l t 180 ↔ dayI l t = 360 := by
  obtain ⟨n, hn⟩ := set_is (posB l t)
  rw [hn.day hs]
  have h := hn.up hs 180 (by omega) (by omega)
  unfold posB at h
  have hb : -1 ≤ n ∧ n ≤ 180 := by rcases hn with ⟨rfl, h⟩ | ⟨h0, h1, _⟩ <;> omega
  have h' : 0 < upI l t 180 ↔ 180 ≤ n := by
    constructor
    · intro g; rw [decide_eq_true g] at h; exact of_decide_eq_true h.symm
    · intro g; rw [decide_eq_true g] at h; exact of_decide_eq_true h
  rw [h']; split <;> (try split) <;> omega
theorem norise_iff {l t : Int} (hs : skyB l t = true) : upI l t 0 ≤ 0 ↔ dayI l t = 0 := by
  obtain ⟨n, hn⟩ := set_is (posB l t)
  rw [hn.day hs]
  have h := hn.up hs 0 (by omega) (by omega)
  unfold posB at h
  have hb : -1 ≤ n ∧ n ≤ 180 := by rcases hn with ⟨rfl, h⟩ | ⟨h0, h1, _⟩ <;> omega
  have h' : 0 < upI l t 0 ↔ 0 ≤ n := by
    constructor
    · intro g; rw [decide_eq_true g] at h; exact of_decide_eq_true h.symm
    · intro g; rw [decide_eq_true g] at h; exact of_decide_eq_true h
  have : upI l t 0 ≤ 0 ↔ ¬ 0 ≤ n := by rw [← h']; omega
  rw [this]; split <;> (try split) <;> omega
end Go.Proofs.Ytigndpajpofofaa
