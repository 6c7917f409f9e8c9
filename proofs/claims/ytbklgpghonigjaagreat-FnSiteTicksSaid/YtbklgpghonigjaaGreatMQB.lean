/- QB: texts joined. -/
import Derived.Test.YtbklgpghonigjaaGreatMQA
namespace Go.Proofs.YtbklgpghonigjaaGreat
def skyB (l t : Int) : Bool := decide (-90 ≤ l ∧ l ≤ 90 ∧ -23 ≤ t ∧ t ≤ 23)
theorem skyB_iff {l t : Int} : skyB l t = true ↔ -90 ≤ l ∧ l ≤ 90 ∧ -23 ≤ t ∧ t ≤ 23 := by unfold skyB; simp
def eastI (t h : Int) : Int := -1000 * cosI t * sinI h
def northI (l t h : Int) : Int := 1000 * cosI l * sinI t - sinI l * cosI t * cosI h
def upI (l t h : Int) : Int := 1000 * sinI l * sinI t + cosI l * cosI t * cosI h
theorem mul_bn {x y A B : Int} (h0 : -A ≤ x) (h1 : x ≤ A) (k0 : -B ≤ y) (k1 : y ≤ B) : -(A * B) ≤ x * y ∧ x * y ≤ A * B := by
  have e1 : 0 ≤ (A - x) * (B + y) := Int.mul_nonneg (by omega) (by omega)
  have e2 : 0 ≤ (A + x) * (B - y) := Int.mul_nonneg (by omega) (by omega)
  have e3 : 0 ≤ (A - x) * (B - y) := Int.mul_nonneg (by omega) (by omega)
  have e4 : 0 ≤ (A + x) * (B + y) := Int.mul_nonneg (by omega) (by omega)
  have a1 : (A - x) * (B + y) = A * B + A * y - x * B - x * y := by grind
  have a2 : (A + x) * (B - y) = A * B - A * y + x * B - x * y := by grind
  have a3 : (A - x) * (B - y) = A * B - A * y - x * B + x * y := by grind
  have a4 : (A + x) * (B + y) = A * B + A * y + x * B + x * y := by grind
  omega
def hit (p : Int → Bool) (h : Int) : Int := if p h = true then 1 else 0
/-- How many of the n hour angles from a on have it. -/
def cnt (p : Int → Bool) (a : Int) : Nat → Int
  | 0 => 0
  | n + 1 => cnt p a n + hit p (a + n)
theorem cnt_add (p : Int → Bool) (a : Int) (n m : Nat) : cnt p a (n + m) = cnt p a n + cnt p (a + n) m := by
  induction m with
  | zero => simp [cnt]
  | succ m ih =>
    rw [show n + (m + 1) = (n + m) + 1 by omega]
    simp only [cnt]
    rw [ih, show a + ((n + m : Nat) : Int) = a + (n : Int) + (m : Int) by omega]; omega
theorem cnt_zero {p : Int → Bool} {a : Int} {n : Nat} (h : ∀ k, a ≤ k → k < a + n → p k = false) : cnt p a n = 0 := by
  induction n with
  | zero => rfl
  | succ n ih => simp only [cnt]; rw [ih (fun k h0 h1 => h k h0 (by omega))]; unfold hit; rw [h _ (by omega) (by omega)]; simp
theorem cnt_all {p : Int → Bool} {a : Int} {n : Nat} (h : ∀ k, a ≤ k → k < a + n → p k = true) : cnt p a n = n := by
  induction n with
  | zero => rfl
  | succ n ih => simp only [cnt]; rw [ih (fun k h0 h1 => h k h0 (by omega))]; unfold hit; rw [h _ (by omega) (by omega)]; simp
def posB (l t : Int) (h : Int) : Bool := decide (0 < upI l t h)
def dayI (l t : Int) : Int := if skyB l t = true then cnt (posB l t) (-180) 360 else 0
theorem cos_mod (a : Int) : cosI (a % 360) = cosI a := by unfold cosI; congr 1; omega
/-- From noon to midnight the cosine never rises. -/
theorem cos_down_all : (List.range 360).all (fun k => decide (180 ≤ (k : Int) ∨ cosI ((k : Int) + 1) ≤ cosI (k : Int))) = true := by decide +kernel
theorem cos_down (h : Int) (h0 : 0 ≤ h) (h1 : h < 180) : cosI (h + 1) ≤ cosI h := by
  have := all360 (p := fun k => decide (180 ≤ k ∨ cosI (k + 1) ≤ cosI k)) cos_down_all h h0 (by omega)
  have := of_decide_eq_true this
  omega
theorem cos_lat_all : (List.range 360).all (fun k => decide (¬ ((k : Int) ≤ 90 ∨ 270 ≤ (k : Int)) ∨ 0 ≤ cosI (k : Int))) = true := by decide +kernel
theorem cos_lat (l : Int) (h0 : -90 ≤ l) (h1 : l ≤ 90) : 0 ≤ cosI l := by
  have := all360 (p := fun k => decide (¬ (k ≤ 90 ∨ 270 ≤ k) ∨ 0 ≤ cosI k)) cos_lat_all (l % 360) (by omega) (by omega)
  have := of_decide_eq_true this
  rw [cos_mod] at this
  omega
theorem up_back (l t h : Int) : upI l t (-h) = upI l t h := by unfold upI; rw [cos_neg]
theorem up_down {l t : Int} (hs : skyB l t = true) (h : Int) (h0 : 0 ≤ h) (h1 : h < 180) : upI l t (h + 1) ≤ upI l t h := by
  obtain ⟨a, b, c, d⟩ := skyB_iff.1 hs
  have e := cos_down h h0 h1
  have f : 0 ≤ cosI l * cosI t := Int.mul_nonneg (cos_lat l a b) (cos_lat t (by omega) (by omega))
  have g := Int.mul_le_mul_of_nonneg_left e f
  unfold upI; omega
theorem up_mono {l t : Int} (hs : skyB l t = true) (n : Nat) (h : Int) (h0 : 0 ≤ h) (h1 : h + n ≤ 180) : upI l t (h + n) ≤ upI l t h := by
  induction n with
  | zero => simp
  | succ n ih =>
    have := up_down hs (h + n) (by omega) (by omega)
    have := ih (by omega)
    rw [show h + ((n + 1 : Nat) : Int) = h + n + 1 by omega]; omega
theorem up_le {l t : Int} (hs : skyB l t = true) (h k : Int) (h0 : 0 ≤ h) (h1 : h ≤ k) (h2 : k ≤ 180) : upI l t k ≤ upI l t h := by
  have := up_mono hs (k - h).toNat h h0 (by omega)
  rwa [show h + ((k - h).toNat : Int) = k by omega] at this
/-- The greatest hour angle at which the sun is up. -/
def SetIs (p : Int → Bool) (n : Int) : Prop := (n = -1 ∧ ∀ h, 0 ≤ h → h ≤ 180 → p h = false) ∨ (0 ≤ n ∧ n ≤ 180 ∧ p n = true ∧ ∀ h, n < h → h ≤ 180 → p h = false)
theorem SetIs.up {l t n : Int} (hs : skyB l t = true) (h : SetIs (posB l t) n) (k : Int) (k0 : 0 ≤ k) (k1 : k ≤ 180) : posB l t k = decide (k ≤ n) := by
  rcases h with ⟨rfl, h⟩ | ⟨h0, h1, h2, h3⟩
  · rw [h k k0 k1]; symm; simp; omega
  · by_cases e : k ≤ n
    · have := up_le hs k n k0 e h1
      unfold posB at h2 ⊢
      simp at h2 ⊢
      constructor <;> intro <;> omega
    · rw [h3 k (by omega) k1]; symm; simp; omega
theorem SetIs.day {l t n : Int} (hs : skyB l t = true) (h : SetIs (posB l t) n) : dayI l t = if n = 180 then 360 else 2 * n + (if n = -1 then 2 else 1) := by
  have hu := h.up hs
  have hb : -1 ≤ n ∧ n ≤ 180 := by rcases h with ⟨rfl, h⟩ | ⟨h0, h1, _⟩ <;> omega
  have hm : ∀ k, -180 ≤ k → k ≤ 180 → posB l t k = decide (-n ≤ k ∧ k ≤ n) := by
    intro k k0 k1
    rcases Int.le_total 0 k with g | g
    · rw [hu k g k1, Bool.eq_iff_iff]; simp; omega
    · have : posB l t k = posB l t (-k) := by unfold posB; rw [up_back]
      rw [this, hu (-k) (by omega) (by omega), Bool.eq_iff_iff]; simp; omega
  unfold dayI; rw [if_pos hs]
  by_cases e : n = 180
  · have g := cnt_all (p := posB l t) (a := -180) (n := 360) (fun k k0 k1 => by
      have k2 : k < 180 := by have : ((360 : Nat) : Int) = 360 := rfl
                              omega
      rw [hm k k0 (by omega), decide_eq_true_iff]; omega)
    rw [if_pos e, g]; rfl
  · rw [if_neg e]
    by_cases e' : n = -1
    · have g := cnt_zero (p := posB l t) (a := -180) (n := 360) (fun k k0 k1 => by
        have k2 : k < 180 := by have : ((360 : Nat) : Int) = 360 := rfl
                                omega
        rw [hm k k0 (by omega), decide_eq_false_iff_not]; omega)
      rw [if_pos e', g]; omega
    · rw [if_neg e']
      obtain ⟨m, rfl⟩ : ∃ m : Nat, n = m := ⟨n.toNat, by omega⟩
      have s0 := cnt_add (posB l t) (-180) (180 - m) (180 + m)
      have s1 := cnt_add (posB l t) (-m) (2 * m + 1) (179 - m)
      have c1 : (-180 : Int) + ((180 - m : Nat) : Int) = -m := by omega
      have c2 : (-m : Int) + ((2 * m + 1 : Nat) : Int) = m + 1 := by omega
      have c3 : 180 - m + (180 + m) = 360 := by omega
      have c4 : 2 * m + 1 + (179 - m) = 180 + m := by omega
      have z1 := cnt_zero (p := posB l t) (a := -180) (n := 180 - m) (fun k k0 k1 => by rw [hm k k0 (by omega)]; simp; omega)
      have z2 := cnt_all (p := posB l t) (a := -m) (n := 2 * m + 1) (fun k k0 k1 => by rw [hm k (by omega) (by omega)]; simp; omega)
      have z3 := cnt_zero (p := posB l t) (a := m + 1) (n := 179 - m) (fun k k0 k1 => by rw [hm k (by omega) (by omega)]; simp; omega)
      rw [c3, c1, z1] at s0
      rw [c4, c2, z2, z3] at s1
      rw [s0, s1]; omega
end Go.Proofs.YtbklgpghonigjaaGreat
namespace Go.Proofs.YtbklgpghonigjaaGreat
open Go.ChangeShapes Go.WideShapes Go.ChangeAt Go.RowKit
set_option linter.unusedSimpArgs false
set_option linter.unusedVariables false
def inR (n a b : Int) : Bool := decide (a ≤ n ∧ n ≤ b)
theorem sIn_any (n a b : Int) (w : World) :
    Calls Tryz.prog 65 #[.int .i64 n, .int .i64 a, .int .i64 b] w fun e w' => e = .returned (.bool (inR n a b)) ∧ w = w' := by
  go_enter Tryz.func65, Tryz.ntmps65
  go_wp2
  all_goals go_ret
  all_goals exact ⟨ret_bool (by rw [Bool.eq_iff_iff]; simp [inR]; omega), rfl⟩
theorem iIn_any (n a b : Int) (w : World) :
    Calls Tryz.prog 99 #[.int .i64 n, .int .i64 a, .int .i64 b] w fun e w' => e = .returned (.bool (inR n a b)) ∧ w = w' := by
  go_enter Tryz.func99, Tryz.ntmps99
  go_wp2
  all_goals go_ret
  all_goals exact ⟨ret_bool (by rw [Bool.eq_iff_iff]; simp [inR]; omega), rfl⟩
theorem iSky_any (l t : Int) (w : World) :
    Calls Tryz.prog 119 #[.int .i64 l, .int .i64 t] w fun e w' => e = .returned (.bool (skyB l t)) ∧ w = w' := by
  go_enter Tryz.func119, Tryz.ntmps119
  go_wp2_with (go_at_call 99; refine (iIn_any _ _ _ _).mono ?_; rintro e w' ⟨rfl, rfl⟩)
  all_goals go_ret
  all_goals exact ⟨ret_bool (by simp_all [skyB, inR]; try omega), rfl⟩
theorem sSky_any (l t : Int) (w : World) :
    Calls Tryz.prog 127 #[.int .i64 l, .int .i64 t] w fun e w' => e = .returned (.bool (skyB l t)) ∧ w = w' := by
  go_enter Tryz.func127, Tryz.ntmps127
  go_wp2_with (go_at_call 65; refine (sIn_any _ _ _ _).mono ?_; rintro e w' ⟨rfl, rfl⟩)
  all_goals go_ret
  all_goals exact ⟨ret_bool (by simp_all [skyB, inR]; try omega), rfl⟩
def sunV (l t h : Int) : Value := .agg #[.int .i64 (eastI t h), .int .i64 (northI l t h), .int .i64 (upI l t h)]
def sunR (l t h : Int) : Value := if skyB l t = true then .tuple #[sunV l t h, .bool true] else .tuple #[.agg #[.int .i64 0, .int .i64 0, .int .i64 0], .bool false]
theorem w_in {x : Int} (h0 : -9000000000000000000 ≤ x) (h1 : x ≤ 9000000000000000000) : wrap64 x = x := IntWalk.wrap64_in _ (by omega)
theorem east_eq (t h : Int) : wrap64 (wrap64 (-1000 * cosI t) * sinI h) = eastI t h := by
  have a := cos_bd t; have b := sin_bd h
  rw [w_in (x := -1000 * cosI t) (by omega) (by omega)]
  have c := mul_bn (A := 1000000) (B := 1000) (x := -1000 * cosI t) (y := sinI h) (by omega) (by omega) (by omega) (by omega)
  exact w_in (by omega) (by omega)
theorem north_eq (l t h : Int) : wrap64 (wrap64 (wrap64 (1000 * cosI l) * sinI t) - wrap64 (wrap64 (sinI l * cosI t) * cosI h)) = northI l t h := by
  have a := cos_bd t; have b := sin_bd t; have c := cos_bd l; have d := sin_bd l; have e := cos_bd h
  rw [w_in (x := 1000 * cosI l) (by omega) (by omega)]
  have f := mul_bn (A := 1000000) (B := 1000) (x := 1000 * cosI l) (y := sinI t) (by omega) (by omega) (by omega) (by omega)
  have g := mul_bn (A := 1000) (B := 1000) (x := sinI l) (y := cosI t) (by omega) (by omega) (by omega) (by omega)
  rw [w_in (x := sinI l * cosI t) (by omega) (by omega)]
  have k := mul_bn (A := 1000000) (B := 1000) (x := sinI l * cosI t) (y := cosI h) (by omega) (by omega) (by omega) (by omega)
  rw [w_in (x := 1000 * cosI l * sinI t) (by omega) (by omega), w_in (x := sinI l * cosI t * cosI h) (by omega) (by omega)]
  exact w_in (by omega) (by omega)
theorem up_eq (l t h : Int) : wrap64 (wrap64 (wrap64 (1000 * sinI l) * sinI t) + wrap64 (wrap64 (cosI l * cosI t) * cosI h)) = upI l t h := by
  have a := cos_bd t; have b := sin_bd t; have c := cos_bd l; have d := sin_bd l; have e := cos_bd h
  rw [w_in (x := 1000 * sinI l) (by omega) (by omega)]
  have f := mul_bn (A := 1000000) (B := 1000) (x := 1000 * sinI l) (y := sinI t) (by omega) (by omega) (by omega) (by omega)
  have g := mul_bn (A := 1000) (B := 1000) (x := cosI l) (y := cosI t) (by omega) (by omega) (by omega) (by omega)
  rw [w_in (x := cosI l * cosI t) (by omega) (by omega)]
  have k := mul_bn (A := 1000000) (B := 1000) (x := cosI l * cosI t) (y := cosI h) (by omega) (by omega) (by omega) (by omega)
  rw [w_in (x := 1000 * sinI l * sinI t) (by omega) (by omega), w_in (x := cosI l * cosI t * cosI h) (by omega) (by omega)]
  exact w_in (by omega) (by omega)
theorem up_bd (l t h : Int) : -2000000000 ≤ upI l t h ∧ upI l t h ≤ 2000000000 := by
  have a := cos_bd t; have b := sin_bd t; have c := cos_bd l; have d := sin_bd l; have e := cos_bd h
  have f := mul_bn (A := 1000000) (B := 1000) (x := 1000 * sinI l) (y := sinI t) (by omega) (by omega) (by omega) (by omega)
  have g := mul_bn (A := 1000) (B := 1000) (x := cosI l) (y := cosI t) (by omega) (by omega) (by omega) (by omega)
  have k := mul_bn (A := 1000000) (B := 1000) (x := cosI l * cosI t) (y := cosI h) (by omega) (by omega) (by omega) (by omega)
  unfold upI; omega
theorem north_bd (l t h : Int) : -2000000000 ≤ northI l t h ∧ northI l t h ≤ 2000000000 := by
  have a := cos_bd t; have b := sin_bd t; have c := cos_bd l; have d := sin_bd l; have e := cos_bd h
  have f := mul_bn (A := 1000000) (B := 1000) (x := 1000 * cosI l) (y := sinI t) (by omega) (by omega) (by omega) (by omega)
  have g := mul_bn (A := 1000) (B := 1000) (x := sinI l) (y := cosI t) (by omega) (by omega) (by omega) (by omega)
  have k := mul_bn (A := 1000000) (B := 1000) (x := sinI l * cosI t) (y := cosI h) (by omega) (by omega) (by omega) (by omega)
  unfold northI; omega
theorem east_bd (t h : Int) : -1000000000 ≤ eastI t h ∧ eastI t h ≤ 1000000000 := by
  have a := cos_bd t; have b := sin_bd h
  have c := mul_bn (A := 1000000) (B := 1000) (x := -1000 * cosI t) (y := sinI h) (by omega) (by omega) (by omega) (by omega)
  unfold eastI; omega
set_option maxHeartbeats 4000000 in
theorem iSun_any (l t h : Int) (w : World) :
    Calls Tryz.prog 104 #[.int .i64 l, .int .i64 t, .int .i64 h] w fun e w' => e = .returned (sunR l t h) ∧ Below w.heap.size w w' := by
  cases hs : skyB l t
  · go_enter Tryz.func104, Tryz.ntmps104
    go_wp2_with fail
    refine (iSky_any _ _ _).mono ?_; rintro e w' ⟨rfl, rfl⟩
    rw [hs]
    go_wp2
    refine bodyPost_ret (v := .tuple #[.agg #[.int .i64 0, .int .i64 0, .int .i64 0], .bool false]) (by simp [results, Tryz.results104, go_sem]) rfl ⟨by unfold sunR; simp [hs], ?_⟩
    exact bel1 _ _
  · have E1 := Lib.hid (east_eq t h)
    have E2 := Lib.hid (north_eq l t h)
    have E3 := Lib.hid (up_eq l t h)
    go_enter Tryz.func104, Tryz.ntmps104
    go_wp2_with (first | (go_at_call 119; refine (iSky_any _ _ _).mono ?_; rintro e w' ⟨rfl, rfl⟩) | (go_at_call 133; refine (iSine_any _ _).mono ?_; rintro e w' ⟨rfl, rfl⟩) | (go_at_call 134; refine (iCos_any _ _).mono ?_; rintro e w' ⟨rfl, rfl⟩))
    rw [E1.out, E2.out, E3.out]
    refine bodyPost_ret (v := .tuple #[sunV l t h, .bool true]) (by simp [results, Tryz.results104, go_sem, sunV]) rfl ⟨by unfold sunR; simp [hs], ?_⟩
    exact bel1 _ _
set_option maxHeartbeats 4000000 in
theorem sSun_any (l t h : Int) (w : World) :
    Calls Tryz.prog 92 #[.int .i64 l, .int .i64 t, .int .i64 h] w fun e w' => e = .returned (sunR l t h) ∧ Below w.heap.size w w' := by
  cases hs : skyB l t
  · go_enter Tryz.func92, Tryz.ntmps92
    go_wp2_with fail
    refine (sSky_any _ _ _).mono ?_; rintro e w' ⟨rfl, rfl⟩
    rw [hs]
    go_wp2
    refine bodyPost_ret (v := .tuple #[.agg #[.int .i64 0, .int .i64 0, .int .i64 0], .bool false]) (by simp [results, Tryz.results92, go_sem]) rfl ⟨by unfold sunR; simp [hs], ?_⟩
    exact bel1 _ _
  · have E1 := Lib.hid (east_eq t h)
    have E2 := Lib.hid (north_eq l t h)
    have E3 := Lib.hid (up_eq l t h)
    have M1 := Lib.hid (sin_mod h)
    have M2 := Lib.hid (cos_mod h)
    go_enter Tryz.func92, Tryz.ntmps92
    go_wp2_with (first | (go_at_call 127; refine (sSky_any _ _ _).mono ?_; rintro e w' ⟨rfl, rfl⟩) | (go_at_call 128; refine (sSine_any _ _).mono ?_; rintro e w' ⟨rfl, rfl⟩) | (go_at_call 129; refine (sCos_any _ _).mono ?_; rintro e w' ⟨rfl, rfl⟩) | (go_at_call 130; refine (sTurn_any _ _).mono ?_; rintro e w' ⟨rfl, rfl⟩))
    rw [M1.out, M2.out, E1.out, E2.out, E3.out]
    refine bodyPost_ret (v := .tuple #[sunV l t h, .bool true]) (by simp [results, Tryz.results92, go_sem, sunV]) rfl ⟨by unfold sunR; simp [hs], ?_⟩
    exact bel1 _ _
theorem iSun_t {l t : Int} (h : Int) (w : World) (hs : skyB l t = true) : Calls Tryz.prog 104 #[.int .i64 l, .int .i64 t, .int .i64 h] w fun e w' => e = .returned (.tuple #[.agg #[.int .i64 (eastI t h), .int .i64 (northI l t h), .int .i64 (upI l t h)], .bool true]) ∧ Below w.heap.size w w' := by
  refine (iSun_any l t h w).mono ?_; rintro e w' ⟨rfl, hw⟩; exact ⟨by unfold sunR sunV; simp [hs], hw⟩
theorem sSun_t {l t : Int} (h : Int) (w : World) (hs : skyB l t = true) : Calls Tryz.prog 92 #[.int .i64 l, .int .i64 t, .int .i64 h] w fun e w' => e = .returned (.tuple #[.agg #[.int .i64 (eastI t h), .int .i64 (northI l t h), .int .i64 (upI l t h)], .bool true]) ∧ Below w.heap.size w w' := by
  refine (sSun_any l t h w).mono ?_; rintro e w' ⟨rfl, hw⟩; exact ⟨by unfold sunR sunV; simp [hs], hw⟩
end Go.Proofs.YtbklgpghonigjaaGreat
namespace Go.Proofs.YtbklgpghonigjaaGreat
open Go.ChangeShapes Go.WideShapes Go.ChangeAt Go.RowKit
set_option linter.unusedSimpArgs false
set_option linter.unusedVariables false
end Go.Proofs.YtbklgpghonigjaaGreat
namespace Go.Proofs.YtbklgpghonigjaaGreat
open Go.ChangeShapes Go.WideShapes Go.ChangeAt Go.RowKit
set_option linter.unusedSimpArgs false
set_option linter.unusedVariables false
def setS (l t n : Int) : Prop := (skyB l t = false ∧ n = -1) ∨ (skyB l t = true ∧ SetIs (posB l t) n)
theorem setS.bd {l t n : Int} (h : setS l t n) : -1 ≤ n ∧ n ≤ 180 := by
  rcases h with ⟨_, rfl⟩ | ⟨_, ⟨rfl, _⟩ | ⟨h0, h1, _⟩⟩ <;> omega
/-- Of the hour angles above k none, and the greatest below k. -/
def Above (p : Int → Bool) (k : Int) : Prop := ∀ h, k < h → h ≤ 180 → p h = false
def SoFar (p : Int → Bool) (k n : Int) : Prop := (n = -1 ∧ ∀ h, 0 ≤ h → h < k → p h = false) ∨ (0 ≤ n ∧ n < k ∧ p n = true ∧ ∀ h, n < h → h < k → p h = false)
theorem SoFar.no {p : Int → Bool} {k n : Int} (h : SoFar p k n) (hp : p k = false) : SoFar p (k + 1) n := by
  rcases h with ⟨rfl, h⟩ | ⟨h0, h1, h2, h3⟩
  · refine .inl ⟨rfl, fun j j0 j1 => ?_⟩
    by_cases e : j = k
    · rw [e]; exact hp
    · exact h j j0 (by omega)
  · refine .inr ⟨h0, by omega, h2, fun j j0 j1 => ?_⟩
    by_cases e : j = k
    · rw [e]; exact hp
    · exact h3 j j0 (by omega)
theorem SoFar.all {p : Int → Bool} {n : Int} (h : SoFar p 181 n) : SetIs p n := by
  rcases h with ⟨rfl, h⟩ | ⟨h0, h1, h2, h3⟩
  · exact .inl ⟨rfl, fun j j0 j1 => h j j0 (by omega)⟩
  · exact .inr ⟨h0, by omega, h2, fun j j0 j1 => h3 j j0 (by omega)⟩
theorem Above.next {p : Int → Bool} {k : Int} (h : Above p k) (hp : p k = false) : Above p (k - 1) := by
  intro j j0 j1
  by_cases e : j = k
  · rw [e]; exact hp
  · exact h j (by omega) j1
end Go.Proofs.YtbklgpghonigjaaGreat
namespace Go.Proofs.YtbklgpghonigjaaGreat
open Go.ChangeShapes Go.WideShapes Go.ChangeAt Go.RowKit
set_option linter.unusedSimpArgs false
set_option linter.unusedVariables false
theorem iSky_is {l t : Int} {b : Bool} (w : World) (h : skyB l t = b) : Calls Tryz.prog 119 #[.int .i64 l, .int .i64 t] w fun e w' => e = .returned (.bool b) ∧ w = w' := by subst h; exact iSky_any l t w
theorem iSun_is {l t h e n u : Int} (w : World) (hs : skyB l t = true) (he : eastI t h = e) (hn : northI l t h = n) (hu : upI l t h = u) : Calls Tryz.prog 104 #[.int .i64 l, .int .i64 t, .int .i64 h] w fun e' w' => e' = .returned (.tuple #[.agg #[.int .i64 e, .int .i64 n, .int .i64 u], .bool true]) ∧ Below w.heap.size w w' := by subst he; subst hn; subst hu; exact iSun_t h w hs
theorem sSun_is {l t h e n u : Int} (w : World) (hs : skyB l t = true) (he : eastI t h = e) (hn : northI l t h = n) (hu : upI l t h = u) : Calls Tryz.prog 92 #[.int .i64 l, .int .i64 t, .int .i64 h] w fun e' w' => e' = .returned (.tuple #[.agg #[.int .i64 e, .int .i64 n, .int .i64 u], .bool true]) ∧ Below w.heap.size w w' := by subst he; subst hn; subst hu; exact sSun_t h w hs
end Go.Proofs.YtbklgpghonigjaaGreat
namespace Go.Proofs.YtbklgpghonigjaaGreat
open Go.ChangeShapes Go.WideShapes Go.ChangeAt Go.RowKit
set_option linter.unusedSimpArgs false
set_option linter.unusedVariables false
def inK (n a b : Int) : Bool := decide (a ≤ n ∧ n ≤ b)
theorem sInK_any (n a b : Int) (w : World) :
    Calls Tryz.prog 65 #[.int .i64 n, .int .i64 a, .int .i64 b] w fun e w' => e = .returned (.bool (inK n a b)) ∧ w = w' := by
  go_enter Tryz.func65, Tryz.ntmps65
  go_wp2
  all_goals go_ret
  all_goals exact ⟨ret_bool (by rw [Bool.eq_iff_iff]; simp [inK]; omega), rfl⟩
theorem iInK_any (n a b : Int) (w : World) :
    Calls Tryz.prog 99 #[.int .i64 n, .int .i64 a, .int .i64 b] w fun e w' => e = .returned (.bool (inK n a b)) ∧ w = w' := by
  go_enter Tryz.func99, Tryz.ntmps99
  go_wp2
  all_goals go_ret
  all_goals exact ⟨ret_bool (by rw [Bool.eq_iff_iff]; simp [inK]; omega), rfl⟩
theorem mod_eq (n m : Int) (hm : 0 < m) (hm1 : m ≤ 4000000000000000000) : (wrap64 (n.tmod m + m)).tmod m = n % m := by
  have h1 := Int.mul_tdiv_add_tmod n m
  have h2 := Int.tmod_lt_of_pos n hm
  have h3 := Int.lt_tmod_of_pos n hm
  rw [IntWalk.wrap64_in _ (by omega), Int.tmod_eq_emod_of_nonneg (by omega)]
  rw [Int.add_emod_right]
  have e : n = n.tmod m + m * n.tdiv m := by omega
  conv => rhs; rw [e, Int.add_mul_emod_self_left]
theorem sMod_any (n m : Int) (w : World) (hm : 0 < m) (hm1 : m ≤ 4000000000000000000) :
    Calls Tryz.prog 143 #[.int .i64 n, .int .i64 m] w fun e w' => e = .returned (.int .i64 (n % m)) ∧ w = w' := by
  have hm0 : m ≠ 0 := by omega
  have HE := Lib.hid (mod_eq n m hm hm1)
  go_enter Tryz.func143, Tryz.ntmps143
  go_wp2
  go_ret
  exact ⟨ret_int HE.out, rfl⟩
theorem sub_mod_div (x m : Int) (hm : 0 < m) : (x - x % m).tdiv m = x / m := by
  have e : x - x % m = m * (x / m) := by have := Int.mul_ediv_add_emod x m; omega
  rw [e, Int.mul_tdiv_cancel_left _ (by omega)]
theorem sNear_any (n b : Int) (w : World) (hb : 0 < b) (hb1 : b ≤ 1000000000000) (h0 : -1000000000000000000 ≤ n) (h1 : n ≤ 1000000000000000000) : Calls Tryz.prog 131 #[.int .i64 n, .int .i64 b] w fun e w' => e = .returned (.int .i64 (nearI n b)) ∧ w = w' := by
  have m0 := Int.emod_nonneg (2 * n + b) (show 2 * b ≠ 0 by omega)
  have m1 := Int.emod_lt_of_pos (2 * n + b) (show 0 < 2 * b by omega)
  have HE := Lib.hid (sub_mod_div (2 * n + b) (2 * b) (by omega))
  have hb0 : 2 * b ≠ 0 := by omega
  go_enter Tryz.func131, Tryz.ntmps131
  go_wp2_with fail
  refine (sMod_any _ _ _ (by omega) (by omega)).mono ?_; rintro e w1 ⟨rfl, rfl⟩
  go_wp2
  go_ret
  exact ⟨ret_int HE.out, rfl⟩
def yearDayB (d : Int) : Bool := decide (1 ≤ d ∧ d ≤ 366)
theorem yd_any (d : Int) (w : World) : Calls Tryz.prog 135 #[.int .i64 d] w fun e w' => e = .returned (.bool (yearDayB d)) ∧ w = w' := by
  go_enter Tryz.func135, Tryz.ntmps135
  go_wp2_with (go_at_call 99; refine (iInK_any _ _ _ _).mono ?_; rintro e w' ⟨rfl, rfl⟩)
  go_ret
  exact ⟨rfl, rfl⟩
theorem syd_any (d : Int) (w : World) : Calls Tryz.prog 65 #[.int .i64 d, .int .i64 1, .int .i64 366] w fun e w' => e = .returned (.bool (yearDayB d)) ∧ w = w' := sInK_any d 1 366 w
theorem yearDayB_iff {d : Int} : yearDayB d = true ↔ 1 ≤ d ∧ d ≤ 366 := by unfold yearDayB; simp
/-- The tilt of a day. -/
def tiltI (d : Int) : Int := if yearDayB d = true then nearI (23450 * sinI (360 * (d + 284) / 365)) 1000000 else 0
theorem iTilt_any (d : Int) (w : World) : Calls Tryz.prog 105 #[.int .i64 d] w fun e w' => e = .returned (.int .i64 (tiltI d)) ∧ w = w' := by
  cases hd : yearDayB d
  · have E := Lib.hid (show tiltI d = 0 by unfold tiltI; simp [hd])
    go_enter Tryz.func105, Tryz.ntmps105
    go_wp2_with fail
    refine (yd_any _ _).mono ?_; rintro e w1 ⟨rfl, rfl⟩
    rw [hd]
    go_wp2
    go_ret
    exact ⟨ret_int E.out.symm, rfl⟩
  · have E := Lib.hid (show tiltI d = nearI (23450 * sinI (360 * (d + 284) / 365)) 1000000 by unfold tiltI; rw [if_pos hd])
    have hb := yearDayB_iff.1 hd
    have hs := sin_bd (360 * (d + 284) / 365)
    go_enter Tryz.func105, Tryz.ntmps105
    go_wp2_with fail
    refine (yd_any _ _).mono ?_; rintro e w1 ⟨rfl, rfl⟩
    rw [hd]
    go_wp2_with fail
    refine (qd_any _ _ _ (by omega) (by omega) (by omega) (by omega)).mono ?_; rintro e w1 ⟨rfl, rfl⟩
    go_wp2_with fail
    refine (iSine_any _ _).mono ?_; rintro e w1 ⟨rfl, rfl⟩
    go_wp2_with fail
    refine (near_any _ _ _ (by omega) (by omega) (by omega) (by omega)).mono ?_; rintro e w1 ⟨rfl, rfl⟩
    go_wp2
    go_ret
    exact ⟨ret_int E.out.symm, rfl⟩
theorem sTilt_any (d : Int) (w : World) : Calls Tryz.prog 93 #[.int .i64 d] w fun e w' => e = .returned (.int .i64 (tiltI d)) ∧ w = w' := by
  cases hd : yearDayB d
  · have E := Lib.hid (show tiltI d = 0 by unfold tiltI; simp [hd])
    go_enter Tryz.func93, Tryz.ntmps93
    go_wp2_with fail
    refine (syd_any _ _).mono ?_; rintro e w1 ⟨rfl, rfl⟩
    rw [hd]
    go_wp2
    go_ret
    exact ⟨ret_int E.out.symm, rfl⟩
  · have E := Lib.hid (show tiltI d = nearI (23450 * sinI (360 * (d + 284) / 365)) 1000000 by unfold tiltI; rw [if_pos hd])
    have hb := yearDayB_iff.1 hd
    have hs := sin_bd (360 * (d + 284) / 365)
    go_enter Tryz.func93, Tryz.ntmps93
    go_wp2_with fail
    refine (syd_any _ _).mono ?_; rintro e w1 ⟨rfl, rfl⟩
    rw [hd]
    go_wp2_with fail
    refine (sSine_any _ _).mono ?_; rintro e w1 ⟨rfl, rfl⟩
    go_wp2_with fail
    refine (sNear_any _ _ _ (by omega) (by omega) (by omega) (by omega)).mono ?_; rintro e w1 ⟨rfl, rfl⟩
    go_wp2
    go_ret
    exact ⟨ret_int E.out.symm, rfl⟩
theorem mv_any (m : Int) (w : World) : Calls Tryz.prog 120 #[.int .i64 m] w fun e w' => e = .returned (.bool (inK m 0 1439)) ∧ w = w' := by
  go_enter Tryz.func120, Tryz.ntmps120
  go_wp2_with (go_at_call 99; refine (iInK_any _ _ _ _).mono ?_; rintro e w' ⟨rfl, rfl⟩)
  go_ret
  exact ⟨rfl, rfl⟩
end Go.Proofs.YtbklgpghonigjaaGreat
namespace Go.Proofs.YtbklgpghonigjaaGreat
open Go.ChangeShapes Go.WideShapes Go.ChangeAt Go.RowKit
set_option linter.unusedSimpArgs false
set_option linter.unusedVariables false
/-- A fact of all days of a year, by looking. -/
theorem all367 {p : Int → Bool} (h : (List.range 367).all (fun k => p (k : Int)) = true) (t : Int) (h0 : 0 ≤ t) (h1 : t < 367) : p t = true := by
  have := List.all_eq_true.1 h t.toNat (by rw [List.mem_range]; omega)
  rwa [show ((t.toNat : Nat) : Int) = t by omega] at this
theorem tilt_all : (List.range 367).all (fun k => decide (-23 ≤ tiltI (k : Int) ∧ tiltI (k : Int) ≤ 23 ∧ ((k : Int) = 0 ∨ (k : Int) = 366 ∨ (tiltI ((k : Int) + 1) - tiltI (k : Int) ≤ 1 ∧ tiltI (k : Int) - tiltI ((k : Int) + 1) ≤ 1)))) = true := by decide +kernel
theorem tilt_facts (d : Int) (h : yearDayB d = true) : -23 ≤ tiltI d ∧ tiltI d ≤ 23 ∧ (d = 366 ∨ (tiltI (d + 1) - tiltI d ≤ 1 ∧ tiltI d - tiltI (d + 1) ≤ 1)) := by
  have hb := yearDayB_iff.1 h
  have := all367 (p := fun k => decide (-23 ≤ tiltI k ∧ tiltI k ≤ 23 ∧ (k = 0 ∨ k = 366 ∨ (tiltI (k + 1) - tiltI k ≤ 1 ∧ tiltI k - tiltI (k + 1) ≤ 1)))) tilt_all d (by omega) (by omega)
  have := of_decide_eq_true this
  omega
theorem tilt_bd (d : Int) : -23 ≤ tiltI d ∧ tiltI d ≤ 23 := by
  cases h : yearDayB d
  · unfold tiltI; rw [h]; simp
  · have := tilt_facts d h; omega
def haI (m : Int) : Int := if 0 ≤ m ∧ m ≤ 1439 then (m - 720) / 4 else -181
theorem iHA_any (m : Int) (w : World) : Calls Tryz.prog 106 #[.int .i64 m] w fun e w' => e = .returned (.int .i64 (haI m)) ∧ w = w' := by
  by_cases h : 0 ≤ m ∧ m ≤ 1439
  · have E := Lib.hid (show haI m = (m - 720) / 4 by unfold haI; rw [if_pos h])
    have hk : inK m 0 1439 = true := by unfold inK; simp; omega
    go_enter Tryz.func106, Tryz.ntmps106
    go_wp2_with fail
    refine (mv_any _ _).mono ?_; rintro e w1 ⟨rfl, rfl⟩
    rw [hk]
    go_wp2_with fail
    refine (qd_any _ _ _ (by omega) (by omega) (by omega) (by omega)).mono ?_; rintro e w1 ⟨rfl, rfl⟩
    go_wp2
    go_ret
    exact ⟨ret_int E.out.symm, rfl⟩
  · have E := Lib.hid (show haI m = -181 by unfold haI; rw [if_neg h])
    have hk : inK m 0 1439 = false := by unfold inK; simp; omega
    clear h
    go_enter Tryz.func106, Tryz.ntmps106
    go_wp2_with fail
    refine (mv_any _ _).mono ?_; rintro e w1 ⟨rfl, rfl⟩
    rw [hk]
    go_wp2
    go_ret
    exact ⟨ret_int E.out.symm, rfl⟩
theorem sHA_any (m : Int) (w : World) : Calls Tryz.prog 94 #[.int .i64 m] w fun e w' => e = .returned (.int .i64 (haI m)) ∧ w = w' := by
  by_cases h : 0 ≤ m ∧ m ≤ 1439
  · have E : Hid (haI m = m / 4 - 180) := by show _ = _; unfold haI; rw [if_pos h]; omega
    have hk : inK m 0 1439 = true := by unfold inK; simp; omega
    go_enter Tryz.func94, Tryz.ntmps94
    go_wp2_with fail
    refine (sInK_any _ _ _ _).mono ?_; rintro e w1 ⟨rfl, rfl⟩
    rw [hk]
    go_wp2
    go_ret
    exact ⟨ret_int E.out.symm, rfl⟩
  · have E := Lib.hid (show haI m = -181 by unfold haI; rw [if_neg h])
    have hk : inK m 0 1439 = false := by unfold inK; simp; omega
    clear h
    go_enter Tryz.func94, Tryz.ntmps94
    go_wp2_with fail
    refine (sInK_any _ _ _ _).mono ?_; rintro e w1 ⟨rfl, rfl⟩
    rw [hk]
    go_wp2
    go_ret
    exact ⟨ret_int E.out.symm, rfl⟩
end Go.Proofs.YtbklgpghonigjaaGreat
namespace Go.Proofs.YtbklgpghonigjaaGreat
open Go.ChangeShapes Go.WideShapes Go.ChangeAt Go.RowKit
set_option linter.unusedSimpArgs false
set_option linter.unusedVariables false
theorem iTilt_is {d x : Int} (w : World) (h : tiltI d = x) : Calls Tryz.prog 105 #[.int .i64 d] w fun e w' => e = .returned (.int .i64 x) ∧ w = w' := by subst h; exact iTilt_any d w
theorem iHA_is {d x : Int} (w : World) (h : haI d = x) : Calls Tryz.prog 106 #[.int .i64 d] w fun e w' => e = .returned (.int .i64 x) ∧ w = w' := by subst h; exact iHA_any d w
theorem sTilt_is {d x : Int} (w : World) (h : tiltI d = x) : Calls Tryz.prog 93 #[.int .i64 d] w fun e w' => e = .returned (.int .i64 x) ∧ w = w' := by subst h; exact sTilt_any d w
theorem sHA_is {d x : Int} (w : World) (h : haI d = x) : Calls Tryz.prog 94 #[.int .i64 d] w fun e w' => e = .returned (.int .i64 x) ∧ w = w' := by subst h; exact sHA_any d w
end Go.Proofs.YtbklgpghonigjaaGreat
namespace Go.Proofs.YtbklgpghonigjaaGreat
open Go Go.ChangeShapes Go.WideShapes Go.ChangeAt Go.RowKit
set_option linter.unusedSimpArgs false
set_option linter.unusedVariables false
set_option linter.unnecessarySimpa false
/-- A number of the sun as one of a direction. -/
def raI (n least : Int) : Int := min (max (nearI n 50000000) least) 20
theorem raI_bd {n least : Int} (h0 : -20 ≤ least) (h1 : least ≤ 20) : least ≤ raI n least ∧ raI n least ≤ 20 := by unfold raI; omega
theorem near5_bd {n : Int} (h0 : -2000000000 ≤ n) (h1 : n ≤ 2000000000) : -40 ≤ nearI n 50000000 ∧ nearI n 50000000 ≤ 40 := by unfold nearI; omega
set_option maxHeartbeats 4000000 in
theorem iRN_is {n least x : Int} (w : World) (h0 : -2000000000 ≤ n) (h1 : n ≤ 2000000000) (k0 : -20 ≤ least) (k1 : least ≤ 20) (hx : raI n least = x) : Calls Tryz.prog 107 #[.int .i64 n, .int .i64 least] w fun e w' => e = .returned (.int .i64 x) ∧ w = w' := by
  have hb := near5_bd h0 h1
  unfold raI at hx
  go_enter Tryz.func107, Tryz.ntmps107
  go_wp2_with fail
  refine (near_any _ _ _ (by omega) (by omega) (by omega) (by omega)).mono ?_; rintro e w1 ⟨rfl, rfl⟩
  generalize nearI n 50000000 = m at hb hx ⊢
  go_wp2
  all_goals go_ret
  all_goals refine ⟨?_, rfl⟩
  all_goals refine congrArg Ending.returned (congrArg (Value.int .i64) ?_)
  all_goals (subst hx; simp only [Int.max_def, Int.min_def])
  all_goals by_cases c : m < least
  all_goals (first | (have c2 : m + 1 ≤ least := by omega) | (have c2 : least ≤ m := by omega))
  all_goals (try simp only [c, if_true, if_false] at *)
  all_goals repeat' split
  all_goals omega
set_option maxHeartbeats 4000000 in
theorem sN10_is {n x : Int} (w : World) (h0 : -2000000000 ≤ n) (h1 : n ≤ 2000000000) (hx : raI n (-20) = x) : Calls Tryz.prog 95 #[.int .i64 n] w fun e w' => e = .returned (.int .i64 x) ∧ w = w' := by
  have hb := near5_bd h0 h1
  unfold raI at hx
  go_enter Tryz.func95, Tryz.ntmps95
  go_wp2_with fail
  refine (sNear_any _ _ _ (by omega) (by omega) (by omega) (by omega)).mono ?_; rintro e w1 ⟨rfl, rfl⟩
  generalize nearI n 50000000 = m at hb hx ⊢
  go_wp2
  all_goals go_ret
  all_goals refine ⟨?_, rfl⟩
  all_goals refine congrArg Ending.returned (congrArg (Value.int .i64) ?_)
  all_goals (subst hx; simp only [Int.max_def, Int.min_def])
  all_goals by_cases c : m < -20
  all_goals (first | (have c2 : m + 1 ≤ -20 := by omega) | (have c2 : -20 ≤ m := by omega))
  all_goals (try simp only [c, if_true, if_false] at *)
  all_goals repeat' split
  all_goals omega
end Go.Proofs.YtbklgpghonigjaaGreat
