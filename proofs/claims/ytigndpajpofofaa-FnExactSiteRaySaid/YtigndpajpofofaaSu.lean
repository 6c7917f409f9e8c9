/- Contracts of chapter 3: the sky, where the sun is. -/
import Derived.Test.YtigndpajpofofaaTs
import Derived.Test.YtigndpajpofofaaSun
namespace Go.Proofs.Ytigndpajpofofaa
open Go.ChangeShapes Go.WideShapes Go.ChangeAt Go.RowKit
set_option linter.unusedSimpArgs false
set_option linter.unusedVariables false

def inR (n a b : Int) : Bool := decide (a ≤ n ∧ n ≤ b)
theorem sIn_any (n a b : Int) (w : World) :
    Calls Try.prog 20 #[.int .i64 n, .int .i64 a, .int .i64 b] w fun e w' => e = .returned (.bool (inR n a b)) ∧ w = w' := by
  go_enter Try.func20, Try.ntmps20
  go_wp2
  all_goals go_ret
  all_goals exact ⟨ret_bool (by rw [Bool.eq_iff_iff]; simp [inR]; omega), rfl⟩
theorem iIn_any (n a b : Int) (w : World) :
    Calls Try.prog 55 #[.int .i64 n, .int .i64 a, .int .i64 b] w fun e w' => e = .returned (.bool (inR n a b)) ∧ w = w' := by
  go_enter Try.func55, Try.ntmps55
  go_wp2
  all_goals go_ret
  all_goals exact ⟨ret_bool (by rw [Bool.eq_iff_iff]; simp [inR]; omega), rfl⟩
theorem iSky_any (l t : Int) (w : World) :
    Calls Try.prog 54 #[.int .i64 l, .int .i64 t] w fun e w' => e = .returned (.bool (skyB l t)) ∧ w = w' := by
  go_enter Try.func54, Try.ntmps54
  go_wp2_with (go_at_call 55; refine (iIn_any _ _ _ _).mono ?_; rintro e w' ⟨rfl, rfl⟩)
  all_goals go_ret
  all_goals exact ⟨ret_bool (by simp_all [skyB, inR]; try omega), rfl⟩
theorem sSky_any (l t : Int) (w : World) :
    Calls Try.prog 62 #[.int .i64 l, .int .i64 t] w fun e w' => e = .returned (.bool (skyB l t)) ∧ w = w' := by
  go_enter Try.func62, Try.ntmps62
  go_wp2_with (go_at_call 20; refine (sIn_any _ _ _ _).mono ?_; rintro e w' ⟨rfl, rfl⟩)
  all_goals go_ret
  all_goals exact ⟨ret_bool (by simp_all [skyB, inR]; try omega), rfl⟩
def sunV (l t h : Int) : Value := .agg #[.int .i64 (eastI t h), .int .i64 (northI l t h), .int .i64 (upI l t h)]
def sunR (l t h : Int) : Value := if skyB l t = true then .tuple #[sunV l t h, .bool true] else .tuple #[.agg #[.int .i64 0, .int .i64 0, .int .i64 0], .bool false]
theorem w_in {x : Int} (h0 : -9000000000000000000 ≤ x) (h1 : x ≤ 9000000000000000000) : wrap64 x = x := IntWalk.wrap64_in _ (by omega)
theorem east_eq (t h : Int) : wrap64 (wrap64 (-1000 * cosI t) * sinI h) = eastI t h := by
  have a := cos_bd t; have b := sin_bd h
  rw [w_in (x := -1000 * cosI t) (by omega) (by omega)]
  have c := mul_bn (A := 1000000) (B := 1000) (x := -1000 * cosI t) (y := sinI h) (by omega) (by omega) (by omega) (by omega)
  exact w_in (by omega) (by omega)
theorem north_eq (l t h : Int) : wrap64 (wrap64 (wrap64 (1000 * cosI l) * sinI t) - wrap64 (wrap64 (sinI l * cosI t) * cosI h)) = northI l t h := by
  have a := cos_bd t; have b := sin_bd t; have c := cos_bd l; have d := sin_bd l; have e := cos_bd h
  rw [w_in (x := 1000 * cosI l) (by omega) (by omega)]
  have f := mul_bn (A := 1000000) (B := 1000) (x := 1000 * cosI l) (y := sinI t) (by omega) (by omega) (by omega) (by omega)
  have g := mul_bn (A := 1000) (B := 1000) (x := sinI l) (y := cosI t) (by omega) (by omega) (by omega) (by omega)
  rw [w_in (x := sinI l * cosI t) (by omega) (by omega)]
  have k := mul_bn (A := 1000000) (B := 1000) (x := sinI l * cosI t) (y := cosI h) (by omega) (by omega) (by omega) (by omega)
  rw [w_in (x := 1000 * cosI l * sinI t) (by omega) (by omega), w_in (x := sinI l * cosI t * cosI h) (by omega) (by omega)]
  exact w_in (by omega) (by omega)
theorem up_eq (l t h : Int) : wrap64 (wrap64 (wrap64 (1000 * sinI l) * sinI t) + wrap64 (wrap64 (cosI l * cosI t) * cosI h)) = upI l t h := by
  have a := cos_bd t; have b := sin_bd t; have c := cos_bd l; have d := sin_bd l; have e := cos_bd h
  rw [w_in (x := 1000 * sinI l) (by omega) (by omega)]
  have f := mul_bn (A := 1000000) (B := 1000) (x := 1000 * sinI l) (y := sinI t) (by omega) (by omega) (by omega) (by omega)
  have g := mul_bn (A := 1000) (B := 1000) (x := cosI l) (y := cosI t) (by omega) (by omega) (by omega) (by omega)
  rw [w_in (x := cosI l * cosI t) (by omega) (by omega)]
  have k := mul_bn (A := 1000000) (B := 1000) (x := cosI l * cosI t) (y := cosI h) (by omega) (by omega) (by omega) (by omega)
  rw [w_in (x := 1000 * sinI l * sinI t) (by omega) (by omega), w_in (x := cosI l * cosI t * cosI h) (by omega) (by omega)]
  exact w_in (by omega) (by omega)
theorem up_bd (l t h : Int) : -2000000000 ≤ upI l t h ∧ upI l t h ≤ 2000000000 := by
  have a := cos_bd t; have b := sin_bd t; have c := cos_bd l; have d := sin_bd l; have e := cos_bd h
  have f := mul_bn (A := 1000000) (B := 1000) (x := 1000 * sinI l) (y := sinI t) (by omega) (by omega) (by omega) (by omega)
  have g := mul_bn (A := 1000) (B := 1000) (x := cosI l) (y := cosI t) (by omega) (by omega) (by omega) (by omega)
  have k := mul_bn (A := 1000000) (B := 1000) (x := cosI l * cosI t) (y := cosI h) (by omega) (by omega) (by omega) (by omega)
  unfold upI; omega
theorem north_bd (l t h : Int) : -2000000000 ≤ northI l t h ∧ northI l t h ≤ 2000000000 := by
  have a := cos_bd t; have b := sin_bd t; have c := cos_bd l; have d := sin_bd l; have e := cos_bd h
  have f := mul_bn (A := 1000000) (B := 1000) (x := 1000 * cosI l) (y := sinI t) (by omega) (by omega) (by omega) (by omega)
  have g := mul_bn (A := 1000) (B := 1000) (x := sinI l) (y := cosI t) (by omega) (by omega) (by omega) (by omega)
  have k := mul_bn (A := 1000000) (B := 1000) (x := sinI l * cosI t) (y := cosI h) (by omega) (by omega) (by omega) (by omega)
  unfold northI; omega
theorem east_bd (t h : Int) : -1000000000 ≤ eastI t h ∧ eastI t h ≤ 1000000000 := by
  have a := cos_bd t; have b := sin_bd h
  have c := mul_bn (A := 1000000) (B := 1000) (x := -1000 * cosI t) (y := sinI h) (by omega) (by omega) (by omega) (by omega)
  unfold eastI; omega
set_option maxHeartbeats 4000000 in
theorem iSun_any (l t h : Int) (w : World) :
    Calls Try.prog 67 #[.int .i64 l, .int .i64 t, .int .i64 h] w fun e w' => e = .returned (sunR l t h) ∧ Below w.heap.size w w' := by
  cases hs : skyB l t
  · go_enter Try.func67, Try.ntmps67
    go_wp2_with fail
    refine (iSky_any _ _ _).mono ?_; rintro e w' ⟨rfl, rfl⟩
    rw [hs]
    go_wp2
    refine bodyPost_ret (v := .tuple #[.agg #[.int .i64 0, .int .i64 0, .int .i64 0], .bool false]) (by simp [results, Try.results67, go_sem]) rfl ⟨by unfold sunR; simp [hs], ?_⟩
    exact bel1 _ _
  · have E1 := Lib.hid (east_eq t h)
    have E2 := Lib.hid (north_eq l t h)
    have E3 := Lib.hid (up_eq l t h)
    go_enter Try.func67, Try.ntmps67
    go_wp2_with (first | (go_at_call 54; refine (iSky_any _ _ _).mono ?_; rintro e w' ⟨rfl, rfl⟩) | (go_at_call 77; refine (iSine_any _ _).mono ?_; rintro e w' ⟨rfl, rfl⟩) | (go_at_call 78; refine (iCos_any _ _).mono ?_; rintro e w' ⟨rfl, rfl⟩))
    rw [E1.out, E2.out, E3.out]
    refine bodyPost_ret (v := .tuple #[sunV l t h, .bool true]) (by simp [results, Try.results67, go_sem, sunV]) rfl ⟨by unfold sunR; simp [hs], ?_⟩
    exact bel1 _ _
set_option maxHeartbeats 4000000 in
theorem sSun_any (l t h : Int) (w : World) :
    Calls Try.prog 43 #[.int .i64 l, .int .i64 t, .int .i64 h] w fun e w' => e = .returned (sunR l t h) ∧ Below w.heap.size w w' := by
  cases hs : skyB l t
  · go_enter Try.func43, Try.ntmps43
    go_wp2_with fail
    refine (sSky_any _ _ _).mono ?_; rintro e w' ⟨rfl, rfl⟩
    rw [hs]
    go_wp2
    refine bodyPost_ret (v := .tuple #[.agg #[.int .i64 0, .int .i64 0, .int .i64 0], .bool false]) (by simp [results, Try.results43, go_sem]) rfl ⟨by unfold sunR; simp [hs], ?_⟩
    exact bel1 _ _
  · have E1 := Lib.hid (east_eq t h)
    have E2 := Lib.hid (north_eq l t h)
    have E3 := Lib.hid (up_eq l t h)
    have M1 := Lib.hid (sin_mod h)
    have M2 := Lib.hid (cos_mod h)
    go_enter Try.func43, Try.ntmps43
    go_wp2_with (first | (go_at_call 62; refine (sSky_any _ _ _).mono ?_; rintro e w' ⟨rfl, rfl⟩) | (go_at_call 63; refine (sSine_any _ _).mono ?_; rintro e w' ⟨rfl, rfl⟩) | (go_at_call 64; refine (sCos_any _ _).mono ?_; rintro e w' ⟨rfl, rfl⟩) | (go_at_call 65; refine (sTurn_any _ _).mono ?_; rintro e w' ⟨rfl, rfl⟩))
    rw [M1.out, M2.out, E1.out, E2.out, E3.out]
    refine bodyPost_ret (v := .tuple #[sunV l t h, .bool true]) (by simp [results, Try.results43, go_sem, sunV]) rfl ⟨by unfold sunR; simp [hs], ?_⟩
    exact bel1 _ _
theorem iSun_t {l t : Int} (h : Int) (w : World) (hs : skyB l t = true) : Calls Try.prog 67 #[.int .i64 l, .int .i64 t, .int .i64 h] w fun e w' => e = .returned (.tuple #[.agg #[.int .i64 (eastI t h), .int .i64 (northI l t h), .int .i64 (upI l t h)], .bool true]) ∧ Below w.heap.size w w' := by
  refine (iSun_any l t h w).mono ?_; rintro e w' ⟨rfl, hw⟩; exact ⟨by unfold sunR sunV; simp [hs], hw⟩
theorem iSun_f {l t : Int} (h : Int) (w : World) (hs : skyB l t = false) : Calls Try.prog 67 #[.int .i64 l, .int .i64 t, .int .i64 h] w fun e w' => e = .returned (.tuple #[.agg #[.int .i64 0, .int .i64 0, .int .i64 0], .bool false]) ∧ Below w.heap.size w w' := by
  refine (iSun_any l t h w).mono ?_; rintro e w' ⟨rfl, hw⟩; exact ⟨by unfold sunR; simp [hs], hw⟩
theorem sSun_t {l t : Int} (h : Int) (w : World) (hs : skyB l t = true) : Calls Try.prog 43 #[.int .i64 l, .int .i64 t, .int .i64 h] w fun e w' => e = .returned (.tuple #[.agg #[.int .i64 (eastI t h), .int .i64 (northI l t h), .int .i64 (upI l t h)], .bool true]) ∧ Below w.heap.size w w' := by
  refine (sSun_any l t h w).mono ?_; rintro e w' ⟨rfl, hw⟩; exact ⟨by unfold sunR sunV; simp [hs], hw⟩
theorem sSun_f {l t : Int} (h : Int) (w : World) (hs : skyB l t = false) : Calls Try.prog 43 #[.int .i64 l, .int .i64 t, .int .i64 h] w fun e w' => e = .returned (.tuple #[.agg #[.int .i64 0, .int .i64 0, .int .i64 0], .bool false]) ∧ Below w.heap.size w w' := by
  refine (sSun_any l t h w).mono ?_; rintro e w' ⟨rfl, hw⟩; exact ⟨by unfold sunR; simp [hs], hw⟩
end Go.Proofs.Ytigndpajpofofaa
