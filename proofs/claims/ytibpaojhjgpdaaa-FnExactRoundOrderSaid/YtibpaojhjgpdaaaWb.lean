/- Contracts of chapter 2: orders of ways, angles, sines. -/
import Derived.Test.YtibpaojhjgpdaaaWa
import Derived.Test.YtibpaojhjgpdaaaTs
import Derived.Test.YtibpaojhjgpdaaaHlp
namespace Go.Proofs.Ytibpaojhjgpdaaa
open Go.ChangeShapes Go.WideShapes Go.ChangeAt Go.RowKit
set_option linter.unusedSimpArgs false
set_option linter.unusedVariables false

theorem iGo_any (a b : Int) (w : World) :
    Calls Try.prog 50 #[.agg #[.int .i64 a, .int .i64 b]] w fun e w' => e = .returned (.bool (goB a b)) ∧ Below w.heap.size w w' := by
  cases h : wvB a b
  all_goals
    go_enter Try.func50, Try.ntmps50
    go_wp2_with fail
    refine (iWV_any _ _ _).mono ?_; rintro e w1 ⟨rfl, hw⟩
    obtain ⟨hH, hB⟩ := ownb hw
    obtain ⟨c0, c1, f0, f1, hz⟩ := blk2 hH
    go_wp2
    all_goals go_ret
    all_goals exact ⟨ret_bool (by unfold goB; simp_all), hB⟩
set_option maxHeartbeats 4000000 in
theorem iBef_any (a b c d : Int) (w : World) (hx : crossW a b c d = a * d - b * c) :
    Calls Try.prog 51 #[.agg #[.int .i64 a, .int .i64 b], .agg #[.int .i64 c, .int .i64 d]] w fun e w' => e = .returned (.bool (befB a b c d)) ∧ Below w.heap.size w w' := by
  have HX := Lib.hid hx
  clear hx
  by_cases hh : halfI a b = halfI c d
  · have hn : (halfI a b != halfI c d) = false := by simp [hh]
    have HH := Lib.hid hh
    clear hh
    go_enter Try.func51, Try.ntmps51
    go_wp2_with fail
    go_region_held3 (fun w' => w'.cell? ⟨w.heap.size, 0, none⟩ = some (.int .i64 a) ∧ w'.cell? ⟨w.heap.size, 1, none⟩ = some (.int .i64 b) ∧ w'.cell? ⟨w.heap.size + 1, 0, none⟩ = some (.int .i64 c) ∧ w'.cell? ⟨w.heap.size + 1, 1, none⟩ = some (.int .i64 d) ∧ w.heap.size + 1 < w'.heap.size ∧ Below w.heap.size w w')
      (first
        | (refine ⟨?_, ?_, ?_, ?_, ?_, ?_⟩ <;> first | assumption | (simp; done) | (simp; omega) | exact ((bel1 _ _).alloc (by simp) _).drew | exact Below.drew (by assumption))
        | (go_split_ands; exact keep22 (by first | assumption | (simp; done)) (by first | assumption | (simp; done)) (by first | assumption | (simp; done)) (by first | assumption | (simp; done)) (by first | assumption | (simp; done)) (by first | assumption | exact ((bel1 _ _).alloc (by simp) _).drew | exact Below.drew (by assumption)) hw))
      (first | (go_at_call 76; refine (iHalf_any _ _ _).mono ?_; rintro e w' ⟨rfl, hw⟩))
    (rename_i hS; obtain ⟨c0, c1, c2, c3, hz, hB⟩ := hS)
    go_wp2_with (go_at_call 77; refine (iCro_any _ _ _ _ _).mono ?_; rintro e w2 ⟨rfl, hw2⟩)
    go_ret
    refine ⟨ret_bool ?_, bel_next hB hw2⟩
    rw [HX.out]; unfold befB Bef; rw [Bool.eq_iff_iff]; simp [HH.out]
  · have hn : (halfI a b != halfI c d) = true := by simp [hh]
    have HH := Lib.hid hh
    clear hh
    go_enter Try.func51, Try.ntmps51
    go_wp2_with fail
    go_region_held3 (fun w' => w'.cell? ⟨w.heap.size, 0, none⟩ = some (.int .i64 a) ∧ w'.cell? ⟨w.heap.size, 1, none⟩ = some (.int .i64 b) ∧ w'.cell? ⟨w.heap.size + 1, 0, none⟩ = some (.int .i64 c) ∧ w'.cell? ⟨w.heap.size + 1, 1, none⟩ = some (.int .i64 d) ∧ w.heap.size + 1 < w'.heap.size ∧ Below w.heap.size w w')
      (first
        | (refine ⟨?_, ?_, ?_, ?_, ?_, ?_⟩ <;> first | assumption | (simp; done) | (simp; omega) | exact ((bel1 _ _).alloc (by simp) _).drew | exact Below.drew (by assumption))
        | (go_split_ands; exact keep22 (by first | assumption | (simp; done)) (by first | assumption | (simp; done)) (by first | assumption | (simp; done)) (by first | assumption | (simp; done)) (by first | assumption | (simp; done)) (by first | assumption | exact ((bel1 _ _).alloc (by simp) _).drew | exact Below.drew (by assumption)) hw))
      (first | (go_at_call 76; refine (iHalf_any _ _ _).mono ?_; rintro e w' ⟨rfl, hw⟩))
    (rename_i hS; obtain ⟨c0, c1, c2, c3, hz, hB⟩ := hS)
    go_wp2_with fail
    go_region_held3 (fun w' => w'.cell? ⟨w.heap.size, 0, none⟩ = some (.int .i64 a) ∧ w'.cell? ⟨w.heap.size, 1, none⟩ = some (.int .i64 b) ∧ w'.cell? ⟨w.heap.size + 1, 0, none⟩ = some (.int .i64 c) ∧ w'.cell? ⟨w.heap.size + 1, 1, none⟩ = some (.int .i64 d) ∧ w.heap.size + 1 < w'.heap.size ∧ Below w.heap.size w w')
      (first
        | (refine ⟨?_, ?_, ?_, ?_, ?_, ?_⟩ <;> first | assumption | (simp; done) | (simp; omega) | exact ((bel1 _ _).alloc (by simp) _).drew | exact Below.drew (by assumption))
        | (go_split_ands; exact keep22 (by first | assumption | (simp; done)) (by first | assumption | (simp; done)) (by first | assumption | (simp; done)) (by first | assumption | (simp; done)) (by first | assumption | (simp; done)) (by first | assumption | exact ((bel1 _ _).alloc (by simp) _).drew | exact Below.drew (by assumption)) hw))
      (first | (go_at_call 76; refine (iHalf_any _ _ _).mono ?_; rintro e w' ⟨rfl, hw⟩))
    (rename_i hS; obtain ⟨c0, c1, c2, c3, hz, hB⟩ := hS)
    go_wp2_with fail
    go_ret
    refine ⟨ret_bool ?_, hB⟩
    unfold befB Bef; rw [Bool.eq_iff_iff]; simp [HH.out]
/-- Bounds that keep the cross in the machine's numbers. -/
theorem mul_bd {x y B : Int} (h0 : -B ≤ x) (h1 : x ≤ B) (k0 : -B ≤ y) (k1 : y ≤ B) (hB : 0 ≤ B) : -(B * B) ≤ x * y ∧ x * y ≤ B * B := by
  have e1 : 0 ≤ (B - x) * (B + y) := Int.mul_nonneg (by omega) (by omega)
  have e2 : 0 ≤ (B + x) * (B - y) := Int.mul_nonneg (by omega) (by omega)
  have e3 : 0 ≤ (B - x) * (B - y) := Int.mul_nonneg (by omega) (by omega)
  have e4 : 0 ≤ (B + x) * (B + y) := Int.mul_nonneg (by omega) (by omega)
  have a1 : (B - x) * (B + y) = B * B + B * y - B * x - x * y := by grind
  have a2 : (B + x) * (B - y) = B * B - B * y + B * x - x * y := by grind
  have a3 : (B - x) * (B - y) = B * B - B * y - B * x + x * y := by grind
  have a4 : (B + x) * (B + y) = B * B + B * y + B * x + x * y := by grind
  omega
/-- Numbers up to a million either way. -/
def Sm (B x : Int) : Prop := -B ≤ x ∧ x ≤ B
theorem cross_in {a b c d : Int} (ha : Sm 1000000000 a) (hb : Sm 1000000000 b) (hc : Sm 1000000000 c) (hd : Sm 1000000000 d) : crossW a b c d = a * d - b * c := by
  have h1 := mul_bd ha.1 ha.2 hd.1 hd.2 (by omega)
  have h2 := mul_bd hb.1 hb.2 hc.1 hc.2 (by omega)
  unfold crossW
  rw [w64_in (x := a * d) (by omega) (by omega), w64_in (x := b * c) (by omega) (by omega), w64_in (by omega) (by omega)]
theorem dot_in {a b c d : Int} (ha : Sm 1000000000 a) (hb : Sm 1000000000 b) (hc : Sm 1000000000 c) (hd : Sm 1000000000 d) : dotW a b c d = a * c + b * d := by
  have h1 := mul_bd ha.1 ha.2 hc.1 hc.2 (by omega)
  have h2 := mul_bd hb.1 hb.2 hd.1 hd.2 (by omega)
  unfold dotW
  rw [w64_in (x := a * c) (by omega) (by omega), w64_in (x := b * d) (by omega) (by omega), w64_in (by omega) (by omega)]
theorem go_sm {a b : Int} (h : goB a b = true) : Sm 1000000000 a ∧ Sm 1000000000 b := by
  have := goB_iff.1 h; unfold Sm; omega
theorem go_cross {a b c d : Int} (h : goB a b = true) (k : goB c d = true) : crossW a b c d = a * d - b * c :=
  cross_in (go_sm h).1 (go_sm h).2 (go_sm k).1 (go_sm k).2
theorem go_half {a b : Int} (h : goB a b = true) : 0 ≤ halfI a b ∧ halfI a b ≤ 1 := by
  have := goB_iff.1 h; have h1 := half_cases a b; have h2 := @half_nil a b; omega
theorem iRL_any (a b c d : Int) (w : World) :
    Calls Try.prog 16 #[.agg #[.int .i64 a, .int .i64 b], .agg #[.int .i64 c, .int .i64 d]] w fun e w' => e = .returned (.bool (rlB a b c d)) ∧ Below w.heap.size w w' := by
  cases h : goB a b
  · go_enter Try.func16, Try.ntmps16
    go_wp2_with fail
    refine (iGo_any _ _ _).mono ?_; rintro e w1 ⟨rfl, hw⟩
    obtain ⟨hH, hG, hB⟩ := ownb2 hw
    go_wp2_with fail
    go_ret
    exact ⟨ret_bool (by unfold rlB; simp [h]), hB⟩
  · cases k : goB c d
    · go_enter Try.func16, Try.ntmps16
      go_wp2_with fail
      refine (iGo_any _ _ _).mono ?_; rintro e w1 ⟨rfl, hw⟩
      obtain ⟨hH, hG, hB⟩ := ownb2 hw
      obtain ⟨c0, c1, f0, f1, hz⟩ := blk2 hH
      obtain ⟨d0, d1, g0, g1, hz'⟩ := blk2 hG
      go_wp2_with fail
      refine (iGo_any _ _ _).mono ?_; rintro e w2 ⟨rfl, hw2⟩
      go_wp2_with fail
      go_ret
      exact ⟨ret_bool (by unfold rlB; simp [h, k]), bel_next hB hw2⟩
    · have hx := go_cross h k
      have HX := Lib.hid hx
      clear hx
      go_enter Try.func16, Try.ntmps16
      go_wp2_with fail
      refine (iGo_any _ _ _).mono ?_; rintro e w1 ⟨rfl, hw⟩
      obtain ⟨hH, hG, hB⟩ := ownb2 hw
      obtain ⟨c0, c1, f0, f1, hz⟩ := blk2 hH
      obtain ⟨d0, d1, g0, g1, hz'⟩ := blk2 hG
      go_wp2_with fail
      refine (iGo_any _ _ _).mono ?_; rintro e w2 ⟨rfl, hw2⟩
      have hH2 := blk_next hH hw2
      have hG2 := blk_next hG hw2
      obtain ⟨p0, p1, q0, q1, hz2⟩ := blk2 hH2
      obtain ⟨r0, r1, s0, s1, hz2'⟩ := blk2 hG2
      go_wp2_with fail
      refine (iBef_any _ _ _ _ _ HX.out).mono ?_; rintro e w3 ⟨rfl, hw3⟩
      go_wp2_with fail
      go_ret
      exact ⟨ret_bool (by unfold rlB; simp [h, k]), bel_next (bel_next hB hw2) hw3⟩
end Go.Proofs.Ytibpaojhjgpdaaa
