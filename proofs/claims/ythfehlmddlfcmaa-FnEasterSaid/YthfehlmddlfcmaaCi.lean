/- Contracts of chapter 1: Easter. -/
import Derived.Test.YthfehlmddlfcmaaCc
namespace Go.Proofs.Ythfehlmddlfcmaa
open Go.ChangeShapes Go.WideShapes Go.ChangeAt Go.RowKit
set_option linter.unusedSimpArgs false
def eH (y : Int) : Int := (19 * (y % 19) + y / 100 - y / 100 / 4 - (8 * (y / 100) + 13) / 25 + 15) % 30
def eM (y : Int) : Int := (y % 19 + 11 * eH y) / 319
def eW (y : Int) : Int := (2 * (y / 100 % 4) + 2 * (y % 100 / 4) - y % 100 % 4 - eH y + eM y + 32) % 7
def eMo (y : Int) : Int := (eH y - eM y + eW y + 90) / 25
def eDa (y : Int) : Int := (eH y - eM y + eW y + eMo y + 19) % 32
theorem eH_bd (y : Int) : 0 ≤ eH y ∧ eH y ≤ 29 := by unfold eH; omega
theorem eM_bd (y : Int) : 0 ≤ eM y ∧ eM y ≤ 1 := by have := eH_bd y; unfold eM; omega
theorem eW_bd (y : Int) : 0 ≤ eW y ∧ eW y ≤ 6 := by unfold eW; omega
theorem w64_in (a : Int) (h0 : -1000 ≤ a) (h1 : a ≤ 1000) : wrap64 a = a := by unfold wrap64; omega
def EAS (y : Int) : Prop := wrap64 ((wrap64 (wrap64 ((19 * (y % 19) + y / 100 - y / 100 / 4 - (8 * (y / 100) + 13) / 25 + 15) % 30 - (y % 19 + 11 * ((19 * (y % 19) + y / 100 - y / 100 / 4 - (8 * (y / 100) + 13) / 25 + 15) % 30)) / 319 + (2 * (y / 100 % 4) + 2 * (y % 100 / 4) - y % 4 - (19 * (y % 19) + y / 100 - y / 100 / 4 - (8 * (y / 100) + 13) / 25 + 15) % 30 + (y % 19 + 11 * ((19 * (y % 19) + y / 100 - y / 100 / 4 - (8 * (y / 100) + 13) / 25 + 15) % 30)) / 319 + 32).tmod 7) + 90)).tdiv 25) = eMo y ∧ (wrap64 (wrap64 (wrap64 ((19 * (y % 19) + y / 100 - y / 100 / 4 - (8 * (y / 100) + 13) / 25 + 15) % 30 - (y % 19 + 11 * ((19 * (y % 19) + y / 100 - y / 100 / 4 - (8 * (y / 100) + 13) / 25 + 15) % 30)) / 319 + (2 * (y / 100 % 4) + 2 * (y % 100 / 4) - y % 4 - (19 * (y % 19) + y / 100 - y / 100 / 4 - (8 * (y / 100) + 13) / 25 + 15) % 30 + (y % 19 + 11 * ((19 * (y % 19) + y / 100 - y / 100 / 4 - (8 * (y / 100) + 13) / 25 + 15) % 30)) / 319 + 32).tmod 7) + wrap64 ((wrap64 (wrap64 ((19 * (y % 19) + y / 100 - y / 100 / 4 - (8 * (y / 100) + 13) / 25 + 15) % 30 - (y % 19 + 11 * ((19 * (y % 19) + y / 100 - y / 100 / 4 - (8 * (y / 100) + 13) / 25 + 15) % 30)) / 319 + (2 * (y / 100 % 4) + 2 * (y % 100 / 4) - y % 4 - (19 * (y % 19) + y / 100 - y / 100 / 4 - (8 * (y / 100) + 13) / 25 + 15) % 30 + (y % 19 + 11 * ((19 * (y % 19) + y / 100 - y / 100 / 4 - (8 * (y / 100) + 13) / 25 + 15) % 30)) / 319 + 32).tmod 7) + 90)).tdiv 25)) + 19)).tmod 32 = eDa y
theorem eas_spell (y : Int) (_h1 : 1 ≤ y) : EAS y := by
  unfold EAS
  have hH : (19 * (y % 19) + y / 100 - y / 100 / 4 - (8 * (y / 100) + 13) / 25 + 15) % 30 = eH y := rfl
  rw [hH]
  have hM : (y % 19 + 11 * eH y) / 319 = eM y := rfl
  rw [hM]
  have b1 := eH_bd y
  have b2 := eM_bd y
  have hW : (2 * (y / 100 % 4) + 2 * (y % 100 / 4) - y % 4 - eH y + eM y + 32).tmod 7 = eW y := by
    have p1 : 0 ≤ y / 100 % 4 := by omega
    have p2 : 0 ≤ y % 100 / 4 := by omega
    have p3 : 0 ≤ y % 4 ∧ y % 4 ≤ 3 := by omega
    have nn : 0 ≤ 2 * (y / 100 % 4) + 2 * (y % 100 / 4) - y % 4 - eH y + eM y + 32 := by
      clear hH hM
      generalize y / 100 % 4 = p at *
      generalize y % 100 / 4 = q at *
      generalize y % 4 = r at *
      generalize eH y = u at *
      generalize eM y = v at *
      omega
    rw [Int.tmod_eq_emod_of_nonneg nn]
    unfold eW
    rw [show y % 100 % 4 = y % 4 by omega]
  rw [hW]
  have b3 := eW_bd y
  rw [w64_in (eH y - eM y + eW y) (by omega) (by omega), w64_in (eH y - eM y + eW y + 90) (by omega) (by omega), Int.tdiv_eq_ediv_of_nonneg (by omega)]
  have hMo : (eH y - eM y + eW y + 90) / 25 = eMo y := rfl
  rw [hMo]
  have b4 : 0 ≤ eMo y ∧ eMo y ≤ 10 := by unfold eMo; omega
  rw [w64_in (eMo y) (by omega) (by omega), w64_in (eH y - eM y + eW y + eMo y) (by omega) (by omega), w64_in (eH y - eM y + eW y + eMo y + 19) (by omega) (by omega), Int.tmod_eq_emod_of_nonneg (by omega)]
  exact ⟨rfl, rfl⟩
set_option maxHeartbeats 1000000 in
theorem iEa_t (y : Int) (w : World) (h1 : 1 ≤ y) (h2 : y ≤ 4000) :
    Calls Try.prog 66 #[.int .i64 y] w fun e w' => e = .returned (.tuple #[.agg #[.int .i64 y, .int .i64 (eMo y), .int .i64 (eDa y)], .bool true]) ∧ Below w.heap.size w w' := by
  have hb := inB_t h1 h2
  go_enter Try.func66, Try.ntmps66
  go_wp2_with fail
  refine (yv_any _ _).mono ?_; rintro e w' ⟨rfl, rfl⟩
  go_wp2_with fail
  refine bodyPost_ret (v := .tuple #[.agg #[.int .i64 y, .int .i64 (eMo y), .int .i64 (eDa y)], .bool true]) ?_ rfl ⟨rfl, bel1 _ _⟩
  simp [results, Try.results66, go_sem]
  exact eas_spell y h1
set_option maxHeartbeats 1000000 in
theorem sEa_t (y : Int) (w : World) (h1 : 1 ≤ y) (h2 : y ≤ 4000) :
    Calls Try.prog 67 #[.int .i64 y] w fun e w' => e = .returned (.tuple #[.agg #[.int .i64 y, .int .i64 (eMo y), .int .i64 (eDa y)], .bool true]) ∧ Below w.heap.size w w' := by
  have hb := inB_t h1 h2
  go_enter Try.func67, Try.ntmps67
  go_wp2_with fail
  refine (l1In_any _ _ _ _).mono ?_; rintro e w' ⟨rfl, rfl⟩
  go_wp2_with fail
  refine bodyPost_ret (v := .tuple #[.agg #[.int .i64 y, .int .i64 (eMo y), .int .i64 (eDa y)], .bool true]) ?_ rfl ⟨rfl, bel1 _ _⟩
  simp [results, Try.results67, go_sem]
  exact eas_spell y h1
theorem iEa_f (y : Int) (w : World) (h : ¬ (1 ≤ y ∧ y ≤ 4000)) :
    Calls Try.prog 66 #[.int .i64 y] w fun e w' => e = .returned (.tuple #[.agg #[.int .i64 0, .int .i64 0, .int .i64 0], .bool false]) ∧ Below w.heap.size w w' := by
  have hb := inB_f h
  go_enter Try.func66, Try.ntmps66
  go_wp2_with fail
  refine (yv_any _ _).mono ?_; rintro e w' ⟨rfl, rfl⟩
  go_wp2
  exact bodyPost_ret (v := .tuple #[.agg #[.int .i64 0, .int .i64 0, .int .i64 0], .bool false]) (by simp [results, Try.results66, go_sem]) rfl ⟨rfl, bel1 _ _⟩
theorem sEa_f (y : Int) (w : World) (h : ¬ (1 ≤ y ∧ y ≤ 4000)) :
    Calls Try.prog 67 #[.int .i64 y] w fun e w' => e = .returned (.tuple #[.agg #[.int .i64 0, .int .i64 0, .int .i64 0], .bool false]) ∧ Below w.heap.size w w' := by
  have hb := inB_f h
  go_enter Try.func67, Try.ntmps67
  go_wp2_with fail
  refine (l1In_any _ _ _ _).mono ?_; rintro e w' ⟨rfl, rfl⟩
  go_wp2
  exact bodyPost_ret (v := .tuple #[.agg #[.int .i64 0, .int .i64 0, .int .i64 0], .bool false]) (by simp [results, Try.results67, go_sem]) rfl ⟨rfl, bel1 _ _⟩
end Go.Proofs.Ythfehlmddlfcmaa
