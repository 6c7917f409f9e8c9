/- Contracts of chapter 4's lines, both sides. -/
import Derived.Test.YtgbelpkhfaajoabTs
import Derived.Test.YtgbelpkhfaajoabWa
import Derived.Test.YtgbelpkhfaajoabHr
import Derived.Test.YtgbelpkhfaajoabHlp2
namespace Go.Proofs.Ytgbelpkhfaajoab
open Go Go.ChangeShapes Go.WideShapes Go.ChangeAt Go.RowKit
set_option linter.unusedSimpArgs false
set_option linter.unusedVariables false

def wlE (l h : Int) : Int := cosI l * sinI (15 * h)
def wlN (h : Int) : Int := -1000 * cosI (15 * h)
theorem wl_bd (l h : Int) : -1000000 ≤ wlE l h ∧ wlE l h ≤ 1000000 ∧ -1000000 ≤ wlN h ∧ wlN h ≤ 1000000 := by
  have h1 := prod_bd (A := 1000) (B := 1000) (cos_bd l) (sin_bd (15 * h)) (by omega) (by omega)
  have h2 := cos_bd (15 * h)
  unfold wlE wlN; omega
theorem wl_ln (l h : Int) : wlE l h = lnE (90 - l) h ∧ wlN h = -lnN h := by
  unfold wlE wlN lnE lnN
  rw [cos_90]; exact ⟨rfl, by omega⟩
theorem iInH_any (n a b : Int) (w : World) : Calls Try.prog 43 #[.int .i64 n, .int .i64 a, .int .i64 b] w fun e w' => e = .returned (.bool (inW n a b)) ∧ w = w' := by
  go_enter Try.func43, Try.ntmps43
  go_wp2
  all_goals go_ret
  all_goals exact ⟨ret_bool (by rw [Bool.eq_iff_iff]; simp [inW]; omega), rfl⟩
set_option maxHeartbeats 1000000 in
theorem iHV_any (h : Int) (w : World) : Calls Try.prog 12 #[.int .i64 h] w fun e w' => e = .returned (.bool (hrB h)) ∧ w = w' := by
  go_enter Try.func12, Try.ntmps12
  go_wp2_with fail
  refine (iInH_any _ _ _ _).mono ?_; rintro e w' ⟨rfl, rfl⟩
  go_wp2
  go_ret
  exact ⟨rfl, rfl⟩
set_option maxHeartbeats 1000000 in
theorem sHV_any (h : Int) (w : World) : Calls Try.prog 13 #[.int .i64 h] w fun e w' => e = .returned (.bool (hrB h)) ∧ w = w' := by
  go_enter Try.func13, Try.ntmps13
  go_wp2_with fail
  refine (l1InW_any _ _ _ _).mono ?_; rintro e w' ⟨rfl, rfl⟩
  go_wp2
  go_ret
  exact ⟨rfl, rfl⟩
set_option maxHeartbeats 1000000 in
theorem lyHas_any (l : Int) (w : World) : Calls Try.prog 86 #[.int .i64 l] w fun e w' => e = .returned (.bool (laB l)) ∧ w = w' := by
  go_enter Try.func86, Try.ntmps86
  go_wp2_with fail
  refine (iInH_any _ _ _ _).mono ?_; rintro e w' ⟨rfl, rfl⟩
  go_wp2
  go_ret
  exact ⟨rfl, rfl⟩
set_option maxHeartbeats 1000000 in
theorem stHas_any (l : Int) (w : World) : Calls Try.prog 93 #[.int .i64 l] w fun e w' => e = .returned (.bool (waB l)) ∧ w = w' := by
  go_enter Try.func93, Try.ntmps93
  go_wp2_with fail
  refine (iInH_any _ _ _ _).mono ?_; rintro e w' ⟨rfl, rfl⟩
  go_wp2
  go_ret
  exact ⟨rfl, rfl⟩
set_option maxHeartbeats 1000000 in
theorem lyLine_any (l h : Int) (w : World) (h0 : -12 ≤ h) (h1 : h ≤ 11) : Calls Try.prog 87 #[.int .i64 l, .int .i64 h] w fun e w' => e = .returned (.agg #[.int .i64 (lnE l h), .int .i64 (lnN h)]) ∧ Below w.heap.size w w' := by
  obtain ⟨b0, b1, b2, b3⟩ := ln_bd l h
  have c0 := cos_bd (15 * h)
  unfold lnE at b0 b1
  go_enter Try.func87, Try.ntmps87
  go_wp2_with (first | (go_at_call 88; refine (iSine_any _ _).mono ?_; rintro e w' ⟨rfl, rfl⟩) | (go_at_call 89; refine (iCos_any _ _).mono ?_; rintro e w' ⟨rfl, rfl⟩))
  refine bodyPost_ret (v := .agg #[.int .i64 (lnE l h), .int .i64 (lnN h)]) (by simp [results, Try.results87, go_sem]; exact ⟨rfl, rfl⟩) rfl ⟨rfl, bel1 _ _⟩
set_option maxHeartbeats 1000000 in
theorem stLine_any (l h : Int) (w : World) (h0 : -12 ≤ h) (h1 : h ≤ 11) : Calls Try.prog 94 #[.int .i64 l, .int .i64 h] w fun e w' => e = .returned (.agg #[.int .i64 (wlE l h), .int .i64 (wlN h)]) ∧ Below w.heap.size w w' := by
  obtain ⟨b0, b1, b2, b3⟩ := wl_bd l h
  have c0 := cos_bd (15 * h)
  unfold wlE at b0 b1
  go_enter Try.func94, Try.ntmps94
  go_wp2_with (first | (go_at_call 88; refine (iSine_any _ _).mono ?_; rintro e w' ⟨rfl, rfl⟩) | (go_at_call 89; refine (iCos_any _ _).mono ?_; rintro e w' ⟨rfl, rfl⟩))
  refine bodyPost_ret (v := .agg #[.int .i64 (wlE l h), .int .i64 (wlN h)]) (by simp [results, Try.results94, go_sem]; exact ⟨rfl, rfl⟩) rfl ⟨rfl, bel1 _ _⟩
theorem lyM_has (l : Int) (w : World) : (method 184 52 (.int .i64 l) "loop.example/sundials/impl.hasShadow").run Try.prog w = .ok (86, .int .i64 l) w := by kernel_rfl
theorem lyM_line (l : Int) (w : World) : (method 184 52 (.int .i64 l) "loop.example/sundials/impl.line").run Try.prog w = .ok (87, .int .i64 l) w := by kernel_rfl
set_option maxHeartbeats 1000000 in
theorem lyOn_t (l h : Int) (w : World) (hl : laB l = true) (hh : hrB h = true) : Calls Try.prog 48 #[.iface 52 (.int .i64 l), .int .i64 h] w fun e w' => e = .returned (.tuple #[.agg #[.int .i64 (lnE l h), .int .i64 (lnN h)], .bool true]) ∧ Below w.heap.size w w' := by
  have hb := hrB_iff.1 hh
  have HL := Lib.hid hl
  have HH := Lib.hid hh
  clear hl hh
  have m1 := lyM_has l
  have m2 := lyM_line l
  go_enter Try.func48, Try.ntmps48
  go_wp2_with (first | (go_at_call 86; refine (lyHas_any _ _).mono ?_; rintro e w' ⟨rfl, rfl⟩; rw [HL.out]) | (go_at_call 12; refine (iHV_any _ _).mono ?_; rintro e w' ⟨rfl, rfl⟩; rw [HH.out]))
  refine (lyLine_any _ _ _ hb.1 hb.2).mono ?_; rintro e w1 ⟨rfl, hw1⟩
  obtain ⟨hP1, hB1⟩ := ownb hw1
  obtain ⟨c0, c1, f0, f1, z1⟩ := blk2 hP1
  have hP2 := blk2_set (a := .int .i64 (lnE l h)) (b := .int .i64 (lnN h)) hP1
  obtain ⟨q0, q1, _⟩ := blk2 hP2
  go_wp2
  exact bodyPost_ret (v := .tuple #[.agg #[.int .i64 (lnE l h), .int .i64 (lnN h)], .bool true]) (by simp [results, Try.results48, go_sem, q0, q1]) rfl ⟨rfl, store2_bel hB1 (Nat.le_refl _) _ _⟩
set_option maxHeartbeats 1000000 in
theorem lyOn_f (l h : Int) (w : World) (hn : laB l = false ∨ (laB l = true ∧ hrB h = false)) : Calls Try.prog 48 #[.iface 52 (.int .i64 l), .int .i64 h] w fun e w' => e = .returned (.tuple #[.agg #[.int .i64 0, .int .i64 0], .bool false]) ∧ Below w.heap.size w w' := by
  rcases hn with hl | ⟨hl, hh⟩
  · have HL := Lib.hid hl
    clear hl
    have m1 := lyM_has l
    have m2 := lyM_line l
    go_enter Try.func48, Try.ntmps48
    go_wp2_with (go_at_call 86; refine (lyHas_any _ _).mono ?_; rintro e w' ⟨rfl, rfl⟩; rw [HL.out])
    exact bodyPost_ret (v := .tuple #[.agg #[.int .i64 0, .int .i64 0], .bool false]) (by simp [results, Try.results48, go_sem]) rfl ⟨rfl, bel1 _ _⟩
  · have HL := Lib.hid hl
    have HH := Lib.hid hh
    clear hl hh
    have m1 := lyM_has l
    have m2 := lyM_line l
    go_enter Try.func48, Try.ntmps48
    go_wp2_with (first | (go_at_call 86; refine (lyHas_any _ _).mono ?_; rintro e w' ⟨rfl, rfl⟩; rw [HL.out]) | (go_at_call 12; refine (iHV_any _ _).mono ?_; rintro e w' ⟨rfl, rfl⟩; rw [HH.out]))
    exact bodyPost_ret (v := .tuple #[.agg #[.int .i64 0, .int .i64 0], .bool false]) (by simp [results, Try.results48, go_sem]) rfl ⟨rfl, bel1 _ _⟩
set_option maxHeartbeats 1000000 in
theorem iLn_t (l h : Int) (w : World) (hl : laB l = true) (hh : hrB h = true) : Calls Try.prog 16 #[.int .i64 l, .int .i64 h] w fun e w' => e = .returned (.tuple #[.agg #[.int .i64 (lnE l h), .int .i64 (lnN h)], .bool true]) ∧ Below w.heap.size w w' := by
  have HL := Lib.hid hl
  have HH := Lib.hid hh
  clear hl hh
  go_enter Try.func16, Try.ntmps16
  go_wp2_with fail
  refine (lyOn_t _ _ _ HL.out HH.out).mono ?_; rintro e w1 ⟨rfl, hw1⟩
  obtain ⟨hP1, hB1⟩ := ownb hw1
  obtain ⟨c0, c1, f0, f1, z1⟩ := blk2 hP1
  have hP2 := blk2_set (a := .int .i64 (lnE l h)) (b := .int .i64 (lnN h)) hP1
  obtain ⟨q0, q1, _⟩ := blk2 hP2
  go_wp2
  exact bodyPost_ret (v := .tuple #[.agg #[.int .i64 (lnE l h), .int .i64 (lnN h)], .bool true]) (by simp [results, Try.results16, go_sem, q0, q1]) rfl ⟨rfl, store2_bel hB1 (Nat.le_refl _) _ _⟩
set_option maxHeartbeats 1000000 in
theorem iLn_f (l h : Int) (w : World) (hn : laB l = false ∨ (laB l = true ∧ hrB h = false)) : Calls Try.prog 16 #[.int .i64 l, .int .i64 h] w fun e w' => e = .returned (.tuple #[.agg #[.int .i64 0, .int .i64 0], .bool false]) ∧ Below w.heap.size w w' := by
  have HN := Lib.hid hn
  clear hn
  go_enter Try.func16, Try.ntmps16
  go_wp2_with fail
  refine (lyOn_f _ _ _ HN.out).mono ?_; rintro e w1 ⟨rfl, hw1⟩
  obtain ⟨hP1, hB1⟩ := ownb hw1
  obtain ⟨c0, c1, f0, f1, z1⟩ := blk2 hP1
  have hP2 := blk2_set (a := .int .i64 0) (b := .int .i64 0) hP1
  obtain ⟨q0, q1, _⟩ := blk2 hP2
  go_wp2
  exact bodyPost_ret (v := .tuple #[.agg #[.int .i64 0, .int .i64 0], .bool false]) (by simp [results, Try.results16, go_sem, q0, q1]) rfl ⟨rfl, store2_bel hB1 (Nat.le_refl _) _ _⟩
theorem sLnIn_is {l : Int} {r : Bool} (w : World) (h : laB l = r) : Calls Try.prog 44 #[.int .i64 l, .int .i64 1, .int .i64 90] w fun e w' => e = .returned (.bool r) ∧ w = w' := by subst h; exact l1InW_any l 1 90 w
set_option maxHeartbeats 1000000 in
theorem sLn_t (l h : Int) (w : World) (hl : laB l = true) (hh : hrB h = true) : Calls Try.prog 17 #[.int .i64 l, .int .i64 h] w fun e w' => e = .returned (.tuple #[.agg #[.int .i64 (lnE l h), .int .i64 (lnN h)], .bool true]) ∧ Below w.heap.size w w' := by
  obtain ⟨g0, g1⟩ := hrB_iff.1 hh
  obtain ⟨b0, b1, b2, b3⟩ := ln_bd l h
  have c0 := cos_bd (15 * h)
  unfold lnE at b0 b1
  have HL := Lib.hid hl
  have HH := Lib.hid hh
  clear hl hh
  go_enter Try.func17, Try.ntmps17
  go_wp2_with (first | (go_at_call 44; refine (sLnIn_is _ HL.out).mono ?_; rintro e w' ⟨rfl, rfl⟩) | (go_at_call 13; refine (sHV_any _ _).mono ?_; rintro e w' ⟨rfl, rfl⟩; rw [HH.out]) | (go_at_call 49; refine (sSine_any _ _).mono ?_; rintro e w' ⟨rfl, rfl⟩) | (go_at_call 50; refine (sCos_any _ _).mono ?_; rintro e w' ⟨rfl, rfl⟩))
  exact bodyPost_ret (v := .tuple #[.agg #[.int .i64 (lnE l h), .int .i64 (lnN h)], .bool true]) (by simp [results, Try.results17, go_sem]; exact ⟨rfl, rfl⟩) rfl ⟨rfl, bel1 _ _⟩
set_option maxHeartbeats 1000000 in
theorem sLn_f (l h : Int) (w : World) (hn : laB l = false ∨ (laB l = true ∧ hrB h = false)) : Calls Try.prog 17 #[.int .i64 l, .int .i64 h] w fun e w' => e = .returned (.tuple #[.agg #[.int .i64 0, .int .i64 0], .bool false]) ∧ Below w.heap.size w w' := by
  rcases hn with hl | ⟨hl, hh⟩
  · have HL := Lib.hid hl
    clear hl
    go_enter Try.func17, Try.ntmps17
    go_wp2_with (go_at_call 44; refine (sLnIn_is _ HL.out).mono ?_; rintro e w' ⟨rfl, rfl⟩)
    exact bodyPost_ret (v := .tuple #[.agg #[.int .i64 0, .int .i64 0], .bool false]) (by simp [results, Try.results17, go_sem]) rfl ⟨rfl, bel1 _ _⟩
  · have HL := Lib.hid hl
    have HH := Lib.hid hh
    clear hl hh
    go_enter Try.func17, Try.ntmps17
    go_wp2_with (first | (go_at_call 44; refine (sLnIn_is _ HL.out).mono ?_; rintro e w' ⟨rfl, rfl⟩) | (go_at_call 13; refine (sHV_any _ _).mono ?_; rintro e w' ⟨rfl, rfl⟩; rw [HH.out]))
    exact bodyPost_ret (v := .tuple #[.agg #[.int .i64 0, .int .i64 0], .bool false]) (by simp [results, Try.results17, go_sem]) rfl ⟨rfl, bel1 _ _⟩
theorem stM_has (l : Int) (w : World) : (method 184 53 (.int .i64 l) "loop.example/sundials/impl.hasShadow").run Try.prog w = .ok (93, .int .i64 l) w := by kernel_rfl
theorem stM_line (l : Int) (w : World) : (method 184 53 (.int .i64 l) "loop.example/sundials/impl.line").run Try.prog w = .ok (94, .int .i64 l) w := by kernel_rfl
set_option maxHeartbeats 1000000 in
theorem stOn_t (l h : Int) (w : World) (hl : waB l = true) (hh : hrB h = true) : Calls Try.prog 48 #[.iface 53 (.int .i64 l), .int .i64 h] w fun e w' => e = .returned (.tuple #[.agg #[.int .i64 (wlE l h), .int .i64 (wlN h)], .bool true]) ∧ Below w.heap.size w w' := by
  have hb := hrB_iff.1 hh
  have HL := Lib.hid hl
  have HH := Lib.hid hh
  clear hl hh
  have m1 := stM_has l
  have m2 := stM_line l
  go_enter Try.func48, Try.ntmps48
  go_wp2_with (first | (go_at_call 93; refine (stHas_any _ _).mono ?_; rintro e w' ⟨rfl, rfl⟩; rw [HL.out]) | (go_at_call 12; refine (iHV_any _ _).mono ?_; rintro e w' ⟨rfl, rfl⟩; rw [HH.out]))
  refine (stLine_any _ _ _ hb.1 hb.2).mono ?_; rintro e w1 ⟨rfl, hw1⟩
  obtain ⟨hP1, hB1⟩ := ownb hw1
  obtain ⟨c0, c1, f0, f1, z1⟩ := blk2 hP1
  have hP2 := blk2_set (a := .int .i64 (wlE l h)) (b := .int .i64 (wlN h)) hP1
  obtain ⟨q0, q1, _⟩ := blk2 hP2
  go_wp2
  exact bodyPost_ret (v := .tuple #[.agg #[.int .i64 (wlE l h), .int .i64 (wlN h)], .bool true]) (by simp [results, Try.results48, go_sem, q0, q1]) rfl ⟨rfl, store2_bel hB1 (Nat.le_refl _) _ _⟩
set_option maxHeartbeats 1000000 in
theorem stOn_f (l h : Int) (w : World) (hn : waB l = false ∨ (waB l = true ∧ hrB h = false)) : Calls Try.prog 48 #[.iface 53 (.int .i64 l), .int .i64 h] w fun e w' => e = .returned (.tuple #[.agg #[.int .i64 0, .int .i64 0], .bool false]) ∧ Below w.heap.size w w' := by
  rcases hn with hl | ⟨hl, hh⟩
  · have HL := Lib.hid hl
    clear hl
    have m1 := stM_has l
    have m2 := stM_line l
    go_enter Try.func48, Try.ntmps48
    go_wp2_with (go_at_call 93; refine (stHas_any _ _).mono ?_; rintro e w' ⟨rfl, rfl⟩; rw [HL.out])
    exact bodyPost_ret (v := .tuple #[.agg #[.int .i64 0, .int .i64 0], .bool false]) (by simp [results, Try.results48, go_sem]) rfl ⟨rfl, bel1 _ _⟩
  · have HL := Lib.hid hl
    have HH := Lib.hid hh
    clear hl hh
    have m1 := stM_has l
    have m2 := stM_line l
    go_enter Try.func48, Try.ntmps48
    go_wp2_with (first | (go_at_call 93; refine (stHas_any _ _).mono ?_; rintro e w' ⟨rfl, rfl⟩; rw [HL.out]) | (go_at_call 12; refine (iHV_any _ _).mono ?_; rintro e w' ⟨rfl, rfl⟩; rw [HH.out]))
    exact bodyPost_ret (v := .tuple #[.agg #[.int .i64 0, .int .i64 0], .bool false]) (by simp [results, Try.results48, go_sem]) rfl ⟨rfl, bel1 _ _⟩
set_option maxHeartbeats 1000000 in
theorem iWl_t (l h : Int) (w : World) (hl : waB l = true) (hh : hrB h = true) : Calls Try.prog 20 #[.int .i64 l, .int .i64 h] w fun e w' => e = .returned (.tuple #[.agg #[.int .i64 (wlE l h), .int .i64 (wlN h)], .bool true]) ∧ Below w.heap.size w w' := by
  have HL := Lib.hid hl
  have HH := Lib.hid hh
  clear hl hh
  go_enter Try.func20, Try.ntmps20
  go_wp2_with fail
  refine (stOn_t _ _ _ HL.out HH.out).mono ?_; rintro e w1 ⟨rfl, hw1⟩
  obtain ⟨hP1, hB1⟩ := ownb hw1
  obtain ⟨c0, c1, f0, f1, z1⟩ := blk2 hP1
  have hP2 := blk2_set (a := .int .i64 (wlE l h)) (b := .int .i64 (wlN h)) hP1
  obtain ⟨q0, q1, _⟩ := blk2 hP2
  go_wp2
  exact bodyPost_ret (v := .tuple #[.agg #[.int .i64 (wlE l h), .int .i64 (wlN h)], .bool true]) (by simp [results, Try.results20, go_sem, q0, q1]) rfl ⟨rfl, store2_bel hB1 (Nat.le_refl _) _ _⟩
set_option maxHeartbeats 1000000 in
theorem iWl_f (l h : Int) (w : World) (hn : waB l = false ∨ (waB l = true ∧ hrB h = false)) : Calls Try.prog 20 #[.int .i64 l, .int .i64 h] w fun e w' => e = .returned (.tuple #[.agg #[.int .i64 0, .int .i64 0], .bool false]) ∧ Below w.heap.size w w' := by
  have HN := Lib.hid hn
  clear hn
  go_enter Try.func20, Try.ntmps20
  go_wp2_with fail
  refine (stOn_f _ _ _ HN.out).mono ?_; rintro e w1 ⟨rfl, hw1⟩
  obtain ⟨hP1, hB1⟩ := ownb hw1
  obtain ⟨c0, c1, f0, f1, z1⟩ := blk2 hP1
  have hP2 := blk2_set (a := .int .i64 0) (b := .int .i64 0) hP1
  obtain ⟨q0, q1, _⟩ := blk2 hP2
  go_wp2
  exact bodyPost_ret (v := .tuple #[.agg #[.int .i64 0, .int .i64 0], .bool false]) (by simp [results, Try.results20, go_sem, q0, q1]) rfl ⟨rfl, store2_bel hB1 (Nat.le_refl _) _ _⟩
theorem sWlIn_is {l : Int} {r : Bool} (w : World) (h : waB l = r) : Calls Try.prog 44 #[.int .i64 l, .int .i64 0, .int .i64 89] w fun e w' => e = .returned (.bool r) ∧ w = w' := by subst h; exact l1InW_any l 0 89 w
set_option maxHeartbeats 1000000 in
theorem sWl_t (l h : Int) (w : World) (hl : waB l = true) (hh : hrB h = true) : Calls Try.prog 21 #[.int .i64 l, .int .i64 h] w fun e w' => e = .returned (.tuple #[.agg #[.int .i64 (wlE l h), .int .i64 (wlN h)], .bool true]) ∧ Below w.heap.size w w' := by
  obtain ⟨g0, g1⟩ := hrB_iff.1 hh
  obtain ⟨b0, b1, b2, b3⟩ := wl_bd l h
  have c0 := cos_bd (15 * h)
  unfold wlE at b0 b1
  have HL := Lib.hid hl
  have HH := Lib.hid hh
  clear hl hh
  go_enter Try.func21, Try.ntmps21
  go_wp2_with (first | (go_at_call 44; refine (sWlIn_is _ HL.out).mono ?_; rintro e w' ⟨rfl, rfl⟩) | (go_at_call 13; refine (sHV_any _ _).mono ?_; rintro e w' ⟨rfl, rfl⟩; rw [HH.out]) | (go_at_call 49; refine (sSine_any _ _).mono ?_; rintro e w' ⟨rfl, rfl⟩) | (go_at_call 50; refine (sCos_any _ _).mono ?_; rintro e w' ⟨rfl, rfl⟩))
  exact bodyPost_ret (v := .tuple #[.agg #[.int .i64 (wlE l h), .int .i64 (wlN h)], .bool true]) (by simp [results, Try.results21, go_sem]; exact ⟨rfl, rfl⟩) rfl ⟨rfl, bel1 _ _⟩
set_option maxHeartbeats 1000000 in
theorem sWl_f (l h : Int) (w : World) (hn : waB l = false ∨ (waB l = true ∧ hrB h = false)) : Calls Try.prog 21 #[.int .i64 l, .int .i64 h] w fun e w' => e = .returned (.tuple #[.agg #[.int .i64 0, .int .i64 0], .bool false]) ∧ Below w.heap.size w w' := by
  rcases hn with hl | ⟨hl, hh⟩
  · have HL := Lib.hid hl
    clear hl
    go_enter Try.func21, Try.ntmps21
    go_wp2_with (go_at_call 44; refine (sWlIn_is _ HL.out).mono ?_; rintro e w' ⟨rfl, rfl⟩)
    exact bodyPost_ret (v := .tuple #[.agg #[.int .i64 0, .int .i64 0], .bool false]) (by simp [results, Try.results21, go_sem]) rfl ⟨rfl, bel1 _ _⟩
  · have HL := Lib.hid hl
    have HH := Lib.hid hh
    clear hl hh
    go_enter Try.func21, Try.ntmps21
    go_wp2_with (first | (go_at_call 44; refine (sWlIn_is _ HL.out).mono ?_; rintro e w' ⟨rfl, rfl⟩) | (go_at_call 13; refine (sHV_any _ _).mono ?_; rintro e w' ⟨rfl, rfl⟩; rw [HH.out]))
    exact bodyPost_ret (v := .tuple #[.agg #[.int .i64 0, .int .i64 0], .bool false]) (by simp [results, Try.results21, go_sem]) rfl ⟨rfl, bel1 _ _⟩
end Go.Proofs.Ytgbelpkhfaajoab
