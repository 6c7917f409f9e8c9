/- Contracts of chapter 5: tips and spots, the walks. -/
import Derived.Test.YtlahjgjjebkpjabVu
namespace Go.Proofs.Ytlahjgjjebkpjab
open Go Go.ChangeShapes Go.WideShapes Go.ChangeAt Go.RowKit
set_option linter.unusedSimpArgs false
set_option linter.unusedVariables false

theorem iInV_is (n a b : Int) (r : Bool) (w : World) (h : inV n a b = r) : Calls Try.prog 54 #[.int .i64 n, .int .i64 a, .int .i64 b] w fun E w' => E = .returned (.bool r) ∧ w = w' := by subst h; exact iInV_any n a b w
set_option maxHeartbeats 4000000 in
theorem iTip_f (e n h re rn ru : Int) (w : World) (hv : tpB e n h re rn ru = false) :
    Calls Try.prog 68 #[.agg #[.int .i64 e, .int .i64 n], .int .i64 h, .agg #[.int .i64 re, .int .i64 rn, .int .i64 ru]] w fun E w' => E = .returned (.tuple #[.agg #[.int .i64 0, .int .i64 0, .int .i64 0], .bool false]) ∧ Below w.heap.size w w' := by
  cases hp : plB e n
  · clear hv
    have HP := Lib.hid hp
    clear hp
    go_enter Try.func68, Try.ntmps68
    go_wp2_with fail
    refine (iPV_is _ HP.out).mono ?_; rintro E w1 ⟨rfl, hw1⟩
    obtain ⟨hP1, hQ1, hR1, hB1⟩ := ownb3 hw1
    obtain ⟨cP1_0, cP1_1, fP1_0, fP1_1, zP1⟩ := blk2 hP1
    obtain ⟨cQ1_0, cQ1_1, cQ1_2, fQ1_0, fQ1_1, fQ1_2, zQ1⟩ := blk3 hQ1
    obtain ⟨cR1_0, cR1_1, cR1_2, fR1_0, fR1_1, fR1_2, zR1⟩ := blk3 hR1
    go_wp2
    exact bodyPost_ret (v := .tuple #[.agg #[.int .i64 0, .int .i64 0, .int .i64 0], .bool false]) (by simp [results, Try.results68, go_sem, cR1_0, cR1_1, cR1_2, tipN]) rfl ⟨rfl, by repeat (first | exact hB1 | refine Below.setCell ?_ (by simp <;> omega) _ | refine Below.alloc ?_ (by simp <;> omega) _)⟩
  · skip
    cases hh : inV h 0 30
    · clear hv
      have HP := Lib.hid hp
      have HH := Lib.hid hh
      clear hp hh
      go_enter Try.func68, Try.ntmps68
      go_wp2_with fail
      refine (iPV_is _ HP.out).mono ?_; rintro E w1 ⟨rfl, hw1⟩
      obtain ⟨hP1, hQ1, hR1, hB1⟩ := ownb3 hw1
      obtain ⟨cP1_0, cP1_1, fP1_0, fP1_1, zP1⟩ := blk2 hP1
      obtain ⟨cQ1_0, cQ1_1, cQ1_2, fQ1_0, fQ1_1, fQ1_2, zQ1⟩ := blk3 hQ1
      obtain ⟨cR1_0, cR1_1, cR1_2, fR1_0, fR1_1, fR1_2, zR1⟩ := blk3 hR1
      go_wp2_with fail
      refine (iInV_is h 0 30 _ _ HH.out).mono ?_; rintro E w' ⟨rfl, rfl⟩
      go_wp2
      exact bodyPost_ret (v := .tuple #[.agg #[.int .i64 0, .int .i64 0, .int .i64 0], .bool false]) (by simp [results, Try.results68, go_sem, cR1_0, cR1_1, cR1_2, tipN]) rfl ⟨rfl, by repeat (first | exact hB1 | refine Below.setCell ?_ (by simp <;> omega) _ | refine Below.alloc ?_ (by simp <;> omega) _)⟩
    · skip
      cases hr : ryB re rn ru
      · clear hv
        have HP := Lib.hid hp
        have HH := Lib.hid hh
        have HR := Lib.hid hr
        clear hp hh hr
        go_enter Try.func68, Try.ntmps68
        go_wp2_with fail
        refine (iPV_is _ HP.out).mono ?_; rintro E w1 ⟨rfl, hw1⟩
        obtain ⟨hP1, hQ1, hR1, hB1⟩ := ownb3 hw1
        obtain ⟨cP1_0, cP1_1, fP1_0, fP1_1, zP1⟩ := blk2 hP1
        obtain ⟨cQ1_0, cQ1_1, cQ1_2, fQ1_0, fQ1_1, fQ1_2, zQ1⟩ := blk3 hQ1
        obtain ⟨cR1_0, cR1_1, cR1_2, fR1_0, fR1_1, fR1_2, zR1⟩ := blk3 hR1
        go_wp2_with fail
        refine (iInV_is h 0 30 _ _ HH.out).mono ?_; rintro E w' ⟨rfl, rfl⟩
        go_wp2_with fail
        refine (iRV_is _ HR.out).mono ?_; rintro E w2 ⟨rfl, hw2⟩
        have hP2 := blk_next hP1 hw2
        have hQ2 := blk_next hQ1 hw2
        have hR2 := blk_next hR1 hw2
        have hB2 := bel_next hB1 hw2
        obtain ⟨cP2_0, cP2_1, fP2_0, fP2_1, zP2⟩ := blk2 hP2
        obtain ⟨cQ2_0, cQ2_1, cQ2_2, fQ2_0, fQ2_1, fQ2_2, zQ2⟩ := blk3 hQ2
        obtain ⟨cR2_0, cR2_1, cR2_2, fR2_0, fR2_1, fR2_2, zR2⟩ := blk3 hR2
        go_wp2
        exact bodyPost_ret (v := .tuple #[.agg #[.int .i64 0, .int .i64 0, .int .i64 0], .bool false]) (by simp [results, Try.results68, go_sem, cR2_0, cR2_1, cR2_2, tipN]) rfl ⟨rfl, by repeat (first | exact hB2 | refine Below.setCell ?_ (by simp <;> omega) _ | refine Below.alloc ?_ (by simp <;> omega) _)⟩
      · exfalso; unfold tpB at hv; rw [hp, hh, hr] at hv; cases hv
set_option maxHeartbeats 4000000 in
theorem iTip_t (e n h re rn ru : Int) (w : World) (hv : tpB e n h re rn ru = true) :
    Calls Try.prog 68 #[.agg #[.int .i64 e, .int .i64 n], .int .i64 h, .agg #[.int .i64 re, .int .i64 rn, .int .i64 ru]] w fun E w' => E = .returned (.tuple #[.agg #[.int .i64 (tipN e re h ru), .int .i64 (tipN n rn h ru), .int .i64 ru], .bool true]) ∧ Below w.heap.size w w' := by
  unfold tpB at hv
  rw [Bool.and_eq_true, Bool.and_eq_true] at hv
  obtain ⟨hp, hh, hr⟩ := hv
  have b1 := plB_iff.1 hp
  have b2 : 0 ≤ h ∧ h ≤ 30 := by unfold inV at hh; simpa using hh
  have b3 := ryB_iff.1 hr
  have m1 := mulB (p := 50) (q := 20) (a := e) (b := ru) (by omega) (by omega) (by omega) (by omega)
  have m2 := mulB (p := 50) (q := 20) (a := n) (b := ru) (by omega) (by omega) (by omega) (by omega)
  have m3 := mulB (p := 20) (q := 30) (a := re) (b := h) (by omega) (by omega) (by omega) (by omega)
  have m4 := mulB (p := 20) (q := 30) (a := rn) (b := h) (by omega) (by omega) (by omega) (by omega)
  simp only [Int.reduceMul, Int.reduceNeg] at m1 m2 m3 m4
  obtain ⟨m10, m11⟩ := m1
  obtain ⟨m20, m21⟩ := m2
  obtain ⟨m30, m31⟩ := m3
  obtain ⟨m40, m41⟩ := m4
  have HP := Lib.hid hp
  have HH := Lib.hid hh
  have HR := Lib.hid hr
  clear hp hh hr
  go_enter Try.func68, Try.ntmps68
  go_wp2_with fail
  refine (iPV_is _ HP.out).mono ?_; rintro E w1 ⟨rfl, hw1⟩
  obtain ⟨hP1, hQ1, hR1, hB1⟩ := ownb3 hw1
  obtain ⟨cP1_0, cP1_1, fP1_0, fP1_1, zP1⟩ := blk2 hP1
  obtain ⟨cQ1_0, cQ1_1, cQ1_2, fQ1_0, fQ1_1, fQ1_2, zQ1⟩ := blk3 hQ1
  obtain ⟨cR1_0, cR1_1, cR1_2, fR1_0, fR1_1, fR1_2, zR1⟩ := blk3 hR1
  go_wp2_with fail
  refine (iInV_is h 0 30 _ _ HH.out).mono ?_; rintro E w' ⟨rfl, rfl⟩
  go_wp2_with fail
  refine (iRV_is _ HR.out).mono ?_; rintro E w2 ⟨rfl, hw2⟩
  have hP2 := blk_next hP1 hw2
  have hQ2 := blk_next hQ1 hw2
  have hR2 := blk_next hR1 hw2
  have hB2 := bel_next hB1 hw2
  obtain ⟨cP2_0, cP2_1, fP2_0, fP2_1, zP2⟩ := blk2 hP2
  obtain ⟨cQ2_0, cQ2_1, cQ2_2, fQ2_0, fQ2_1, fQ2_2, zQ2⟩ := blk3 hQ2
  obtain ⟨cR2_0, cR2_1, cR2_2, fR2_0, fR2_1, fR2_2, zR2⟩ := blk3 hR2
  go_wp2
  exact bodyPost_ret (v := .tuple #[.agg #[.int .i64 (tipN e re h ru), .int .i64 (tipN n rn h ru), .int .i64 ru], .bool true]) (by simp [results, Try.results68, go_sem, cR2_0, cR2_1, cR2_2, tipN]) rfl ⟨rfl, by repeat (first | exact hB2 | refine Below.setCell ?_ (by simp <;> omega) _ | refine Below.alloc ?_ (by simp <;> omega) _)⟩
set_option maxHeartbeats 4000000 in
theorem sTip_f (e n h re rn ru : Int) (w : World) (hv : tpB e n h re rn ru = false) :
    Calls Try.prog 69 #[.agg #[.int .i64 e, .int .i64 n], .int .i64 h, .agg #[.int .i64 re, .int .i64 rn, .int .i64 ru]] w fun E w' => E = .returned (.tuple #[.agg #[.int .i64 0, .int .i64 0, .int .i64 0], .bool false]) ∧ Below w.heap.size w w' := by
  cases hp : plB e n
  · clear hv
    have HP := Lib.hid hp
    clear hp
    go_enter Try.func69, Try.ntmps69
    go_wp2_with fail
    refine (sPV_is _ HP.out).mono ?_; rintro E w1 ⟨rfl, hw1⟩
    obtain ⟨hP1, hQ1, hR1, hB1⟩ := ownb3 hw1
    obtain ⟨cP1_0, cP1_1, fP1_0, fP1_1, zP1⟩ := blk2 hP1
    obtain ⟨cQ1_0, cQ1_1, cQ1_2, fQ1_0, fQ1_1, fQ1_2, zQ1⟩ := blk3 hQ1
    obtain ⟨cR1_0, cR1_1, cR1_2, fR1_0, fR1_1, fR1_2, zR1⟩ := blk3 hR1
    go_wp2
    exact bodyPost_ret (v := .tuple #[.agg #[.int .i64 0, .int .i64 0, .int .i64 0], .bool false]) (by simp [results, Try.results69, go_sem, cR1_0, cR1_1, cR1_2, tipN]) rfl ⟨rfl, by repeat (first | exact hB1 | refine Below.setCell ?_ (by simp <;> omega) _ | refine Below.alloc ?_ (by simp <;> omega) _)⟩
  · skip
    cases hr : ryB re rn ru
    · clear hv
      have HP := Lib.hid hp
      have HR := Lib.hid hr
      clear hp hr
      go_enter Try.func69, Try.ntmps69
      go_wp2_with fail
      refine (sPV_is _ HP.out).mono ?_; rintro E w1 ⟨rfl, hw1⟩
      obtain ⟨hP1, hQ1, hR1, hB1⟩ := ownb3 hw1
      obtain ⟨cP1_0, cP1_1, fP1_0, fP1_1, zP1⟩ := blk2 hP1
      obtain ⟨cQ1_0, cQ1_1, cQ1_2, fQ1_0, fQ1_1, fQ1_2, zQ1⟩ := blk3 hQ1
      obtain ⟨cR1_0, cR1_1, cR1_2, fR1_0, fR1_1, fR1_2, zR1⟩ := blk3 hR1
      go_wp2_with fail
      refine (sRV_is _ HR.out).mono ?_; rintro E w2 ⟨rfl, hw2⟩
      have hP2 := blk_next hP1 hw2
      have hQ2 := blk_next hQ1 hw2
      have hR2 := blk_next hR1 hw2
      have hB2 := bel_next hB1 hw2
      obtain ⟨cP2_0, cP2_1, fP2_0, fP2_1, zP2⟩ := blk2 hP2
      obtain ⟨cQ2_0, cQ2_1, cQ2_2, fQ2_0, fQ2_1, fQ2_2, zQ2⟩ := blk3 hQ2
      obtain ⟨cR2_0, cR2_1, cR2_2, fR2_0, fR2_1, fR2_2, zR2⟩ := blk3 hR2
      go_wp2
      exact bodyPost_ret (v := .tuple #[.agg #[.int .i64 0, .int .i64 0, .int .i64 0], .bool false]) (by simp [results, Try.results69, go_sem, cR2_0, cR2_1, cR2_2, tipN]) rfl ⟨rfl, by repeat (first | exact hB2 | refine Below.setCell ?_ (by simp <;> omega) _ | refine Below.alloc ?_ (by simp <;> omega) _)⟩
    · skip
      cases hh : inV h 0 30
      · clear hv
        have HP := Lib.hid hp
        have HR := Lib.hid hr
        have HH := Lib.hid hh
        clear hp hr hh
        go_enter Try.func69, Try.ntmps69
        go_wp2_with fail
        refine (sPV_is _ HP.out).mono ?_; rintro E w1 ⟨rfl, hw1⟩
        obtain ⟨hP1, hQ1, hR1, hB1⟩ := ownb3 hw1
        obtain ⟨cP1_0, cP1_1, fP1_0, fP1_1, zP1⟩ := blk2 hP1
        obtain ⟨cQ1_0, cQ1_1, cQ1_2, fQ1_0, fQ1_1, fQ1_2, zQ1⟩ := blk3 hQ1
        obtain ⟨cR1_0, cR1_1, cR1_2, fR1_0, fR1_1, fR1_2, zR1⟩ := blk3 hR1
        go_wp2_with fail
        refine (sRV_is _ HR.out).mono ?_; rintro E w2 ⟨rfl, hw2⟩
        have hP2 := blk_next hP1 hw2
        have hQ2 := blk_next hQ1 hw2
        have hR2 := blk_next hR1 hw2
        have hB2 := bel_next hB1 hw2
        obtain ⟨cP2_0, cP2_1, fP2_0, fP2_1, zP2⟩ := blk2 hP2
        obtain ⟨cQ2_0, cQ2_1, cQ2_2, fQ2_0, fQ2_1, fQ2_2, zQ2⟩ := blk3 hQ2
        obtain ⟨cR2_0, cR2_1, cR2_2, fR2_0, fR2_1, fR2_2, zR2⟩ := blk3 hR2
        go_wp2_with fail
        refine (l1V_is h 0 30 _ _ HH.out).mono ?_; rintro E w' ⟨rfl, rfl⟩
        go_wp2
        exact bodyPost_ret (v := .tuple #[.agg #[.int .i64 0, .int .i64 0, .int .i64 0], .bool false]) (by simp [results, Try.results69, go_sem, cR2_0, cR2_1, cR2_2, tipN]) rfl ⟨rfl, by repeat (first | exact hB2 | refine Below.setCell ?_ (by simp <;> omega) _ | refine Below.alloc ?_ (by simp <;> omega) _)⟩
      · exfalso; unfold tpB at hv; rw [hp, hh, hr] at hv; cases hv
set_option maxHeartbeats 4000000 in
theorem sTip_t (e n h re rn ru : Int) (w : World) (hv : tpB e n h re rn ru = true) :
    Calls Try.prog 69 #[.agg #[.int .i64 e, .int .i64 n], .int .i64 h, .agg #[.int .i64 re, .int .i64 rn, .int .i64 ru]] w fun E w' => E = .returned (.tuple #[.agg #[.int .i64 (tipN e re h ru), .int .i64 (tipN n rn h ru), .int .i64 ru], .bool true]) ∧ Below w.heap.size w w' := by
  unfold tpB at hv
  rw [Bool.and_eq_true, Bool.and_eq_true] at hv
  obtain ⟨hp, hh, hr⟩ := hv
  have b1 := plB_iff.1 hp
  have b2 : 0 ≤ h ∧ h ≤ 30 := by unfold inV at hh; simpa using hh
  have b3 := ryB_iff.1 hr
  have m1 := mulB (p := 50) (q := 20) (a := e) (b := ru) (by omega) (by omega) (by omega) (by omega)
  have m2 := mulB (p := 50) (q := 20) (a := n) (b := ru) (by omega) (by omega) (by omega) (by omega)
  have m3 := mulB (p := 20) (q := 30) (a := re) (b := h) (by omega) (by omega) (by omega) (by omega)
  have m4 := mulB (p := 20) (q := 30) (a := rn) (b := h) (by omega) (by omega) (by omega) (by omega)
  simp only [Int.reduceMul, Int.reduceNeg] at m1 m2 m3 m4
  obtain ⟨m10, m11⟩ := m1
  obtain ⟨m20, m21⟩ := m2
  obtain ⟨m30, m31⟩ := m3
  obtain ⟨m40, m41⟩ := m4
  have HP := Lib.hid hp
  have HH := Lib.hid hh
  have HR := Lib.hid hr
  clear hp hh hr
  go_enter Try.func69, Try.ntmps69
  go_wp2_with fail
  refine (sPV_is _ HP.out).mono ?_; rintro E w1 ⟨rfl, hw1⟩
  obtain ⟨hP1, hQ1, hR1, hB1⟩ := ownb3 hw1
  obtain ⟨cP1_0, cP1_1, fP1_0, fP1_1, zP1⟩ := blk2 hP1
  obtain ⟨cQ1_0, cQ1_1, cQ1_2, fQ1_0, fQ1_1, fQ1_2, zQ1⟩ := blk3 hQ1
  obtain ⟨cR1_0, cR1_1, cR1_2, fR1_0, fR1_1, fR1_2, zR1⟩ := blk3 hR1
  go_wp2_with fail
  refine (sRV_is _ HR.out).mono ?_; rintro E w2 ⟨rfl, hw2⟩
  have hP2 := blk_next hP1 hw2
  have hQ2 := blk_next hQ1 hw2
  have hR2 := blk_next hR1 hw2
  have hB2 := bel_next hB1 hw2
  obtain ⟨cP2_0, cP2_1, fP2_0, fP2_1, zP2⟩ := blk2 hP2
  obtain ⟨cQ2_0, cQ2_1, cQ2_2, fQ2_0, fQ2_1, fQ2_2, zQ2⟩ := blk3 hQ2
  obtain ⟨cR2_0, cR2_1, cR2_2, fR2_0, fR2_1, fR2_2, zR2⟩ := blk3 hR2
  go_wp2_with fail
  refine (l1V_is h 0 30 _ _ HH.out).mono ?_; rintro E w' ⟨rfl, rfl⟩
  go_wp2
  exact bodyPost_ret (v := .tuple #[.agg #[.int .i64 (tipN e re h ru), .int .i64 (tipN n rn h ru), .int .i64 ru], .bool true]) (by simp [results, Try.results69, go_sem, cR2_0, cR2_1, cR2_2, tipN]) rfl ⟨rfl, by repeat (first | exact hB2 | refine Below.setCell ?_ (by simp <;> omega) _ | refine Below.alloc ?_ (by simp <;> omega) _)⟩
end Go.Proofs.Ytlahjgjjebkpjab
