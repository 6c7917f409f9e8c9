/- FnRotaTurn: whatever the input, the law returns true, and its arguments read as they did. No conditions beyond those of the statement's row. -/
import Derived.Test.YtoklehmoeollfaaNs
import Derived.Test.YtoklehmoeollfaaNm
import Derived.Test.YtoklehmoeollfaaLp
namespace Go.Proofs.Ytoklehmoeollfaa.fnRotaTurn
open Go.Proofs.Ytoklehmoeollfaa
open Go.ChangeShapes Go.WideShapes Go.ChangeAt Go.RowKit Go.Joins
set_option linter.unusedVariables false
set_option linter.unusedSimpArgs false
set_option linter.unnecessarySimpa false

theorem own : ownKnob Try.prog.godebug = none := by kernel_rfl
theorem laidOut : laidOutB Try.prog = true := by kernel_rfl

set_option maxRecDepth 100000 in
set_option maxHeartbeats 4000000 in
theorem walk (w : World) (a0 : Option Addr) (len0 cap0 : Nat) (w0 : CodeOk w a0 len0 cap0) :
    Calls Try.prog 5 #[.slice a0 len0 cap0] w fun e w' => e = .returned (.bool true) ∧ Below w.heap.size w w' := by
  by_cases hl : 1048576 < len0
  · have w0' := w0.2.1
    unfold maxLen at w0'
    clear w0
    go_enter Try.func5, Try.ntmps5
    go_wp2
    go_ret
    exact ⟨rfl, Below.refl _ _⟩
  · have w0' := w0.2.1
    unfold maxLen at w0'
    have hle := w0.1
    have HW := Lib.hid w0
    clear w0
    go_enter Try.func5, Try.ntmps5
    go_wp2_with fail
    refine (drRotaTurn_any _ _ _ _ HW.out).mono ?_; rintro e w1 ⟨y, f, rfl, ⟨y0, y1⟩, ⟨f0, f1⟩, hB0⟩
    by_cases hv : inV y 1 8 = true ∧ inV f 1 6 = true
    · obtain ⟨h1, h2⟩ := hv
      obtain ⟨ya, yb⟩ := inV_iff.1 h1
      obtain ⟨fa, fb⟩ := inV_iff.1 h2
      obtain ⟨Y, rfl⟩ : ∃ Y : Nat, y = Y := ⟨y.toNat, by omega⟩
      obtain ⟨F, rfl⟩ : ∃ F : Nat, f = F := ⟨f.toNat, by omega⟩
      have hr := rtI_yes h1 h2
      have hY8 : Y ≤ 8 := by omega
      have hF6 : F ≤ 6 := by omega
      have hF1 : 1 ≤ F := by omega
      have hY1 : 1 ≤ Y := by omega
      have hRR := rt_rr hY8 hF6 hF1
      have hvd := rtL_valid hY8 hF6 hF1
      obtain ⟨rows, hrw⟩ : ∃ rows, rtL Y F = rows := ⟨_, rfl⟩
      have HR : Hid (rtI Y F = rows) := Lib.hid (hr.trans hrw)
      have HN : Hid (rows.length = Y) := Lib.hid (by rw [← hrw, rtL_len])
      have HRow : Hid (∀ j (hj : j < rows.length), rows[j] = rtP F j F) := Lib.hid (fun j hj => by rw [← rwK_at hj, ← hrw]; exact rtL_row (by rw [HN.out] at hj; exact hj))
      have HJ : Hid (∀ j (hj : j < rows.length), rows[j].length ≤ 2000000) := Lib.hid (fun j hj => by rw [HRow.out j hj, rtP_len]; omega)
      rw [hrw] at hRR hvd
      have HVD := Lib.hid hvd
      have HRR := Lib.hid hRR
      clear hr hrw h1 h2 hRR hvd
      have hYz : ((Y : Int) == 0) = false := by rw [beq_eq_false_iff_ne]; omega
      go_wp2_with fail
      refine (iRt_fn _ HR.out HN.out).mono ?_; rintro e w2 ⟨AI, cI, hsI9, rfl, hI, hw2⟩
      have hI2 := hI.nrow
      have hB2 := bel_next hB0 hw2
      go_wp2_with fail
      refine (sRt_fn _ HR.out HN.out).mono ?_; rintro e w3 ⟨AS, cS, hsS, rfl, hS, hw3⟩
      have hI3 := hI2.next hw3
      have hB3 := bel_next hB2 hw3
      go_wp2_with fail
      refine (sameLs_is _ _ _ _ _ _ rows _ HN.out hI3 hS.nrow (by omega) HJ.out).mono ?_; rintro e w4 ⟨rfl, hw4⟩
      have hI4 := hI3.next hw4
      have hB4 := bel_next hB3 hw4
      go_wp2_with fail
      go_loopw [6] (fun i wr => ∃ k : Nat, k ≤ Y ∧ i = .int .i64 k ∧ NRow wr AI hsI9 rows ∧ Below w.heap.size w wr) (fun i _ => (Y - intOf i).toNat)
      case atStart => exact ⟨0, by omega, rfl, hI4, hB4⟩
      case round =>
        obtain ⟨k, k1, rfl, hI, hB⟩ := hrel
        by_cases hlt : k < Y
        · have hki : (k : Int) < (Y : Int) := by omega
          have hk : k < rows.length := by rw [HN.out]; exact hlt
          go_wp2_with fail
          go_loopw [7] (fun i wr => ∃ j : Nat, j ≤ F ∧ i = .int .i64 j ∧ NRow wr AI hsI9 rows ∧ Below w.heap.size w wr) (fun i _ => (F - intOf i).toNat)
          case atStart => exact ⟨0, by omega, rfl, hI, hB⟩
          case round =>
            clear hI hB
            obtain ⟨j, j1, rfl, hI, hB⟩ := hrel
            by_cases hjt : j < F
            · have hji : (j : Int) < (F : Int) := by omega
              obtain ⟨b, off, rfl, hb, hget⟩ := hI.get hk
              obtain ⟨H, q, c, hq, d, hrow⟩ := hget k hk
              have hq6 : q ≤ 6 := by rw [← hq, HRow.out k hk, rtP_len]; exact hF6
              have HQ := Lib.hid hq
              clear hget hq
              have HH : Hid (hsI rows[k] (j : Int) = true) := Lib.hid (by rw [HRow.out k hk]; exact rtP_has hjt)
              go_wp2_with fail
              refine (hasI9_is H c rows[k] _ _ HQ.out hrow (by omega) HH.out).mono ?_; rintro e w5 ⟨rfl, hw5⟩
              have hI5 := hI.next hw5
              have hB5 := bel_next hB hw5
              go_wp2_with fail
              go_roundw
              case rel => exact ⟨j + 1, by omega, by go_num, hI5, hB5⟩
              case measure => simp [intOf]; omega
            · have hji : ¬ (j : Int) < (F : Int) := by omega
              go_wp2_with fail
              go_roundw
              case rel => exact ⟨k + 1, by omega, by go_num, hI, hB⟩
              case measure => simp [intOf]; omega
        · have hki : ¬ (k : Int) < (Y : Int) := by omega
          have hYY : ((Y : Int) == (Y : Int)) = true := by simp
          have hFF : ((F : Int) == (F : Int)) = true := by simp
          by_cases hYF : Y ≤ F
          · have g1 : (Y : Int) ≤ (F : Int) := by omega
            have g2 : decide ((Y : Int) ≤ (F : Int)) = true := by simpa using g1
            have g3 : decide (Y ≤ F) = true := by simpa using hYF
            have HV9 : Hid (RrI rows 8) := Lib.hid (by have := HRR.out; rwa [if_pos hYF] at this)
            have HYF := Lib.hid hYF
            clear hYF
            go_wp2_with fail
            refine (iRv_is _ _ _ rows _ HN.out hI (by omega) HJ.out HVD.out).mono ?_; rintro e w5 ⟨rfl, hw5⟩
            have hI5 := hI.next hw5
            have hB5 := bel_next hB hw5
            go_wp2_with fail
            refine (iRr_is _ _ _ rows _ HN.out hI5 (by omega) HJ.out HV9.out).mono ?_; rintro e w6 ⟨rfl, hw6⟩
            have hB6 := bel_next hB5 hw6
            go_wp2
            go_ret
            exact ⟨rfl, hB6⟩
          · have g1 : ¬ (Y : Int) ≤ (F : Int) := by omega
            have g2 : decide ((Y : Int) ≤ (F : Int)) = false := by simpa using g1
            have g3 : decide (Y ≤ F) = false := by simpa using hYF
            have g4 : (F : Int) < (Y : Int) := by omega
            have g5 : decide ((F : Int) < (Y : Int)) = true := by simpa using g4
            have g6 : decide (F < Y) = true := by simp; omega
            have HV9 : Hid (RrI rows (F : Int)) := Lib.hid (by have := HRR.out; rwa [if_neg hYF] at this)
            have HYF := Lib.hid hYF
            clear hYF
            go_wp2_with fail
            refine (iRv_is _ _ _ rows _ HN.out hI (by omega) HJ.out HVD.out).mono ?_; rintro e w5 ⟨rfl, hw5⟩
            have hI5 := hI.next hw5
            have hB5 := bel_next hB hw5
            go_wp2_with fail
            refine (iRr_is _ _ _ rows _ HN.out hI5 (by omega) HJ.out HV9.out).mono ?_; rintro e w6 ⟨rfl, hw6⟩
            have hB6 := bel_next hB5 hw6
            go_wp2
            go_ret
            exact ⟨rfl, hB6⟩
    · have hr : rtI y f = [] := if_neg hv
      obtain ⟨rows, hrw⟩ : ∃ rows : List (List Int), rows = [] := ⟨_, rfl⟩
      have HR : Hid (rtI y f = rows) := Lib.hid (hr.trans hrw.symm)
      obtain ⟨n, hn⟩ : ∃ n, rows.length = n := ⟨_, rfl⟩
      have HN := Lib.hid hn
      have hn0 : n = 0 := by rw [← hn, hrw]; rfl
      have HJ : Hid (∀ j (hj : j < rows.length), rows[j].length ≤ 2000000) := Lib.hid (fun j hj => by rw [hrw] at hj; exact absurd hj (Nat.not_lt_zero _))
      clear hr hrw hn hv
      subst hn0
      go_wp2_with fail
      refine (iRt_fn _ HR.out HN.out).mono ?_; rintro e w2 ⟨AI, cI, hsI9, rfl, hI, hw2⟩
      have hI2 := hI.nrow
      have hB2 := bel_next hB0 hw2
      go_wp2_with fail
      refine (sRt_fn _ HR.out HN.out).mono ?_; rintro e w3 ⟨AS, cS, hsS, rfl, hS, hw3⟩
      have hI3 := hI2.next hw3
      have hB3 := bel_next hB2 hw3
      go_wp2_with fail
      refine (sameLs_is _ _ _ _ _ _ rows _ HN.out hI3 hS.nrow (by omega) HJ.out).mono ?_; rintro e w4 ⟨rfl, hw4⟩
      have hI4 := hI3.next hw4
      have hB4 := bel_next hB3 hw4
      go_wp2_with fail
      refine (alive_any _).mono ?_; rintro e' w' ⟨rfl, rfl⟩
      go_wp2
      go_ret
      exact ⟨rfl, hB4⟩

set_option maxRecDepth 100000 in
theorem lifted (os : Os) (started : os.Started) (H : Type) (enc : TypeId × Value → H) :
    ReturnsInHanded {} Try.checked os 5 .any (Rows.fnRotaTurnSpec.pre6 enc Try.prog Try.f5 Rows.fnRotaTurnRow.domain false) (Rows.fnRotaTurnSpec.post enc Try.prog Try.f5 false true false false) := by
  refine returnsInHanded_of_change (C := Try.checked) own started (by kernel_rfl) Try.func5
    (ChangeSpec.witness6 (enc := enc) (C := Try.checked) false ⟨#[], #[.slice none 0 0], []⟩ 8 (by kernel_rfl) (by kernel_rfl) (by kernel_rfl) (by kernel_rfl)) ?_
  intro W base args ds gs before hval0 hW hcnd _
  have hval : ∀ (j : Nat) t v, Try.f5.params[j]? = some t → args[j]? = some v → Value.okWide Try.prog W .any base t v := hval0
  have hW' := hW
  obtain ⟨p, q, hA0, hV, rfl, hfz, hnd⟩ := hW
  have hA : DataW.TrodAll enc Try.prog W 0 (fun _ => true) true Try.f5.params.toList args.toList ds p := hA0
  rw [Try.params5] at hA hval
  obtain ⟨v0, vs0, d0, ds0, p0, q0, hargs, rfl, rfl, h0, r0⟩ := trodAll_cons hA
  obtain ⟨rfl, rfl, rfl⟩ := trodAll_nil r0
  obtain rfl : args = #[v0] := by cases args; simp_all
  obtain ⟨rfl, rfl⟩ := trodVars_none hV
  have k0 := h0
  have lt0 : ∀ x ∈ p0, x.block < W.heap.size := by obtain ⟨m, hm⟩ := k0; exact DataW.trod_lt m _ _ _ hm
  obtain ⟨a0, len0, cap0, rfl⟩ := okWide_slice Try.underlying22 (hval 0 22 v0 rfl rfl)
  have w0 : CodeOk W a0 len0 cap0 := by
    obtain ⟨fuel, hf⟩ := h0
    rcases open_ints Try.underlying22 Try.underlying5 (by kernel_rfl) hf with ⟨hcs, _⟩ | ⟨x, l, c, zs, hcs, _, hl, hm, hz, _, hcell, hwz⟩
    · simp [Value.cells] at hcs
      obtain ⟨rfl, rfl, rfl⟩ := hcs
      exact code_nil W
    · simp [Value.cells] at hcs
      obtain ⟨rfl, rfl, rfl⟩ := hcs
      exact code_ok hl hm (by simp at hz; omega) hcell hwz
  clear hA0 hval0
  refine (walk W a0 len0 cap0 w0).mono fun e W' ⟨he, bel⟩ => ?_
  subst he
  exact ⟨_, rfl, _, _, _, [], _, [], hW', trodAll_mk1 (shut_bool Try.underlying4 _), (trodAll_cons_mk (Below.trod laidOut (by kernel_rfl) (of_decide_eq_true (by kernel_rfl)) k0 bel lt0) trodAll_mk0), rfl, bel.frame _, fun h => by cases h⟩

theorem over : Rows.fnRotaTurnRow.holds Try.pinned (OpenSpec.ofChange Rows.fnRotaTurnSpec) :=
  OpenClaim.holds_of_wide 5 Try.f5 rfl rfl rfl rfl rfl rfl rfl ⟨rfl, rfl, rfl, rfl, rfl⟩ rfl rfl rfl rfl rfl (by kernel_rfl) Try.func5 (by kernel_rfl)
    (of_decide_eq_true (by kernel_rfl)) (by unfold Func.isWrapper; first | (rw [if_pos (by decide +kernel)]; kernel_rfl) | (rw [if_neg (by decide +kernel)]; exact ⟨rfl, rfl⟩))
    (fun os started H enc _ => lifted os started H enc)

/-- The statement. -/
theorem proved : Rows.FnRotaTurnSaid :=
  over
#print axioms proved
end Go.Proofs.Ytoklehmoeollfaa.fnRotaTurn
