/- FnRoomRest: whatever the input, the law returns true, and its arguments read as they did. No conditions beyond those of the statement's row. -/
import Derived.Test.YtpmbjdfecbmgoabBg
import Derived.Test.YtpmbjdfecbmgoabBo
import Derived.Test.YtpmbjdfecbmgoabBq
import Derived.Test.YtpmbjdfecbmgoabLp
namespace Go.Proofs.Ytpmbjdfecbmgoab.fnRoomRest
open Go.Proofs.Ytpmbjdfecbmgoab
open Go.ChangeShapes Go.WideShapes Go.ChangeAt Go.RowKit Go.Joins
set_option linter.unusedVariables false
set_option linter.unusedSimpArgs false
set_option linter.unnecessarySimpa false

theorem own : ownKnob Try.prog.godebug = none := by kernel_rfl
theorem laidOut : laidOutB Try.prog = true := by kernel_rfl

set_option maxRecDepth 100000 in
set_option maxHeartbeats 4000000 in
theorem walk (w : World) (a0 : Option Addr) (len0 cap0 : Nat) (w0 : CodeOk w a0 len0 cap0) :
    Calls Try.prog 5 #[.slice a0 len0 cap0] w fun e w' => e = .returned (.bool true) ∧ Below w.heap.size w w' := by
  by_cases hl : 1048576 < len0
  · have w0' := w0.2.1
    unfold maxLen at w0'
    clear w0
    go_enter Try.func5, Try.ntmps5
    go_wp2
    go_ret
    exact ⟨rfl, Below.refl _ _⟩
  · have w0' := w0.2.1
    unfold maxLen at w0'
    have hle := w0.1
    have HW := Lib.hid w0
    clear w0
    go_enter Try.func5, Try.ntmps5
    go_wp2_with fail
    refine (drRoomRest_any _ _ _ _ HW.out).mono ?_; rintro e w1 ⟨a, o, k, rfl, ⟨a0, a1⟩, ⟨o0, o1⟩, ⟨k0, k1⟩, hB0⟩
    have hB1 := hB0
    cases hm : rmB a o k
    · have HX : Hid (rtI a o k = -1) := Lib.hid (rtI_no hm)
      clear hm
      go_wp2_with fail
      refine (iRt_is _ HX.out).mono ?_; rintro e' w2 ⟨rfl, hw2⟩
      have hB2 := bel_next hB1 hw2
      go_wp2_with fail
      refine (sRt_is _ HX.out).mono ?_; rintro e' w3 ⟨rfl, hw3⟩
      have hB3 := bel_next hB2 hw3
      go_wp2_with fail
      refine (alive_any _).mono ?_; rintro e' w' ⟨rfl, rfl⟩
      go_wp2
      go_ret
      exact ⟨rfl, hB3⟩
    · have hnb := rtD_bd hm
      obtain ⟨n, hn⟩ : ∃ n, rtD a o k = n := ⟨_, rfl⟩
      have HX : Hid (rtI a o k = n) := Lib.hid ((rtI_yes hm).trans hn)
      have HN : Hid (rtD a o k = n - 0) := Lib.hid (by rw [hn]; omega)
      rw [hn] at hnb
      obtain ⟨n0, n1⟩ := hnb
      have HM := Lib.hid hm
      have ho := (rmB_iff.1 hm).2
      obtain ⟨⟨o2, o3⟩, ⟨k2, k3⟩⟩ := ho
      clear hm hn
      go_wp2_with fail
      refine (iRt_is _ HX.out).mono ?_; rintro e' w2 ⟨rfl, hw2⟩
      have hB2 := bel_next hB1 hw2
      go_wp2_with fail
      refine (sRt_is _ HX.out).mono ?_; rintro e' w3 ⟨rfl, hw3⟩
      have hB3 := bel_next hB2 hw3
      go_wp2_with fail
      go_loopw [3, 7] (fun av iv wr => ∃ (j c : Int), iv = .int .i64 j ∧ 0 ≤ j ∧ j ≤ n ∧ av = .int .i64 c ∧ Hid (rmB c o k = true) ∧ Hid (rtD c o k = n - j) ∧ Below w.heap.size w wr) (fun _ iv _ => (n - intOf iv).toNat)
      case atStart => exact ⟨0, a, rfl, by omega, n0, rfl, HM, HN, hB3⟩
      case round =>
        obtain ⟨j, c, rfl, j0, j1, rfl, HC, HD, hB⟩ := hrel
        obtain ⟨c2, hc2⟩ : ∃ c2, rsR c o 0 k = c2 := ⟨_, rfl⟩
        have HQ : Hid (rqI c o 0 k = c2) := Lib.hid ((rqI_yes HC.out rfl).trans hc2)
        by_cases hlt : j < n
        · obtain ⟨hne, hnx⟩ := rtD_pos HC.out (by rw [HD.out]; omega)
          have hok := rsR_ok HC.out (l := 0) (by omega) (by omega)
          rw [hc2] at hne hnx hok
          have H1 : Hid (rtD c2 o k = n - (j + 1)) := Lib.hid (by rw [hnx, HD.out]; omega)
          have H2 := Lib.hid hok
          have hqe : (c2 == c) = false := by rw [beq_eq_false_iff_ne]; exact hne
          clear hnx hok hc2 hne
          go_wp2_with fail
          refine (iRs_is _ HQ.out).mono ?_; rintro e' w' ⟨rfl, rfl⟩
          go_wp2_with fail
          go_roundw
          case rel => exact ⟨j + 1, c2, by go_num, by omega, by omega, rfl, H2, H1, hB⟩
          case measure => simp [intOf]; omega
        · have hz := rtD_zero HC.out (by rw [HD.out]; omega)
          have hnr := rest_near HC.out hz
          rw [hc2] at hz
          subst hz
          obtain ⟨nr0, nr1⟩ := hnr
          have hcb := (rmB_iff.1 HC.out).1
          obtain ⟨cb0, cb1⟩ := hcb
          clear hc2
          go_wp2_with fail
          refine (iRs_is _ HQ.out).mono ?_; rintro e' w' ⟨rfl, rfl⟩
          go_wp2
          go_ret
          exact ⟨rfl, hB⟩

set_option maxRecDepth 100000 in
theorem lifted (os : Os) (started : os.Started) (H : Type) (enc : TypeId × Value → H) :
    ReturnsInHanded {} Try.checked os 5 .any (Rows.fnRoomRestSpec.pre6 enc Try.prog Try.f5 Rows.fnRoomRestRow.domain false) (Rows.fnRoomRestSpec.post enc Try.prog Try.f5 false true false false) := by
  refine returnsInHanded_of_change (C := Try.checked) own started (by kernel_rfl) Try.func5
    (ChangeSpec.witness6 (enc := enc) (C := Try.checked) false ⟨#[], #[.slice none 0 0], []⟩ 8 (by kernel_rfl) (by kernel_rfl) (by kernel_rfl) (by kernel_rfl)) ?_
  intro W base args ds gs before hval0 hW hcnd _
  have hval : ∀ (j : Nat) t v, Try.f5.params[j]? = some t → args[j]? = some v → Value.okWide Try.prog W .any base t v := hval0
  have hW' := hW
  obtain ⟨p, q, hA0, hV, rfl, hfz, hnd⟩ := hW
  have hA : DataW.TrodAll enc Try.prog W 0 (fun _ => true) true Try.f5.params.toList args.toList ds p := hA0
  rw [Try.params5] at hA hval
  obtain ⟨v0, vs0, d0, ds0, p0, q0, hargs, rfl, rfl, h0, r0⟩ := trodAll_cons hA
  obtain ⟨rfl, rfl, rfl⟩ := trodAll_nil r0
  obtain rfl : args = #[v0] := by cases args; simp_all
  obtain ⟨rfl, rfl⟩ := trodVars_none hV
  have k0 := h0
  have lt0 : ∀ x ∈ p0, x.block < W.heap.size := by obtain ⟨m, hm⟩ := k0; exact DataW.trod_lt m _ _ _ hm
  obtain ⟨a0, len0, cap0, rfl⟩ := okWide_slice Try.underlying22 (hval 0 22 v0 rfl rfl)
  have w0 : CodeOk W a0 len0 cap0 := by
    obtain ⟨fuel, hf⟩ := h0
    rcases open_ints Try.underlying22 Try.underlying5 (by kernel_rfl) hf with ⟨hcs, _⟩ | ⟨x, l, c, zs, hcs, _, hl, hm, hz, _, hcell, hwz⟩
    · simp [Value.cells] at hcs
      obtain ⟨rfl, rfl, rfl⟩ := hcs
      exact code_nil W
    · simp [Value.cells] at hcs
      obtain ⟨rfl, rfl, rfl⟩ := hcs
      exact code_ok hl hm (by simp at hz; omega) hcell hwz
  clear hA0 hval0
  refine (walk W a0 len0 cap0 w0).mono fun e W' ⟨he, bel⟩ => ?_
  subst he
  exact ⟨_, rfl, _, _, _, [], _, [], hW', trodAll_mk1 (shut_bool Try.underlying4 _), (trodAll_cons_mk (Below.trod laidOut (by kernel_rfl) (of_decide_eq_true (by kernel_rfl)) k0 bel lt0) trodAll_mk0), rfl, bel.frame _, fun h => by cases h⟩

theorem over : Rows.fnRoomRestRow.holds Try.pinned (OpenSpec.ofChange Rows.fnRoomRestSpec) :=
  OpenClaim.holds_of_wide 5 Try.f5 rfl rfl rfl rfl rfl rfl rfl ⟨rfl, rfl, rfl, rfl, rfl⟩ rfl rfl rfl rfl rfl (by kernel_rfl) Try.func5 (by kernel_rfl)
    (of_decide_eq_true (by kernel_rfl)) (by unfold Func.isWrapper; first | (rw [if_pos (by decide +kernel)]; kernel_rfl) | (rw [if_neg (by decide +kernel)]; exact ⟨rfl, rfl⟩))
    (fun os started H enc _ => lifted os started H enc)

/-- The statement. -/
theorem proved : Rows.FnRoomRestSaid :=
  over
#print axioms proved
end Go.Proofs.Ytpmbjdfecbmgoab.fnRoomRest
