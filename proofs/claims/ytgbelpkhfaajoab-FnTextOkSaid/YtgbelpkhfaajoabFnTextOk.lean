/- FnTextOk: whatever the input, the law returns true, and its arguments read as they did. No conditions beyond those of the statement's row. -/
import Derived.Test.YtgbelpkhfaajoabHi
import Derived.Test.YtgbelpkhfaajoabDh
import Derived.Test.YtgbelpkhfaajoabLp
namespace Go.Proofs.Ytgbelpkhfaajoab.fnTextOk
open Go.Proofs.Ytgbelpkhfaajoab
open Go.ChangeShapes Go.WideShapes Go.ChangeAt Go.RowKit Go.Joins
set_option linter.unusedVariables false
set_option linter.unusedSimpArgs false
set_option linter.unnecessarySimpa false

theorem own : ownKnob Try.prog.godebug = none := by kernel_rfl
theorem laidOut : laidOutB Try.prog = true := by kernel_rfl

set_option maxRecDepth 100000 in
set_option maxHeartbeats 4000000 in
theorem walk (w : World) (a0 : Option Addr) (len0 cap0 : Nat) (w0 : CodeOk w a0 len0 cap0) :
    Calls Try.prog 10 #[.slice a0 len0 cap0] w fun e w' => e = .returned (.bool true) ∧ Below w.heap.size w w' := by
  by_cases hl : 1048576 < len0
  · have w0' := w0.2.1
    unfold maxLen at w0'
    clear w0
    go_enter Try.func10, Try.ntmps10
    go_wp2
    go_ret
    exact ⟨rfl, Below.refl _ _⟩
  · have w0' := w0.2.1
    unfold maxLen at w0'
    have hle := w0.1
    have HW := Lib.hid w0
    clear w0
    go_enter Try.func10, Try.ntmps10
    go_wp2_with fail
    refine (drTextOk_any _ _ _ _ HW.out).mono ?_; rintro e' w1 ⟨s, rfl, hs, hB0⟩
    have hm : s.size ≤ maxLen := by unfold maxLen; omega
    have hm2 : (s ++ ⟨#[32]⟩ : ByteArray).size ≤ maxLen := by rw [ByteArray.size_append]; unfold maxLen; show _ + 1 ≤ _; omega
    have hme : (⟨#[]⟩ : ByteArray).size ≤ maxLen := by unfold maxLen; decide
    have k2 : tokB (s ++ ⟨#[32]⟩) = false := tok_space s
    have k3 : tokB ⟨#[]⟩ = false := by decide
    cases hb : tokB s
    · have HB := Lib.hid hb
      clear hb
      have HM := Lib.hid hm
      clear hm
      have HM2 := Lib.hid hm2
      clear hm2
      have HME := Lib.hid hme
      clear hme
      have K2 := Lib.hid k2
      clear k2
      have K3 := Lib.hid k3
      clear k3
      have hB0 := hB0
      go_wp2_with fail
      refine (iTok_is _ HM.out HB.out).mono ?_; rintro e' w' ⟨rfl, rfl⟩
      go_wp2_with fail
      refine (sTok_is _ HM.out HB.out).mono ?_; rintro e' w' ⟨rfl, rfl⟩
      go_wp2_with fail
      refine (iTok_is _ HM2.out K2.out).mono ?_; rintro e' w' ⟨rfl, rfl⟩
      go_wp2_with fail
      refine (iTok_is _ HME.out K3.out).mono ?_; rintro e' w' ⟨rfl, rfl⟩
      go_wp2_with fail
      refine (alive_any _).mono ?_; rintro e' w' ⟨rfl, rfl⟩
      go_wp2
      go_ret
      exact ⟨rfl, by first | exact hB0 | exact hB0.drew⟩
    · have h1 : 1 ≤ s.size := tok_size hb
      have k1 : tokB (s.extract 0 1) = true := tok_first hb
      have hm1 : (s.extract 0 1).size ≤ maxLen := by rw [ByteArray.size_extract]; unfold maxLen; omega
      have HB := Lib.hid hb
      clear hb
      have HM := Lib.hid hm
      clear hm
      have HM2 := Lib.hid hm2
      clear hm2
      have HME := Lib.hid hme
      clear hme
      have K2 := Lib.hid k2
      clear k2
      have K3 := Lib.hid k3
      clear k3
      have K1 := Lib.hid k1
      clear k1
      have HM1 := Lib.hid hm1
      clear hm1
      have hB0 := hB0
      go_wp2_with fail
      refine (iTok_is _ HM.out HB.out).mono ?_; rintro e' w' ⟨rfl, rfl⟩
      go_wp2_with fail
      refine (sTok_is _ HM.out HB.out).mono ?_; rintro e' w' ⟨rfl, rfl⟩
      go_wp2_with fail
      refine (iTok_is _ HM1.out K1.out).mono ?_; rintro e' w' ⟨rfl, rfl⟩
      go_wp2_with fail
      refine (iTok_is _ HM2.out K2.out).mono ?_; rintro e' w' ⟨rfl, rfl⟩
      go_wp2_with fail
      refine (iTok_is _ HME.out K3.out).mono ?_; rintro e' w' ⟨rfl, rfl⟩
      go_wp2_with fail
      refine (alive_any _).mono ?_; rintro e' w' ⟨rfl, rfl⟩
      go_wp2
      go_ret
      exact ⟨rfl, by first | exact hB0 | exact hB0.drew⟩

set_option maxRecDepth 100000 in
theorem lifted (os : Os) (started : os.Started) (H : Type) (enc : TypeId × Value → H) :
    ReturnsInHanded {} Try.checked os 10 .any (Rows.fnTextOkSpec.pre6 enc Try.prog Try.f10 Rows.fnTextOkRow.domain false) (Rows.fnTextOkSpec.post enc Try.prog Try.f10 false true false false) := by
  refine returnsInHanded_of_change (C := Try.checked) own started (by kernel_rfl) Try.func10
    (ChangeSpec.witness6 (enc := enc) (C := Try.checked) false ⟨#[], #[.slice none 0 0], []⟩ 8 (by kernel_rfl) (by kernel_rfl) (by kernel_rfl) (by kernel_rfl)) ?_
  intro W base args ds gs before hval0 hW hcnd _
  have hval : ∀ (j : Nat) t v, Try.f10.params[j]? = some t → args[j]? = some v → Value.okWide Try.prog W .any base t v := hval0
  have hW' := hW
  obtain ⟨p, q, hA0, hV, rfl, hfz, hnd⟩ := hW
  have hA : DataW.TrodAll enc Try.prog W 0 (fun _ => true) true Try.f10.params.toList args.toList ds p := hA0
  rw [Try.params10] at hA hval
  obtain ⟨v0, vs0, d0, ds0, p0, q0, hargs, rfl, rfl, h0, r0⟩ := trodAll_cons hA
  obtain ⟨rfl, rfl, rfl⟩ := trodAll_nil r0
  obtain rfl : args = #[v0] := by cases args; simp_all
  obtain ⟨rfl, rfl⟩ := trodVars_none hV
  have k0 := h0
  have lt0 : ∀ x ∈ p0, x.block < W.heap.size := by obtain ⟨m, hm⟩ := k0; exact DataW.trod_lt m _ _ _ hm
  obtain ⟨a0, len0, cap0, rfl⟩ := okWide_slice Try.underlying22 (hval 0 22 v0 rfl rfl)
  have w0 : CodeOk W a0 len0 cap0 := by
    obtain ⟨fuel, hf⟩ := h0
    rcases open_ints Try.underlying22 Try.underlying5 (by kernel_rfl) hf with ⟨hcs, _⟩ | ⟨x, l, c, zs, hcs, _, hl, hm, hz, _, hcell, hwz⟩
    · simp [Value.cells] at hcs
      obtain ⟨rfl, rfl, rfl⟩ := hcs
      exact code_nil W
    · simp [Value.cells] at hcs
      obtain ⟨rfl, rfl, rfl⟩ := hcs
      exact code_ok hl hm (by simp at hz; omega) hcell hwz
  clear hA0 hval0
  refine (walk W a0 len0 cap0 w0).mono fun e W' ⟨he, bel⟩ => ?_
  subst he
  exact ⟨_, rfl, _, _, _, [], _, [], hW', trodAll_mk1 (shut_bool Try.underlying4 _), (trodAll_cons_mk (Below.trod laidOut (by kernel_rfl) (of_decide_eq_true (by kernel_rfl)) k0 bel lt0) trodAll_mk0), rfl, bel.frame _, fun h => by cases h⟩

theorem over : Rows.fnTextOkRow.holds Try.pinned (OpenSpec.ofChange Rows.fnTextOkSpec) :=
  OpenClaim.holds_of_wide 10 Try.f10 rfl rfl rfl rfl rfl rfl rfl ⟨rfl, rfl, rfl, rfl, rfl⟩ rfl rfl rfl rfl rfl (by kernel_rfl) Try.func10 (by kernel_rfl)
    (of_decide_eq_true (by kernel_rfl)) (by unfold Func.isWrapper; first | (rw [if_pos (by decide +kernel)]; kernel_rfl) | (rw [if_neg (by decide +kernel)]; exact ⟨rfl, rfl⟩))
    (fun os started H enc _ => lifted os started H enc)

/-- The statement. -/
theorem proved : Rows.FnTextOkSaid :=
  over
#print axioms proved
end Go.Proofs.Ytgbelpkhfaajoab.fnTextOk
