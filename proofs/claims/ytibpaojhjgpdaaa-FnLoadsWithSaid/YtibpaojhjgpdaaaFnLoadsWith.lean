/- FnLoadsWith: whatever the input, the law returns true, and its arguments read as they did. No conditions beyond those of the statement's row. -/
import Derived.Test.YtibpaojhjgpdaaaZ8
import Derived.Test.YtibpaojhjgpdaaaLc
import Derived.Test.YtibpaojhjgpdaaaZp
import Derived.Test.YtibpaojhjgpdaaaKf
import Derived.Test.YtibpaojhjgpdaaaLp
namespace Go.Proofs.Ytibpaojhjgpdaaa.fnLoadsWith
open Go.Proofs.Ytibpaojhjgpdaaa
open Go.ChangeShapes Go.WideShapes Go.ChangeAt Go.RowKit Go.Joins
set_option linter.unusedVariables false
set_option linter.unusedSimpArgs false
set_option linter.unnecessarySimpa false

theorem own : ownKnob Try.prog.godebug = none := by kernel_rfl
theorem laidOut : laidOutB Try.prog = true := by kernel_rfl

set_option maxRecDepth 100000 in
set_option maxHeartbeats 4000000 in
theorem walk (w : World) (a0 : Option Addr) (len0 cap0 : Nat) (w0 : CodeOk w a0 len0 cap0) :
    Calls Try.prog 8 #[.slice a0 len0 cap0] w fun e w' => e = .returned (.bool true) ∧ Below w.heap.size w w' := by
  by_cases hl : 1048576 < len0
  · have w0' := w0.2.1
    unfold maxLen at w0'
    clear w0
    go_enter Try.func8, Try.ntmps8
    go_wp2
    go_ret
    exact ⟨rfl, Below.refl _ _⟩
  · have w0' := w0.2.1
    unfold maxLen at w0'
    have hle := w0.1
    have HW := Lib.hid w0
    clear w0
    go_enter Try.func8, Try.ntmps8
    go_wp2_with fail
    refine (drLoadsWith_any _ _ _ _ HW.out).mono ?_; rintro e w1 ⟨xs, A, cp, t, rfl, hx6, ht, hO1, hB1⟩
    obtain ⟨m, hm⟩ : ∃ m, xs.length = m := ⟨_, rfl⟩
    rw [hm] at hx6 ⊢
    have HM := Lib.hid hm
    clear hm
    obtain ⟨t0, t1⟩ := ht
    obtain ⟨b9, hb9⟩ : ∃ b9, lwB xs t = b9 := ⟨_, rfl⟩
    obtain ⟨l, hl9⟩ : ∃ l, lwL xs t = l := ⟨_, rfl⟩
    have hll : l.length ≤ 7 := by rw [← hl9]; exact lwL_len7 _ _
    have HFT := Lib.hid (lw_law hb9 hl9)
    have HB := Lib.hid hb9
    have HL := Lib.hid hl9
    clear hb9 hl9
    obtain ⟨q, hq⟩ : ∃ q, l.length = q := ⟨_, rfl⟩
    rw [hq] at hll
    have HQ := Lib.hid hq
    clear hq
    go_wp2_with fail
    refine (iLw9_is A cp xs _ HM.out hO1.row (by omega) HL.out HB.out).mono ?_; rintro e w2 ⟨V, cv, rfl, hV2, hw2⟩
    have hO2 := hO1.next hw2
    have hB2 := bel_next hB1 hw2
    have hV2 := hV2.mono (base' := w.heap.size) hB1.size
    rw [HQ.out]
    go_wp2_with fail
    refine (sLw9_is A cp xs _ HM.out hO2.row (by omega) HL.out HB.out).mono ?_; rintro e w3 ⟨U, cu, rfl, hU3, hw3⟩
    have hO3 := hO2.next hw3
    have hV3 := hV2.next hw3
    have hB3 := bel_next hB2 hw3
    have hU3 := hU3.mono (base' := w.heap.size) hB2.size
    rw [HQ.out]
    go_wp2_with fail
    refine (sameNums_is V U cv cu l HQ.out hV3.row hU3.row (by omega)).mono ?_; rintro e w4 ⟨rfl, hw4⟩
    have hO4 := hO3.next hw4
    have hV4 := hV3.next hw4
    have hU4 := hU3.next hw4
    have hB4 := bel_next hB3 hw4
    cases b9
    · obtain rfl : q = 0 := by have := HFT.out.1 rfl; have h2 := HQ.out; rw [this] at h2; exact h2.symm
      go_wp2_with fail
      refine (alive_any _).mono ?_; rintro e w' ⟨rfl, rfl⟩
      go_wp2
      go_ret
      exact ⟨rfl, hB4⟩
    · obtain ⟨t2, t3, hr0, hr1, hmo⟩ := HFT.out.2 rfl
      obtain ⟨r, hr9⟩ : ∃ r, lpI xs l = r := ⟨_, rfl⟩
      rw [hr9] at hr0 hr1
      have HR := Lib.hid hr9
      obtain ⟨b2, hb2⟩ : ∃ b2, lwB xs (t + 1) = b2 := ⟨_, rfl⟩
      rw [hb2] at hmo
      have HB2 := Lib.hid hb2
      obtain ⟨l2, hl2⟩ : ∃ l2, lwL xs (t + 1) = l2 := ⟨_, rfl⟩
      have HL2 := Lib.hid hl2
      have HMO := Lib.hid hmo
      clear hr9 hb2 hl2 hmo
      go_wp2_with fail
      refine (iLp_is A V cp cv xs l _ HM.out hO4.row (by omega) HQ.out hV4.row (by omega) HR.out).mono ?_; rintro e w5 ⟨rfl, hw5⟩
      have hO5 := hO4.next hw5
      have hV5 := hV4.next hw5
      have hU5 := hU4.next hw5
      have hB5 := bel_next hB4 hw5
      go_wp2_with fail
      refine (iLw9_is A cp xs _ HM.out hO5.row (by omega) HL2.out HB2.out).mono ?_; rintro e w6 ⟨Y, cy, rfl, hY6, hw6⟩
      have hO6 := hO5.next hw6
      have hV6 := hV5.next hw6
      have hU6 := hU5.next hw6
      have hB6 := bel_next hB5 hw6
      have hY6 := hY6.mono (base' := w.heap.size) hB5.size
      by_cases h7 : t = 7
      · have e7 : (t == 7) = true := by rw [beq_iff_eq]; exact h7
        clear h7
        go_wp2
        go_ret
        exact ⟨rfl, hB6⟩
      · have e7 : (t == 7) = false := by rw [beq_eq_false_iff_ne]; exact h7
        obtain rfl : b2 = true := by rcases HMO.out with h | h; exact absurd h h7; exact h
        clear h7
        go_wp2
        go_ret
        exact ⟨rfl, hB6⟩

set_option maxRecDepth 100000 in
theorem lifted (os : Os) (started : os.Started) (H : Type) (enc : TypeId × Value → H) :
    ReturnsInHanded {} Try.checked os 8 .any (Rows.fnLoadsWithSpec.pre6 enc Try.prog Try.f8 Rows.fnLoadsWithRow.domain false) (Rows.fnLoadsWithSpec.post enc Try.prog Try.f8 false true false false) := by
  refine returnsInHanded_of_change (C := Try.checked) own started (by kernel_rfl) Try.func8
    (ChangeSpec.witness6 (enc := enc) (C := Try.checked) false ⟨#[], #[.slice none 0 0], []⟩ 8 (by kernel_rfl) (by kernel_rfl) (by kernel_rfl) (by kernel_rfl)) ?_
  intro W base args ds gs before hval0 hW hcnd _
  have hval : ∀ (j : Nat) t v, Try.f8.params[j]? = some t → args[j]? = some v → Value.okWide Try.prog W .any base t v := hval0
  have hW' := hW
  obtain ⟨p, q, hA0, hV, rfl, hfz, hnd⟩ := hW
  have hA : DataW.TrodAll enc Try.prog W 0 (fun _ => true) true Try.f8.params.toList args.toList ds p := hA0
  rw [Try.params8] at hA hval
  obtain ⟨v0, vs0, d0, ds0, p0, q0, hargs, rfl, rfl, h0, r0⟩ := trodAll_cons hA
  obtain ⟨rfl, rfl, rfl⟩ := trodAll_nil r0
  obtain rfl : args = #[v0] := by cases args; simp_all
  obtain ⟨rfl, rfl⟩ := trodVars_none hV
  have k0 := h0
  have lt0 : ∀ x ∈ p0, x.block < W.heap.size := by obtain ⟨m, hm⟩ := k0; exact DataW.trod_lt m _ _ _ hm
  obtain ⟨a0, len0, cap0, rfl⟩ := okWide_slice Try.underlying22 (hval 0 22 v0 rfl rfl)
  have w0 : CodeOk W a0 len0 cap0 := by
    obtain ⟨fuel, hf⟩ := h0
    rcases open_ints Try.underlying22 Try.underlying5 (by kernel_rfl) hf with ⟨hcs, _⟩ | ⟨x, l, c, zs, hcs, _, hl, hm, hz, _, hcell, hwz⟩
    · simp [Value.cells] at hcs
      obtain ⟨rfl, rfl, rfl⟩ := hcs
      exact code_nil W
    · simp [Value.cells] at hcs
      obtain ⟨rfl, rfl, rfl⟩ := hcs
      exact code_ok hl hm (by simp at hz; omega) hcell hwz
  clear hA0 hval0
  refine (walk W a0 len0 cap0 w0).mono fun e W' ⟨he, bel⟩ => ?_
  subst he
  exact ⟨_, rfl, _, _, _, [], _, [], hW', trodAll_mk1 (shut_bool Try.underlying4 _), (trodAll_cons_mk (Below.trod laidOut (by kernel_rfl) (of_decide_eq_true (by kernel_rfl)) k0 bel lt0) trodAll_mk0), rfl, bel.frame _, fun h => by cases h⟩

theorem over : Rows.fnLoadsWithRow.holds Try.pinned (OpenSpec.ofChange Rows.fnLoadsWithSpec) :=
  OpenClaim.holds_of_wide 8 Try.f8 rfl rfl rfl rfl rfl rfl rfl ⟨rfl, rfl, rfl, rfl, rfl⟩ rfl rfl rfl rfl rfl (by kernel_rfl) Try.func8 (by kernel_rfl)
    (of_decide_eq_true (by kernel_rfl)) (by unfold Func.isWrapper; first | (rw [if_pos (by decide +kernel)]; kernel_rfl) | (rw [if_neg (by decide +kernel)]; exact ⟨rfl, rfl⟩))
    (fun os started H enc _ => lifted os started H enc)

/-- The statement. -/
theorem proved : Rows.FnLoadsWithSaid :=
  over
#print axioms proved
end Go.Proofs.Ytibpaojhjgpdaaa.fnLoadsWith
