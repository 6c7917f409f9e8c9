/- FnFriendsValid: whatever the input, the law returns true, and its arguments read as they did. No conditions beyond those of the statement's row. -/
import Derived.Test.YtoeblgfaemhbjaaQg
import Derived.Test.YtoeblgfaemhbjaaQf
import Derived.Test.YtoeblgfaemhbjaaQo
import Derived.Test.YtoeblgfaemhbjaaBj
import Derived.Test.YtoeblgfaemhbjaaLp
namespace Go.Proofs.Ytoeblgfaemhbjaa.fnFriendsValid
open Go.Proofs.Ytoeblgfaemhbjaa
open Go.ChangeShapes Go.WideShapes Go.ChangeAt Go.RowKit Go.Joins
set_option linter.unusedVariables false
set_option linter.unusedSimpArgs false
set_option linter.unnecessarySimpa false

theorem own : ownKnob Try.prog.godebug = none := by kernel_rfl
theorem laidOut : laidOutB Try.prog = true := by kernel_rfl

set_option maxRecDepth 100000 in
set_option maxHeartbeats 4000000 in
theorem walk (w : World) (a0 : Option Addr) (len0 cap0 : Nat) (w0 : CodeOk w a0 len0 cap0) :
    Calls Try.prog 8 #[.slice a0 len0 cap0] w fun e w' => e = .returned (.bool true) ∧ Below w.heap.size w w' := by
  by_cases hl : 1048576 < len0
  · have w0' := w0.2.1
    unfold maxLen at w0'
    clear w0
    go_enter Try.func8, Try.ntmps8
    go_wp2
    go_ret
    exact ⟨rfl, Below.refl _ _⟩
  · have w0' := w0.2.1
    unfold maxLen at w0'
    have hle := w0.1
    have HW := Lib.hid w0
    clear w0
    go_enter Try.func8, Try.ntmps8
    obtain ⟨i0, hi0, hz0, hz1, hz2⟩ := info_parts infoNum
    have HI := Lib.hid (And.intro hi0 (And.intro hz0 (And.intro hz1 hz2)))
    clear hi0 hz0 hz1 hz2
    go_wp2_with fail
    refine (drFriendsValid_any _ _ _ _ HW.out).mono ?_; rintro e w1 ⟨xs, A, cp, rfl, hx6, hO0, hB0⟩
    obtain ⟨m, hm⟩ : ∃ m, xs.length = m := ⟨_, rfl⟩
    rw [hm] at hx6 ⊢
    have HM := Lib.hid hm
    clear hm
    have HF1 : Hid (frB [1] = false) := Lib.hid fr_one
    obtain ⟨v, hv⟩ : ∃ v, frB xs = v := ⟨_, rfl⟩
    have HV := Lib.hid hv
    clear hv
    cases v
    · go_wp2_with fail
      refine (iFr_is A cp xs _ HM.out hO0.row (by omega) HV.out).mono ?_; rintro e' w1 ⟨rfl, hw1⟩
      have hO1 := hO0.next hw1
      have hB1 := bel_next hB0 hw1
      go_wp2_with fail
      refine (sFr_is A cp xs _ HM.out hO1.row (by omega) HV.out).mono ?_; rintro e' w2 ⟨rfl, hw2⟩
      have hO2 := hO1.next hw2
      have hB2 := bel_next hB1 hw2
      go_wp2_with fail
      have hBl := hB2.alloc hB2.size (.cells #[.int .i64 1] 3)
      have hL : SBlk encNum (w2.alloc (.cells #[.int .i64 1] 3)) w2.heap.size 3 [1] := blk_new w2 (.cells #[.int .i64 1] 3)
      refine (iFr_is (n := 1) _ _ [1] _ rfl hL.row (by omega) HF1.out).mono ?_; rintro e wf ⟨rfl, hwf⟩
      have hBf := bel_next hBl hwf
      go_wp2_with fail
      refine (alive_any _).mono ?_; rintro e' w' ⟨rfl, rfl⟩
      go_wp2
      go_ret
      exact ⟨rfl, hBf⟩
    · have hm6 : m ≤ 6 := by have := (frB_iff.1 HV.out).1; rw [HM.out] at this; exact this
      have HZ : Hid (frB (List.replicate m 0) = true) := Lib.hid (fr_zero hm6)
      have HZL : Hid ((List.replicate m (0 : Int)).length = m) := Lib.hid (by simp)
      go_wp2_with fail
      refine (iFr_is A cp xs _ HM.out hO0.row (by omega) HV.out).mono ?_; rintro e' w1 ⟨rfl, hw1⟩
      have hO1 := hO0.next hw1
      have hB1 := bel_next hB0 hw1
      go_wp2_with fail
      refine (sFr_is A cp xs _ HM.out hO1.row (by omega) HV.out).mono ?_; rintro e' w2 ⟨rfl, hw2⟩
      have hO2 := hO1.next hw2
      have hB2 := bel_next hB1 hw2
      go_wp2_with (at_make; refine make_structs_gK _ encNum (0 : Int) (by kernel_rfl) _ _ 23 rfl 3 i0 _ Try.underlying23 HI.out.1 HI.out.2.1 HI.out.2.2.1 rfl .i64 .i64 m rfl rfl (by rw [HI.out.2.2.2]; omega) (by omega) ?_)
      have hZb : SBlk encNum (w2.alloc (.cells (encNum.flat (List.replicate m 0)).toArray 3)) w2.heap.size 3 (List.replicate m 0) := blk_new w2 (.cells (encNum.flat (List.replicate m 0)).toArray 3)
      have hBz := hB2.alloc hB2.size (.cells (encNum.flat (List.replicate m 0)).toArray 3)
      go_wp2_with fail
      refine (iFr_is _ _ (List.replicate m 0) _ HZL.out hZb.row (by omega) HZ.out).mono ?_; rintro e wz ⟨rfl, hwz⟩
      have hBy := bel_next hBz hwz
      go_wp2_with fail
      have hBl := hBy.alloc hBy.size (.cells #[.int .i64 1] 3)
      have hL : SBlk encNum (wz.alloc (.cells #[.int .i64 1] 3)) wz.heap.size 3 [1] := blk_new wz (.cells #[.int .i64 1] 3)
      refine (iFr_is (n := 1) _ _ [1] _ rfl hL.row (by omega) HF1.out).mono ?_; rintro e wf ⟨rfl, hwf⟩
      have hBf := bel_next hBl hwf
      go_wp2_with fail
      refine (alive_any _).mono ?_; rintro e' w' ⟨rfl, rfl⟩
      go_wp2
      go_ret
      exact ⟨rfl, hBf⟩

set_option maxRecDepth 100000 in
theorem lifted (os : Os) (started : os.Started) (H : Type) (enc : TypeId × Value → H) :
    ReturnsInHanded {} Try.checked os 8 .any (Rows.fnFriendsValidSpec.pre6 enc Try.prog Try.f8 Rows.fnFriendsValidRow.domain false) (Rows.fnFriendsValidSpec.post enc Try.prog Try.f8 false true false false) := by
  refine returnsInHanded_of_change (C := Try.checked) own started (by kernel_rfl) Try.func8
    (ChangeSpec.witness6 (enc := enc) (C := Try.checked) false ⟨#[], #[.slice none 0 0], []⟩ 8 (by kernel_rfl) (by kernel_rfl) (by kernel_rfl) (by kernel_rfl)) ?_
  intro W base args ds gs before hval0 hW hcnd _
  have hval : ∀ (j : Nat) t v, Try.f8.params[j]? = some t → args[j]? = some v → Value.okWide Try.prog W .any base t v := hval0
  have hW' := hW
  obtain ⟨p, q, hA0, hV, rfl, hfz, hnd⟩ := hW
  have hA : DataW.TrodAll enc Try.prog W 0 (fun _ => true) true Try.f8.params.toList args.toList ds p := hA0
  rw [Try.params8] at hA hval
  obtain ⟨v0, vs0, d0, ds0, p0, q0, hargs, rfl, rfl, h0, r0⟩ := trodAll_cons hA
  obtain ⟨rfl, rfl, rfl⟩ := trodAll_nil r0
  obtain rfl : args = #[v0] := by cases args; simp_all
  obtain ⟨rfl, rfl⟩ := trodVars_none hV
  have k0 := h0
  have lt0 : ∀ x ∈ p0, x.block < W.heap.size := by obtain ⟨m, hm⟩ := k0; exact DataW.trod_lt m _ _ _ hm
  obtain ⟨a0, len0, cap0, rfl⟩ := okWide_slice Try.underlying22 (hval 0 22 v0 rfl rfl)
  have w0 : CodeOk W a0 len0 cap0 := by
    obtain ⟨fuel, hf⟩ := h0
    rcases open_ints Try.underlying22 Try.underlying5 (by kernel_rfl) hf with ⟨hcs, _⟩ | ⟨x, l, c, zs, hcs, _, hl, hm, hz, _, hcell, hwz⟩
    · simp [Value.cells] at hcs
      obtain ⟨rfl, rfl, rfl⟩ := hcs
      exact code_nil W
    · simp [Value.cells] at hcs
      obtain ⟨rfl, rfl, rfl⟩ := hcs
      exact code_ok hl hm (by simp at hz; omega) hcell hwz
  clear hA0 hval0
  refine (walk W a0 len0 cap0 w0).mono fun e W' ⟨he, bel⟩ => ?_
  subst he
  exact ⟨_, rfl, _, _, _, [], _, [], hW', trodAll_mk1 (shut_bool Try.underlying4 _), (trodAll_cons_mk (Below.trod laidOut (by kernel_rfl) (of_decide_eq_true (by kernel_rfl)) k0 bel lt0) trodAll_mk0), rfl, bel.frame _, fun h => by cases h⟩

theorem over : Rows.fnFriendsValidRow.holds Try.pinned (OpenSpec.ofChange Rows.fnFriendsValidSpec) :=
  OpenClaim.holds_of_wide 8 Try.f8 rfl rfl rfl rfl rfl rfl rfl ⟨rfl, rfl, rfl, rfl, rfl⟩ rfl rfl rfl rfl rfl (by kernel_rfl) Try.func8 (by kernel_rfl)
    (of_decide_eq_true (by kernel_rfl)) (by unfold Func.isWrapper; first | (rw [if_pos (by decide +kernel)]; kernel_rfl) | (rw [if_neg (by decide +kernel)]; exact ⟨rfl, rfl⟩))
    (fun os started H enc _ => lifted os started H enc)

/-- The statement. -/
theorem proved : Rows.FnFriendsValidSaid :=
  over
#print axioms proved
end Go.Proofs.Ytoeblgfaemhbjaa.fnFriendsValid
