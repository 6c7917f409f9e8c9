/- FnLineOk: whatever the input, the law returns true, and its arguments read as they did. No conditions beyond those of the statement's row. -/
import Derived.Test.YtoklehmoeollfaaNw
import Derived.Test.YtoklehmoeollfaaNh
import Derived.Test.YtoklehmoeollfaaQl
import Derived.Test.YtoklehmoeollfaaLp
namespace Go.Proofs.Ytoklehmoeollfaa.fnLineOk
open Go.Proofs.Ytoklehmoeollfaa
open Go.ChangeShapes Go.WideShapes Go.ChangeAt Go.RowKit Go.Joins
set_option linter.unusedVariables false
set_option linter.unusedSimpArgs false
set_option linter.unnecessarySimpa false

theorem own : ownKnob Try.prog.godebug = none := by kernel_rfl
theorem laidOut : laidOutB Try.prog = true := by kernel_rfl

set_option maxRecDepth 100000 in
set_option maxHeartbeats 4000000 in
theorem walk (w : World) (a0 : Option Addr) (len0 cap0 : Nat) (w0 : CodeOk w a0 len0 cap0) :
    Calls Try.prog 7 #[.slice a0 len0 cap0] w fun e w' => e = .returned (.bool true) ∧ Below w.heap.size w w' := by
  by_cases hl : 1048576 < len0
  · have w0' := w0.2.1
    unfold maxLen at w0'
    clear w0
    go_enter Try.func7, Try.ntmps7
    go_wp2
    go_ret
    exact ⟨rfl, Below.refl _ _⟩
  · have w0' := w0.2.1
    unfold maxLen at w0'
    have hle := w0.1
    have HW := Lib.hid w0
    clear w0
    go_enter Try.func7, Try.ntmps7
    obtain ⟨i0, hi0, hz0, hz1, hz2⟩ := info_parts infoNum
    have HI := Lib.hid (And.intro hi0 (And.intro hz0 (And.intro hz1 hz2)))
    clear hi0 hz0 hz1 hz2
    go_wp2_with fail
    refine (drLineOk_any _ _ _ _ HW.out).mono ?_; rintro e w1 ⟨A, C, cp, cc, xs, us, rfl, hx7, hu8, hO0, hU0, hcc, hB0⟩
    obtain ⟨m, hm⟩ : ∃ m, xs.length = m := ⟨_, rfl⟩
    obtain ⟨q, hq⟩ : ∃ q, us.length = q := ⟨_, rfl⟩
    rw [hm] at hx7 ⊢
    rw [hq] at hu8 hcc ⊢
    have HM := Lib.hid hm
    have HQ := Lib.hid hq
    clear hm hq
    obtain ⟨v, hv⟩ : ∃ v, lnB xs us = v := ⟨_, rfl⟩
    have HV := Lib.hid hv
    clear hv
    cases v
    · go_wp2_with fail
      refine (iLk_is _ _ _ _ xs us _ HM.out HQ.out hO0.row hU0.row (by omega) (by omega) hcc HV.out).mono ?_; rintro e' w1 ⟨rfl, hw1⟩
      have hO1 := hO0.next hw1
      have hU1 := hU0.next hw1
      have hB1 := bel_next hB0 hw1
      go_wp2_with fail
      refine (sLk_is _ _ _ _ xs us _ HM.out HQ.out hO1.row hU1.row (by omega) (by omega) hcc HV.out).mono ?_; rintro e' w2 ⟨rfl, hw2⟩
      have hO2 := hO1.next hw2
      have hU2 := hU1.next hw2
      have hB2 := bel_next hB1 hw2
      go_wp2_with fail
      refine (alive_any _).mono ?_; rintro e' w' ⟨rfl, rfl⟩
      go_wp2
      go_ret
      exact ⟨rfl, hB2⟩
    · have hqm : q = m := by have := (lnB_iff.1 HV.out).2.1; rw [HQ.out, HM.out] at this; exact this
      subst hqm
      have HBK := Lib.hid (ln_back HV.out)
      have HSM := Lib.hid (ln_some HV.out)
      obtain ⟨r, hr⟩ : ∃ r, lmI xs = r := ⟨_, rfl⟩
      have hr0 : 0 < r := by have := lm_lf (fs := xs); rw [HSM.out, hr] at this; exact of_decide_eq_true this.symm
      have hrd : decide (0 < r) = true := decide_eq_true hr0
      have HR := Lib.hid hr
      obtain ⟨l, hl⟩ : ∃ l, lfL xs = l := ⟨_, rfl⟩
      have HL := Lib.hid hl
      clear hr hl
      go_wp2_with fail
      refine (iLk_is _ _ _ _ xs us _ HM.out HQ.out hO0.row hU0.row (by omega) (by omega) hcc HV.out).mono ?_; rintro e' w1 ⟨rfl, hw1⟩
      have hO1 := hO0.next hw1
      have hU1 := hU0.next hw1
      have hB1 := bel_next hB0 hw1
      go_wp2_with fail
      refine (sLk_is _ _ _ _ xs us _ HM.out HQ.out hO1.row hU1.row (by omega) (by omega) hcc HV.out).mono ?_; rintro e' w2 ⟨rfl, hw2⟩
      have hO2 := hO1.next hw2
      have hU2 := hU1.next hw2
      have hB2 := bel_next hB1 hw2
      have hzn := hB2.size
      have HAL : Hid (∀ g, A = some ⟨g, 0, none⟩ → g < w2.heap.size) := Lib.hid (fun g hg => by rcases hO2.form with ⟨e, _⟩ | ⟨g1, e, _, h9⟩; rw [e] at hg; cases hg; rw [e] at hg; cases hg; exact h9)
      have HCL : Hid (∀ g, C = some ⟨g, 0, none⟩ → g < w2.heap.size) := Lib.hid (fun g hg => by rcases hU2.form with ⟨e, _⟩ | ⟨g1, e, _, h9⟩; rw [e] at hg; cases hg; rw [e] at hg; cases hg; exact h9)
      go_wp2_with fail
      go_loopw [6, 7] (fun ov kv wr => ∃ (k p gv cv : Nat), p + k = q ∧ kv = .int .i64 ((k : Int) - 1) ∧ ov = .slice (some ⟨gv, 0, none⟩) p cv ∧ SOwn encNum wr w2.heap.size 3 (some ⟨gv, 0, none⟩) cv (us.drop k).reverse ∧ SOwn encNum wr w.heap.size 3 A cp xs ∧ SOwn encNum wr w.heap.size 3 C cc us ∧ Below w.heap.size w wr) (fun _ kv _ => (intOf kv + 1).toNat)
      case atStart => exact ⟨q, 0, _, 0, by omega, rfl, rfl, by rw [List.drop_eq_nil_of_le (by rw [HQ.out]; exact Nat.le_refl _)]; exact SOwn.empty (blk_new w2 _) (Nat.le_refl _), hO2.alloc _, hU2.alloc _, hB2.alloc hzn _⟩
      case round =>
        clear hO2 hU2 hB2
        obtain ⟨k, p, gv, cv, pk, rfl, rfl, hY, hO, hU, hB⟩ := hrel
        have PK := Lib.hid pk
        have hp8 : p ≤ 8 := by omega
        have HP : Hid ((us.drop k).reverse.length = p) := Lib.hid (by rw [List.length_reverse, List.length_drop, HQ.out]; omega)
        by_cases hk0 : 0 < k
        · obtain ⟨j, rfl⟩ : ∃ j, k = j + 1 := ⟨k - 1, by omega⟩
          have hkj : ((j + 1 : Nat) : Int) - 1 = (j : Int) := by omega
          have hjq : j < q := by omega
          have hji : (j : Int) < (q : Int) := by omega
          have hj : j < us.length := by rw [HQ.out]; exact hjq
          have hj0 : (0 : Int) ≤ (j : Int) := by omega
          clear pk
          have hzr := hB.size
          have hge : w2.heap.size ≤ gv := own_ge hY
          obtain ⟨bU, oU, rfl, hbU, d0⟩ := rowNum hU.row hj
          have HRV : Hid ((us.drop (j + 1)).reverse ++ [us[j]] = (us.drop j).reverse) := Lib.hid (by rw [List.drop_eq_getElem_cons hj, List.reverse_cons])
          generalize us[j] = v at d0 HRV
          have hOa := hY.alloc (.cells (encNum.enc v).toArray 3)
          skip
          go_wp2_with (at_builtin; refine wpList_append_lies _ rfl (.tmp 37) (.tmp 42) _ rfl w2.heap.size 3 i0 _ 1 8 Try.underlying29 HI.out.1 HI.out.2.1 HI.out.2.2.1 HI.out.2.2.2 rfl (by omega) (.slice (some ⟨gv, 0, none⟩) p cv) p (encNum.flat (us.drop (j + 1)).reverse) rfl (hOa.raw HP.out) ⟨wr.heap.size, 0, none⟩ 1 1 (encNum.enc v) rfl rfl (new_enc (E := encNum) wr v _) (encNum.one _) (by omega) (by simp only [maxLen]; omega) (by omega) (by simp; have := own_lt hY; omega) _ rfl ?_; intro g5 cap5 w5 hown5 hgr5 hat5 hlt5)
          have hge5 : ∀ j, Value.ownBlock (.slice (some ⟨gv, 0, none⟩) p cv) = some j → w2.heap.size ≤ j := fun j hj => SOwn.ge_baseK hOa j hj
          have hB5 := (hB.alloc hzr (.cells (encNum.enc v).toArray 3)).grown hgr5 (by simp; omega) (fun j hj => by have := hge5 j hj; omega)
          have hsn := SOwn.snoc (E := encNum) (xs := (us.drop (j + 1)).reverse) (x := v) (by rw [HP.out]; exact hown5)
          rw [HRV.out] at hsn
          have hO5 := (hO.alloc (.cells (encNum.enc v).toArray 3)).grown_far hgr5 (fun g hg e => by have h8 := HAL.out g hg; have := hge5 g e; omega)
          have hU5 := (hU.alloc (.cells (encNum.enc v).toArray 3)).grown_far hgr5 (fun g hg e => by have h8 := HCL.out g hg; have := hge5 g e; omega)
          go_wp2_with fail
          go_roundw
          case rel => exact ⟨j, p + 1, g5, cap5, by have := PK.out; omega, by go_num, rfl, hsn, hO5, hU5, hB5⟩
          case measure => first | (simp [intOf]; done) | (simp [intOf]; omega)
        · obtain rfl : k = 0 := by omega
          obtain rfl : p = q := by omega
          rw [List.drop_zero] at hY
          have HPL : Hid (us.reverse.length = p) := Lib.hid (by rw [List.length_reverse]; exact HQ.out)
          have hcv := hY.cap.1
          rw [HPL.out] at hcv
          clear pk
          go_wp2_with fail
          refine (iLf9_is A cp xs _ HM.out hO.row (by omega) HL.out HSM.out).mono ?_; rintro e w5 ⟨V, cV, rfl, _, hw5⟩
          have hO5 := hO.next hw5
          have hY5 := hY.next hw5
          have hB5 := bel_next hB hw5
          go_wp2_with fail
          refine (iLk_is _ _ _ _ xs us.reverse _ HM.out HPL.out hO5.row hY5.row (by omega) (by omega) hcv HBK.out).mono ?_; rintro e w6 ⟨rfl, hw6⟩
          have hO6 := hO5.next hw6
          have hB6 := bel_next hB5 hw6
          go_wp2_with fail
          refine (iLm_is A cp xs _ HM.out hO6.row (by omega) HR.out).mono ?_; rintro e w7 ⟨rfl, hw7⟩
          have hB7 := bel_next hB6 hw7
          go_wp2
          go_ret
          exact ⟨rfl, hB7⟩

set_option maxRecDepth 100000 in
theorem lifted (os : Os) (started : os.Started) (H : Type) (enc : TypeId × Value → H) :
    ReturnsInHanded {} Try.checked os 7 .any (Rows.fnLineOkSpec.pre6 enc Try.prog Try.f7 Rows.fnLineOkRow.domain false) (Rows.fnLineOkSpec.post enc Try.prog Try.f7 false true false false) := by
  refine returnsInHanded_of_change (C := Try.checked) own started (by kernel_rfl) Try.func7
    (ChangeSpec.witness6 (enc := enc) (C := Try.checked) false ⟨#[], #[.slice none 0 0], []⟩ 8 (by kernel_rfl) (by kernel_rfl) (by kernel_rfl) (by kernel_rfl)) ?_
  intro W base args ds gs before hval0 hW hcnd _
  have hval : ∀ (j : Nat) t v, Try.f7.params[j]? = some t → args[j]? = some v → Value.okWide Try.prog W .any base t v := hval0
  have hW' := hW
  obtain ⟨p, q, hA0, hV, rfl, hfz, hnd⟩ := hW
  have hA : DataW.TrodAll enc Try.prog W 0 (fun _ => true) true Try.f7.params.toList args.toList ds p := hA0
  rw [Try.params7] at hA hval
  obtain ⟨v0, vs0, d0, ds0, p0, q0, hargs, rfl, rfl, h0, r0⟩ := trodAll_cons hA
  obtain ⟨rfl, rfl, rfl⟩ := trodAll_nil r0
  obtain rfl : args = #[v0] := by cases args; simp_all
  obtain ⟨rfl, rfl⟩ := trodVars_none hV
  have k0 := h0
  have lt0 : ∀ x ∈ p0, x.block < W.heap.size := by obtain ⟨m, hm⟩ := k0; exact DataW.trod_lt m _ _ _ hm
  obtain ⟨a0, len0, cap0, rfl⟩ := okWide_slice Try.underlying22 (hval 0 22 v0 rfl rfl)
  have w0 : CodeOk W a0 len0 cap0 := by
    obtain ⟨fuel, hf⟩ := h0
    rcases open_ints Try.underlying22 Try.underlying5 (by kernel_rfl) hf with ⟨hcs, _⟩ | ⟨x, l, c, zs, hcs, _, hl, hm, hz, _, hcell, hwz⟩
    · simp [Value.cells] at hcs
      obtain ⟨rfl, rfl, rfl⟩ := hcs
      exact code_nil W
    · simp [Value.cells] at hcs
      obtain ⟨rfl, rfl, rfl⟩ := hcs
      exact code_ok hl hm (by simp at hz; omega) hcell hwz
  clear hA0 hval0
  refine (walk W a0 len0 cap0 w0).mono fun e W' ⟨he, bel⟩ => ?_
  subst he
  exact ⟨_, rfl, _, _, _, [], _, [], hW', trodAll_mk1 (shut_bool Try.underlying4 _), (trodAll_cons_mk (Below.trod laidOut (by kernel_rfl) (of_decide_eq_true (by kernel_rfl)) k0 bel lt0) trodAll_mk0), rfl, bel.frame _, fun h => by cases h⟩

theorem over : Rows.fnLineOkRow.holds Try.pinned (OpenSpec.ofChange Rows.fnLineOkSpec) :=
  OpenClaim.holds_of_wide 7 Try.f7 rfl rfl rfl rfl rfl rfl rfl ⟨rfl, rfl, rfl, rfl, rfl⟩ rfl rfl rfl rfl rfl (by kernel_rfl) Try.func7 (by kernel_rfl)
    (of_decide_eq_true (by kernel_rfl)) (by unfold Func.isWrapper; first | (rw [if_pos (by decide +kernel)]; kernel_rfl) | (rw [if_neg (by decide +kernel)]; exact ⟨rfl, rfl⟩))
    (fun os started H enc _ => lifted os started H enc)

/-- The statement. -/
theorem proved : Rows.FnLineOkSaid :=
  over
#print axioms proved
end Go.Proofs.Ytoklehmoeollfaa.fnLineOk
