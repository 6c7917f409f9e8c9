/- FnRowMost: whatever the input, the law returns true, and its arguments read as they did. No conditions beyond those of the statement's row. -/
import Derived.Test.YtfgaggdiepielaaZw
import Derived.Test.YtfgaggdiepielaaZt
import Derived.Test.YtfgaggdiepielaaKw
import Derived.Test.YtfgaggdiepielaaZq
import Derived.Test.YtfgaggdiepielaaZ1
import Derived.Test.YtfgaggdiepielaaLp
namespace Go.Proofs.Ytfgaggdiepielaa.fnRowMost
open Go.Proofs.Ytfgaggdiepielaa
open Go.ChangeShapes Go.WideShapes Go.ChangeAt Go.RowKit Go.Joins
set_option linter.unusedVariables false
set_option linter.unusedSimpArgs false
set_option linter.unnecessarySimpa false

theorem own : ownKnob Try.prog.godebug = none := by kernel_rfl
theorem laidOut : laidOutB Try.prog = true := by kernel_rfl

set_option maxRecDepth 100000 in
set_option maxHeartbeats 4000000 in
theorem walk (w : World) (a0 : Option Addr) (len0 cap0 : Nat) (w0 : CodeOk w a0 len0 cap0) :
    Calls Try.prog 9 #[.slice a0 len0 cap0] w fun e w' => e = .returned (.bool true) ∧ Below w.heap.size w w' := by
  by_cases hl : 1048576 < len0
  · have w0' := w0.2.1
    unfold maxLen at w0'
    clear w0
    go_enter Try.func9, Try.ntmps9
    go_wp2
    go_ret
    exact ⟨rfl, Below.refl _ _⟩
  · have w0' := w0.2.1
    unfold maxLen at w0'
    have hle := w0.1
    have HW := Lib.hid w0
    clear w0
    go_enter Try.func9, Try.ntmps9
    obtain ⟨i0, hi0, hz0, hz1, hz2⟩ := info_parts infoNum
    have HI := Lib.hid (And.intro hi0 (And.intro hz0 (And.intro hz1 hz2)))
    clear hi0 hz0 hz1 hz2
    go_wp2_with fail
    refine (drRowMost_any _ _ _ _ HW.out).mono ?_; rintro e w1 ⟨xs, A, cp, rfl, hx6, hO1, hB1⟩
    obtain ⟨m, hm⟩ : ∃ m, xs.length = m := ⟨_, rfl⟩
    rw [hm] at hx6 ⊢
    have HM := Lib.hid hm
    clear hm
    cases hv : rwB xs
    · have HV : Hid (rmI xs = -1) := Lib.hid (rmI_no hv)
      clear hv
      go_wp2_with fail
      refine (iRm_is A cp xs _ HM.out hO1.row (by omega) HV.out).mono ?_; rintro e w2 ⟨rfl, hw2⟩
      have hO2 := hO1.next hw2
      have hB2 := bel_next hB1 hw2
      go_wp2_with fail
      refine (sRm_is A cp xs _ HM.out hO2.row (by omega) HV.out).mono ?_; rintro e w3 ⟨rfl, hw3⟩
      have hO3 := hO2.next hw3
      have hB3 := bel_next hB2 hw3
      go_wp2_with fail
      refine (alive_any _).mono ?_; rintro e w' ⟨rfl, rfl⟩
      go_wp2
      go_ret
      exact ⟨rfl, hB3⟩
    · have h0 := bk_nn xs
      have h1 := bk_drop_bd7 hv
      have hm10 : m ≤ 10 := by have := (rwB_iff.1 hv).1; rw [HM.out] at this; exact this
      have HV : Hid (rmI xs = bk xs) := Lib.hid (rmI_yes hv)
      have HR : Hid (rmI xs.reverse = bk xs) := Lib.hid (by rw [rmI_rev]; exact rmI_yes hv)
      have HT : Hid (rmI (xs.drop 1) = bk (xs.drop 1)) := Lib.hid (rmI_yes (rw_drop7 hv))
      have hd1 := bk_drop7 xs
      have hhf := bk_half xs
      have HZ : Hid (m = 0 → bk xs = 0) := Lib.hid (fun h0 => by have : xs = [] := List.length_eq_zero_iff.1 (by rw [HM.out, h0]); rw [this]; exact bk_nil)
      have HH := Lib.hid hv
      have hsb := sum_bd7 xs (rwB_iff.1 hv).2
      rw [HM.out] at hsb
      obtain ⟨sb0, sb1⟩ := hsb
      have HSUM : Hid (xs.sum = xs.sum) := Lib.hid rfl
      obtain ⟨sm, hsm⟩ : ∃ s, xs.sum = s := ⟨_, rfl⟩
      rw [hsm] at hhf sb0 sb1
      have HSM := Lib.hid hsm
      clear hsm HSUM hv
      generalize bk (xs.drop 1) = u at HT hd1
      generalize bk xs = v at h0 h1 HV HR HZ hd1 hhf
      have hvn : ¬ v < 0 := by omega
      go_wp2_with fail
      refine (iRm_is A cp xs _ HM.out hO1.row (by omega) HV.out).mono ?_; rintro e w2 ⟨rfl, hw2⟩
      have hO2 := hO1.next hw2
      have hB2 := bel_next hB1 hw2
      go_wp2_with fail
      refine (sRm_is A cp xs _ HM.out hO2.row (by omega) HV.out).mono ?_; rintro e w3 ⟨rfl, hw3⟩
      have hO3 := hO2.next hw3
      have hB3 := bel_next hB2 hw3
      go_wp2_with fail
      have hAlt : ∀ g, A = some ⟨g, 0, none⟩ → g < w3.heap.size := fun g hg => by rcases hO3.form with ⟨e, _⟩ | ⟨g1, e, _, h⟩; rw [e] at hg; cases hg; rw [e] at hg; cases hg; exact h
      have HAL := Lib.hid hAlt
      have hz3 := hB3.size
      clear hAlt
      go_loopw [5, 6] (fun bv i wr => ∃ (k q cv : Nat) (V : Option Addr), i = .int .i64 ((k : Int) - 1) ∧ k ≤ m ∧ q + k = m ∧ bv = .slice V q cv ∧ w3.heap.size ≤ wr.heap.size ∧ SOwn encNum wr w3.heap.size 3 V cv (xs.drop k).reverse ∧ SOwn encNum wr w.heap.size 3 A cp xs ∧ Below w.heap.size w wr) (fun _ i _ => (intOf i + 1).toNat)
      case atStart => exact ⟨m, 0, 0, _, rfl, by omega, by omega, rfl, by simp, (by have e9 : xs.drop m = [] := List.drop_eq_nil_of_le (by rw [HM.out]; omega); rw [e9]; exact SOwn.empty (blk_new w3 _) (Nat.le_refl _)), (hO3.mono (by omega)).alloc _, hB3.alloc hB3.size _⟩
      case round =>
        clear hO3
        obtain ⟨k, q, cv, V, rfl, k1, qk, rfl, hzr, hV, hO, hB⟩ := hrel
        by_cases hlt : 0 < k
        · obtain ⟨j, hj⟩ : ∃ j, k = j + 1 := ⟨k - 1, by omega⟩
          have hk : j < xs.length := by rw [HM.out]; omega
          have hki : (k : Int) - 1 = (j : Int) := by omega
          have hji : (j : Int) < (m : Int) := by omega
          rw [hki]
          have HVL : Hid ((xs.drop k).reverse.length = q) := Lib.hid (by rw [List.length_reverse, List.length_drop, HM.out]; omega)
          have hst := rev_step7 hk
          rw [← hj] at hst
          have HST := Lib.hid hst
          obtain ⟨b, rfl, hbb, hb⟩ := hO.at_ hk
          have c0 := ownNum hO hk
          have hbA := HAL.out b rfl
          have hqj : q + 1 + j = m := by omega
          have hjm : j ≤ m := by omega
          have hj0 : (0 : Int) ≤ (j : Int) := by omega
          have hq11 : q ≤ 11 := by omega
          clear hst hki hj k1 qk hlt
          generalize xs[j] = x at c0 HST
          have hcp := hB.size
          have hOa := hV.alloc (.cells (encNum.enc x).toArray 3)
          go_wp2_with (at_builtin; refine wpList_append_lies _ rfl (.tmp 33) (.tmp 38) _ rfl w3.heap.size 3 i0 _ 1 8 Try.underlying38 HI.out.1 HI.out.2.1 HI.out.2.2.1 HI.out.2.2.2 rfl (by omega) (.slice V q cv) q (encNum.flat (xs.drop k).reverse) rfl (by unfold SOwn at hOa; rw [HVL.out] at hOa; exact hOa) ⟨wr.heap.size, 0, none⟩ 1 1 (encNum.enc x) rfl rfl (new_enc (E := encNum) wr x _) (encNum.one _) (by omega) (by simp only [maxLen]; omega) (by omega) (by simp; omega) _ rfl ?_; intro g5 cap5 w5 hown5 hgr5 hat5 hlt5)
          have hB5 := SOwn.below_grown (n := q) (hOa.mono hz3) (hB.alloc hB.size _) hgr5
          have hsn := SOwn.snoc (E := encNum) (xs := (xs.drop k).reverse) (x := x) (by rw [HVL.out]; exact hown5)
          rw [← HST.out] at hsn
          have hO5 : SOwn encNum w5 w.heap.size 3 (some ⟨b, 0, none⟩) cp xs := (hO.alloc (.cells (encNum.enc x).toArray 3)).grown_far hgr5 (fun g hg e9 => by rcases hV.form with ⟨e2, _⟩ | ⟨g1, e2, h2, _⟩; rw [e2] at e9; simp [Value.ownBlock] at e9; rw [e2] at e9; simp [Value.ownBlock] at e9; cases hg; omega)
          have hz5 : w3.heap.size ≤ w5.heap.size := by have := hgr5.size; simp at this; omega
          go_wp2_with fail
          go_roundw
          case rel => exact ⟨j, q + 1, cap5, some ⟨g5, 0, none⟩, by go_num, hjm, hqj, rfl, hz5, hsn, hO5, hB5⟩
          case measure => simp [intOf] <;> omega
        · obtain rfl : k = 0 := by omega
          obtain rfl : q = m := by omega
          rw [List.drop_zero] at hV
          have HVL : Hid (xs.reverse.length = q) := Lib.hid (by rw [List.length_reverse, HM.out])
          have hmw : IntKind.i64.wrap (2 * v) = 2 * v := IntWalk.i64_in _ (by omega)
          clear qk k1 hlt
          by_cases hm0 : q = 0
          · have hv0 := HZ.out hm0
            have HM0 := Lib.hid hm0
            have HV0 := Lib.hid hv0
            clear hm0 hv0
            go_wp2_with fail
            refine (sumOf_is A cp xs _ HM.out hO.row HH.out).mono ?_; rintro e w6 ⟨rfl, hw6⟩
            have hB6 := bel_next hB hw6
            have hO6 := hO.next hw6
            have hV6 := hV.next hw6
            rw [HSM.out]
            go_wp2_with fail
            refine (iRm_is V cv xs.reverse _ HVL.out hV6.row (by omega) HR.out).mono ?_; rintro e w7 ⟨rfl, hw7⟩
            have hB7 := bel_next hB6 hw7
            have hO7 := hO6.next hw7
            have hm0 := HM0.out
            have hv0 := HV0.out
            subst hv0
            subst hm0
            go_wp2
            go_ret
            exact ⟨rfl, hB7⟩
          · have HDL : Hid ((xs.drop 1).length = q - 1) := Lib.hid (by rw [List.length_drop, HM.out])
            have z0 : ((q : Int) == 0) = false := by rw [beq_eq_false_iff_ne]; omega
            have hm1 : 1 ≤ q := by omega
            have hmi : (1 : Int) ≤ (q : Int) := by omega
            have hmp : (0 : Int) < (q : Int) := by omega
            clear hm0
            go_wp2_with fail
            refine (sumOf_is A cp xs _ HM.out hO.row HH.out).mono ?_; rintro e w6 ⟨rfl, hw6⟩
            have hB6 := bel_next hB hw6
            have hO6 := hO.next hw6
            have hV6 := hV.next hw6
            rw [HSM.out]
            go_wp2_with fail
            refine (iRm_is V cv xs.reverse _ HVL.out hV6.row (by omega) HR.out).mono ?_; rintro e w7 ⟨rfl, hw7⟩
            have hB7 := bel_next hB6 hw7
            have hO7 := hO6.next hw7
            obtain ⟨g, rfl, _, _⟩ := hO7.at_ (i := 0) (by rw [HM.out]; omega)
            obtain ⟨hcp, _⟩ := hO7.cap
            rw [HM.out] at hcp
            by_cases hc : cp = 1
            · obtain rfl : q = 1 := by omega
              subst hc
              have HNI : Hid (xs.drop 1 = []) := Lib.hid (List.length_eq_zero_iff.1 (by rw [HDL.out]))
              go_wp2_with fail
              refine (iRm_is _ _ (xs.drop 1) _ HDL.out (.inl HNI.out) (by omega) HT.out).mono ?_; rintro e w8 ⟨rfl, hw8⟩
              have hB8 := bel_next hB7 hw8
              go_wp2
              go_ret
              exact ⟨rfl, hB8⟩
            · go_wp2_with fail
              refine (iRm_is _ _ (xs.drop 1) _ HDL.out (SOwn.tailW hO7) (by omega) HT.out).mono ?_; rintro e w8 ⟨rfl, hw8⟩
              have hB8 := bel_next hB7 hw8
              go_wp2
              go_ret
              exact ⟨rfl, hB8⟩

set_option maxRecDepth 100000 in
theorem lifted (os : Os) (started : os.Started) (H : Type) (enc : TypeId × Value → H) :
    ReturnsInHanded {} Try.checked os 9 .any (Rows.fnRowMostSpec.pre6 enc Try.prog Try.f9 Rows.fnRowMostRow.domain false) (Rows.fnRowMostSpec.post enc Try.prog Try.f9 false true false false) := by
  refine returnsInHanded_of_change (C := Try.checked) own started (by kernel_rfl) Try.func9
    (ChangeSpec.witness6 (enc := enc) (C := Try.checked) false ⟨#[], #[.slice none 0 0], []⟩ 8 (by kernel_rfl) (by kernel_rfl) (by kernel_rfl) (by kernel_rfl)) ?_
  intro W base args ds gs before hval0 hW hcnd _
  have hval : ∀ (j : Nat) t v, Try.f9.params[j]? = some t → args[j]? = some v → Value.okWide Try.prog W .any base t v := hval0
  have hW' := hW
  obtain ⟨p, q, hA0, hV, rfl, hfz, hnd⟩ := hW
  have hA : DataW.TrodAll enc Try.prog W 0 (fun _ => true) true Try.f9.params.toList args.toList ds p := hA0
  rw [Try.params9] at hA hval
  obtain ⟨v0, vs0, d0, ds0, p0, q0, hargs, rfl, rfl, h0, r0⟩ := trodAll_cons hA
  obtain ⟨rfl, rfl, rfl⟩ := trodAll_nil r0
  obtain rfl : args = #[v0] := by cases args; simp_all
  obtain ⟨rfl, rfl⟩ := trodVars_none hV
  have k0 := h0
  have lt0 : ∀ x ∈ p0, x.block < W.heap.size := by obtain ⟨m, hm⟩ := k0; exact DataW.trod_lt m _ _ _ hm
  obtain ⟨a0, len0, cap0, rfl⟩ := okWide_slice Try.underlying22 (hval 0 22 v0 rfl rfl)
  have w0 : CodeOk W a0 len0 cap0 := by
    obtain ⟨fuel, hf⟩ := h0
    rcases open_ints Try.underlying22 Try.underlying5 (by kernel_rfl) hf with ⟨hcs, _⟩ | ⟨x, l, c, zs, hcs, _, hl, hm, hz, _, hcell, hwz⟩
    · simp [Value.cells] at hcs
      obtain ⟨rfl, rfl, rfl⟩ := hcs
      exact code_nil W
    · simp [Value.cells] at hcs
      obtain ⟨rfl, rfl, rfl⟩ := hcs
      exact code_ok hl hm (by simp at hz; omega) hcell hwz
  clear hA0 hval0
  refine (walk W a0 len0 cap0 w0).mono fun e W' ⟨he, bel⟩ => ?_
  subst he
  exact ⟨_, rfl, _, _, _, [], _, [], hW', trodAll_mk1 (shut_bool Try.underlying4 _), (trodAll_cons_mk (Below.trod laidOut (by kernel_rfl) (of_decide_eq_true (by kernel_rfl)) k0 bel lt0) trodAll_mk0), rfl, bel.frame _, fun h => by cases h⟩

theorem over : Rows.fnRowMostRow.holds Try.pinned (OpenSpec.ofChange Rows.fnRowMostSpec) :=
  OpenClaim.holds_of_wide 9 Try.f9 rfl rfl rfl rfl rfl rfl rfl ⟨rfl, rfl, rfl, rfl, rfl⟩ rfl rfl rfl rfl rfl (by kernel_rfl) Try.func9 (by kernel_rfl)
    (of_decide_eq_true (by kernel_rfl)) (by unfold Func.isWrapper; first | (rw [if_pos (by decide +kernel)]; kernel_rfl) | (rw [if_neg (by decide +kernel)]; exact ⟨rfl, rfl⟩))
    (fun os started H enc _ => lifted os started H enc)

/-- The statement. -/
theorem proved : Rows.FnRowMostSaid :=
  over
#print axioms proved
end Go.Proofs.Ytfgaggdiepielaa.fnRowMost
