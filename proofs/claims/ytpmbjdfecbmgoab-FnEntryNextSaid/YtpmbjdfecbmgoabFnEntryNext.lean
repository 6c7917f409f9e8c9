/- FnEntryNext: whatever the input, the law returns true, and its arguments read as they did. No conditions beyond those of the statement's row. -/
import Derived.Test.YtpmbjdfecbmgoabBz
import Derived.Test.YtpmbjdfecbmgoabLp
namespace Go.Proofs.Ytpmbjdfecbmgoab.fnEntryNext
open Go.Proofs.Ytpmbjdfecbmgoab
open Go.ChangeShapes Go.WideShapes Go.ChangeAt Go.RowKit Go.Joins
set_option linter.unusedVariables false
set_option linter.unusedSimpArgs false
set_option linter.unnecessarySimpa false

theorem own : ownKnob Try.prog.godebug = none := by kernel_rfl
theorem laidOut : laidOutB Try.prog = true := by kernel_rfl

set_option maxRecDepth 100000 in
set_option maxHeartbeats 4000000 in
theorem walk (w : World) (a0 : Option Addr) (len0 cap0 : Nat) (w0 : CodeOk w a0 len0 cap0) :
    Calls Try.prog 8 #[.slice a0 len0 cap0] w fun e w' => e = .returned (.bool true) ∧ Below w.heap.size w w' := by
  by_cases hl : 1048576 < len0
  · have w0' := w0.2.1
    unfold maxLen at w0'
    clear w0
    go_enter Try.func8, Try.ntmps8
    go_wp2
    go_ret
    exact ⟨rfl, Below.refl _ _⟩
  · have w0' := w0.2.1
    unfold maxLen at w0'
    have hle := w0.1
    have HW := Lib.hid w0
    clear w0
    go_enter Try.func8, Try.ntmps8
    go_wp2_with fail
    refine (drEntryNext_any _ _ _ _ HW.out).mono ?_; rintro e w1 ⟨xs, A, cp, mi, rfl, hx6, hs0, ⟨v0, v1⟩, hO0, hB0⟩
    obtain ⟨m, hm⟩ : ∃ m, xs.length = m := ⟨_, rfl⟩
    rw [hm] at hx6 ⊢
    have HM := Lib.hid hm
    clear hm
    have HQ := Lib.hid hs0.q
    clear hs0
    cases hv : (enB xs && inV mi 0 1439 && !xs.isEmpty)
    · have HX := Lib.hid (nxN_no hv)
      clear hv
      go_wp2_with fail
      refine (iEx_is A cp xs _ _ HM.out hO0.row HQ.out (by omega) HX.out).mono ?_; rintro e' w1 ⟨rfl, hw1⟩
      have hO1 := hO0.next hw1
      have hB1 := bel_next hB0 hw1
      go_wp2_with fail
      refine (sEx_is A cp xs _ _ HM.out hO1.row HQ.out (by omega) HX.out).mono ?_; rintro e' w2 ⟨rfl, hw2⟩
      have hO2 := hO1.next hw2
      have hB2 := bel_next hB1 hw2
      go_wp2_with fail
      refine (alive_bel _).mono ?_; rintro e' w3 ⟨rfl, hw3⟩
      have hO3 := hO2.next hw3
      have hB3 := bel_next hB2 hw3
      go_wp2
      go_ret
      exact ⟨rfl, by first | exact hB3 | exact hB3.drew⟩
    · have hok := nxN_ok hv
      simp only [Bool.and_eq_true, Bool.not_eq_true'] at hv
      obtain ⟨⟨he, hi⟩, hne⟩ := hv
      have hl0 : xs.length ≠ 0 := by intro h9; rw [List.eq_nil_of_length_eq_zero h9] at hne; simp at hne
      have hmb : 0 ≤ mi ∧ mi ≤ 1439 := by unfold inV at hi; simpa using hi
      obtain ⟨m0, m1⟩ := hmb
      have hnb := nx_bd mi xs
      obtain ⟨x9, hx9, hat⟩ := nx_some (m := mi) hl0
      obtain ⟨n, hn⟩ : ∃ n, nxF mi 1440 xs = n := ⟨_, rfl⟩
      rw [hn] at hok hnb hat
      obtain ⟨n0, n1⟩ := hnb
      have HX := Lib.hid hok
      have HT : Hid (xs.any (fun x => decide (x.1 = (mi + n) % 1440)) = true) := Lib.hid (List.any_eq_true.2 ⟨x9, hx9, decide_eq_true ((enW_iff (enR_rng _ _ (enB_iff.1 he).2 _ hx9).1 (enR_rng _ _ (enB_iff.1 he).2 _ hx9).2 m0 m1 n0 n1).2 hat)⟩)
      have HY : Hid (n ≠ 1 → nxN xs ((mi + 1) % 1440) = n - 1) := Lib.hid (fun h9 => by rw [nxN_yes hl0 he (by unfold inV; simp; omega)]; exact nx_next hl0 hn h9)
      clear hok he hi hne hl0 hx9 hat hn
      have z1 : IntKind.i64.wrap (mi + n) = mi + n := IntWalk.i64_in _ (by omega)
      have z2 : (mi + n).tmod 1440 = (mi + n) % 1440 := Int.tmod_eq_emod_of_nonneg (by omega)
      have z3 : IntKind.i64.wrap ((mi + n) % 1440) = (mi + n) % 1440 := IntWalk.i64_in _ (by omega)
      have z4 : IntKind.i64.wrap (mi + 1) = mi + 1 := IntWalk.i64_in _ (by omega)
      have z5 : (mi + 1).tmod 1440 = (mi + 1) % 1440 := Int.tmod_eq_emod_of_nonneg (by omega)
      have z6 : IntKind.i64.wrap ((mi + 1) % 1440) = (mi + 1) % 1440 := IntWalk.i64_in _ (by omega)
      have z7 : IntKind.i64.wrap (n - 1) = n - 1 := IntWalk.i64_in _ (by omega)
      have hnn : ¬ n < 0 := by omega
      go_wp2_with fail
      refine (iEx_is A cp xs _ _ HM.out hO0.row HQ.out (by omega) HX.out).mono ?_; rintro e' w1 ⟨rfl, hw1⟩
      have hO1 := hO0.next hw1
      have hB1 := bel_next hB0 hw1
      go_wp2_with fail
      refine (sEx_is A cp xs _ _ HM.out hO1.row HQ.out (by omega) HX.out).mono ?_; rintro e' w2 ⟨rfl, hw2⟩
      have hO2 := hO1.next hw2
      have hB2 := bel_next hB1 hw2
      go_wp2_with fail
      go_loopw [6, 7] (fun bv iv wr => ∃ (k : Nat) (b : Bool), iv = .int .i64 k ∧ k ≤ m ∧ bv = .bool b ∧ Hid ((xs.take k).any (fun x => decide (x.1 = (mi + n) % 1440)) = b) ∧ SOwn encEntry wr w.heap.size 40 A cp xs ∧ Below w.heap.size w wr) (fun _ iv _ => (m - intOf iv).toNat)
      case atStart => exact ⟨0, false, rfl, by omega, rfl, (by show _ = _; rfl), hO2, hB2⟩
      case round =>
        clear hO2 hB2
        obtain ⟨k, b, rfl, k1, rfl, HA, hO, hB⟩ := hrel
        by_cases hlt : k < m
        · have hk : k < xs.length := by rw [HM.out]; exact hlt
          have hki : (k : Int) < (m : Int) := by omega
          have hs1 := any_step (p := fun x : Int × ByteArray => decide (x.1 = (mi + n) % 1440)) hk
          rw [HA.out] at hs1
          cases b
          · obtain ⟨b9, off, rfl, hb, c0, c1⟩ := rowEntry hO.row hk
            generalize xs[k].1 = mt at c0 hs1
            generalize xs[k].2 = tx at c1
            by_cases hm : mt = (mi + n) % 1440
            · have hb2 : (mt == (mi + n) % 1440) = true := by rw [beq_iff_eq]; exact hm
              rw [decide_eq_true hm] at hs1
              have H1 := Lib.hid hs1
              clear hs1 hm
              go_wp2_with fail
              go_roundw
              case rel => exact ⟨k + 1, true, by go_num, by omega, rfl, H1, hO, hB⟩
              case measure => simp [intOf]; omega
            · have hb2 : (mt == (mi + n) % 1440) = false := by rw [beq_eq_false_iff_ne]; exact hm
              rw [decide_eq_false hm] at hs1
              have H1 := Lib.hid hs1
              clear hs1 hm
              go_wp2_with fail
              go_roundw
              case rel => exact ⟨k + 1, false, by go_num, by omega, rfl, H1, hO, hB⟩
              case measure => simp [intOf]; omega
          · rw [Bool.true_or] at hs1
            have H1 := Lib.hid hs1
            clear hs1
            go_wp2_with fail
            go_roundw
            case rel => exact ⟨k + 1, true, by go_num, by omega, rfl, H1, hO, hB⟩
            case measure => simp [intOf]; omega
        · have hki : ¬ (k : Int) < (m : Int) := by omega
          have hbt : b = true := by rw [← HA.out, List.take_of_length_le (by rw [HM.out]; omega)]; exact HT.out
          subst hbt
          have hge : n ≥ 1 := n0
          by_cases h1 : n = 1
          · have e1 : (n == 1) = true := by rw [beq_iff_eq]; exact h1
            have hu : undef = Value.tuple #[] := rfl
            clear h1
            go_wp2
            go_ret
            exact ⟨rfl, hB⟩
          · have e1 : (n == 1) = false := by rw [beq_eq_false_iff_ne]; exact h1
            have HY2 := Lib.hid (HY.out h1)
            clear h1
            go_wp2_with fail
            refine (iEx_is A cp xs _ _ HM.out hO.row HQ.out (by omega) HY2.out).mono ?_; rintro e' w' ⟨rfl, hw9⟩
            go_wp2
            go_ret
            exact ⟨rfl, bel_next hB hw9⟩

set_option maxRecDepth 100000 in
theorem lifted (os : Os) (started : os.Started) (H : Type) (enc : TypeId × Value → H) :
    ReturnsInHanded {} Try.checked os 8 .any (Rows.fnEntryNextSpec.pre6 enc Try.prog Try.f8 Rows.fnEntryNextRow.domain false) (Rows.fnEntryNextSpec.post enc Try.prog Try.f8 false true false false) := by
  refine returnsInHanded_of_change (C := Try.checked) own started (by kernel_rfl) Try.func8
    (ChangeSpec.witness6 (enc := enc) (C := Try.checked) false ⟨#[], #[.slice none 0 0], []⟩ 8 (by kernel_rfl) (by kernel_rfl) (by kernel_rfl) (by kernel_rfl)) ?_
  intro W base args ds gs before hval0 hW hcnd _
  have hval : ∀ (j : Nat) t v, Try.f8.params[j]? = some t → args[j]? = some v → Value.okWide Try.prog W .any base t v := hval0
  have hW' := hW
  obtain ⟨p, q, hA0, hV, rfl, hfz, hnd⟩ := hW
  have hA : DataW.TrodAll enc Try.prog W 0 (fun _ => true) true Try.f8.params.toList args.toList ds p := hA0
  rw [Try.params8] at hA hval
  obtain ⟨v0, vs0, d0, ds0, p0, q0, hargs, rfl, rfl, h0, r0⟩ := trodAll_cons hA
  obtain ⟨rfl, rfl, rfl⟩ := trodAll_nil r0
  obtain rfl : args = #[v0] := by cases args; simp_all
  obtain ⟨rfl, rfl⟩ := trodVars_none hV
  have k0 := h0
  have lt0 : ∀ x ∈ p0, x.block < W.heap.size := by obtain ⟨m, hm⟩ := k0; exact DataW.trod_lt m _ _ _ hm
  obtain ⟨a0, len0, cap0, rfl⟩ := okWide_slice Try.underlying22 (hval 0 22 v0 rfl rfl)
  have w0 : CodeOk W a0 len0 cap0 := by
    obtain ⟨fuel, hf⟩ := h0
    rcases open_ints Try.underlying22 Try.underlying5 (by kernel_rfl) hf with ⟨hcs, _⟩ | ⟨x, l, c, zs, hcs, _, hl, hm, hz, _, hcell, hwz⟩
    · simp [Value.cells] at hcs
      obtain ⟨rfl, rfl, rfl⟩ := hcs
      exact code_nil W
    · simp [Value.cells] at hcs
      obtain ⟨rfl, rfl, rfl⟩ := hcs
      exact code_ok hl hm (by simp at hz; omega) hcell hwz
  clear hA0 hval0
  refine (walk W a0 len0 cap0 w0).mono fun e W' ⟨he, bel⟩ => ?_
  subst he
  exact ⟨_, rfl, _, _, _, [], _, [], hW', trodAll_mk1 (shut_bool Try.underlying4 _), (trodAll_cons_mk (Below.trod laidOut (by kernel_rfl) (of_decide_eq_true (by kernel_rfl)) k0 bel lt0) trodAll_mk0), rfl, bel.frame _, fun h => by cases h⟩

theorem over : Rows.fnEntryNextRow.holds Try.pinned (OpenSpec.ofChange Rows.fnEntryNextSpec) :=
  OpenClaim.holds_of_wide 8 Try.f8 rfl rfl rfl rfl rfl rfl rfl ⟨rfl, rfl, rfl, rfl, rfl⟩ rfl rfl rfl rfl rfl (by kernel_rfl) Try.func8 (by kernel_rfl)
    (of_decide_eq_true (by kernel_rfl)) (by unfold Func.isWrapper; first | (rw [if_pos (by decide +kernel)]; kernel_rfl) | (rw [if_neg (by decide +kernel)]; exact ⟨rfl, rfl⟩))
    (fun os started H enc _ => lifted os started H enc)

/-- The statement. -/
theorem proved : Rows.FnEntryNextSaid :=
  over
#print axioms proved
end Go.Proofs.Ytpmbjdfecbmgoab.fnEntryNext
