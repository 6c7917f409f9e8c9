/- FnEntriesValid: whatever the input, the law returns true, and its arguments read as they did. No conditions beyond those of the statement's row. -/
import Derived.Test.YtpmbjdfecbmgoabBB
import Derived.Test.YtpmbjdfecbmgoabKw
import Derived.Test.YtpmbjdfecbmgoabLp
namespace Go.Proofs.Ytpmbjdfecbmgoab.fnEntriesValid
open Go.Proofs.Ytpmbjdfecbmgoab
open Go.ChangeShapes Go.WideShapes Go.ChangeAt Go.RowKit Go.Joins
set_option linter.unusedVariables false
set_option linter.unusedSimpArgs false
set_option linter.unnecessarySimpa false

theorem own : ownKnob Try.prog.godebug = none := by kernel_rfl
theorem laidOut : laidOutB Try.prog = true := by kernel_rfl

set_option maxRecDepth 100000 in
set_option maxHeartbeats 4000000 in
theorem walk (w : World) (a0 : Option Addr) (len0 cap0 : Nat) (w0 : CodeOk w a0 len0 cap0) :
    Calls Try.prog 6 #[.slice a0 len0 cap0] w fun e w' => e = .returned (.bool true) ∧ Below w.heap.size w w' := by
  by_cases hl : 1048576 < len0
  · have w0' := w0.2.1
    unfold maxLen at w0'
    clear w0
    go_enter Try.func6, Try.ntmps6
    go_wp2
    go_ret
    exact ⟨rfl, Below.refl _ _⟩
  · have w0' := w0.2.1
    unfold maxLen at w0'
    have hle := w0.1
    have HW := Lib.hid w0
    clear w0
    go_enter Try.func6, Try.ntmps6
    obtain ⟨i0, hi0, hz0, hz1, hz2⟩ := info_parts infoEntry
    have HI := Lib.hid (And.intro hi0 (And.intro hz0 (And.intro hz1 hz2)))
    clear hi0 hz0 hz1 hz2
    go_wp2_with fail
    refine (drEntriesValid_any _ _ _ _ HW.out).mono ?_; rintro e w1 ⟨xs, A, cp, rfl, hx6, hs0, hO0, hB0⟩
    obtain ⟨m, hm⟩ : ∃ m, xs.length = m := ⟨_, rfl⟩
    rw [hm] at hx6 ⊢
    have HM := Lib.hid hm
    clear hm
    have HQ := Lib.hid hs0.q
    clear hs0
    have hO1 := hO0
    have hB1 := hB0
    clear hO0 hB0
    obtain ⟨hcp, _⟩ := hO1.cap
    rw [HM.out] at hcp
    cases hv : enB xs
    · have HV := Lib.hid hv
      clear hv
      go_wp2_with fail
      refine (iEn_is A cp xs _ HM.out hO1.row HQ.out (by omega) HV.out).mono ?_; rintro e w2 ⟨rfl, hw2⟩
      have hO2 := hO1.next hw2
      have hB2 := bel_next hB1 hw2
      go_wp2_with fail
      refine (sEn_is A cp xs _ HM.out hO2.row HQ.out (by omega) HV.out).mono ?_; rintro e w3 ⟨rfl, hw3⟩
      have hO3 := hO2.next hw3
      have hB3 := bel_next hB2 hw3
      go_wp2_with fail
      refine (iEn_is (n := 0) none 0 [] _ rfl (.inl rfl) (by simp) (by omega) rfl).mono ?_; rintro e w4 ⟨rfl, hw4⟩
      have hB4 := bel_next hB3 hw4
      go_wp2_with fail
      refine (alive_any _).mono ?_; rintro e' w' ⟨rfl, rfl⟩
      go_wp2
      go_ret
      exact ⟨rfl, hB4⟩
    · by_cases hm0 : m = 0
      · have z0 : ((m : Int) == 0) = true := by rw [beq_iff_eq]; omega
        clear hm0
        have HV := Lib.hid hv
        clear hv
        go_wp2_with fail
        refine (iEn_is A cp xs _ HM.out hO1.row HQ.out (by omega) HV.out).mono ?_; rintro e w2 ⟨rfl, hw2⟩
        have hO2 := hO1.next hw2
        have hB2 := bel_next hB1 hw2
        go_wp2_with fail
        refine (sEn_is A cp xs _ HM.out hO2.row HQ.out (by omega) HV.out).mono ?_; rintro e w3 ⟨rfl, hw3⟩
        have hO3 := hO2.next hw3
        have hB3 := bel_next hB2 hw3
        go_wp2_with fail
        refine (iEn_is (n := 0) none 0 [] _ rfl (.inl rfl) (by simp) (by omega) rfl).mono ?_; rintro e w4 ⟨rfl, hw4⟩
        have hB4 := bel_next hB3 hw4
        go_wp2_with fail
        refine (alive_any _).mono ?_; rintro e' w' ⟨rfl, rfl⟩
        go_wp2
        go_ret
        exact ⟨rfl, hB4⟩
      · have z0 : ((m : Int) == 0) = false := by rw [beq_eq_false_iff_ne]; omega
        have hm1 : 1 ≤ m := by omega
        have hmi : (1 : Int) ≤ (m : Int) := by omega
        have hmp : (0 : Int) < (m : Int) := by omega
        have hl0 : 0 < xs.length := by rw [HM.out]; omega
        have HT := Lib.hid (enB_tail hv)
        have HDL : Hid ((xs.drop 1).length = m - 1) := by show _ = _; rw [List.length_drop, HM.out]
        have HQD : Hid (∀ v ∈ xs.drop 1, v.2.size ≤ maxLen) := Lib.hid (fun v h9 => HQ.out v (List.mem_of_mem_drop h9))
        have hf := enB_dup hl0
        have hq2 := enQ_dup HQ.out hl0
        have he : xs[0] = (xs[0].1, xs[0].2) := rfl
        rw [he] at hf hq2
        clear he
        have HFN : Hid (([(xs[0].1, xs[0].2)] ++ xs).length = 1 + m) := Lib.hid (by rw [List.length_append, HM.out]; rfl)
        rcases hO1.form with ⟨rfl, hx0, rfl⟩ | ⟨g, rfl, _, _⟩
        · rw [hx0] at hl0
          simp at hl0
        · clear hm0
          by_cases hc : cp = 1
          · subst hc
            obtain rfl : m = 1 := by omega
            have HNI : Hid (xs.drop 1 = []) := by show _ = _; exact List.length_eq_zero_iff.1 (by rw [HDL.out])
            have HV := Lib.hid hv
            clear hv
            go_wp2_with fail
            refine (iEn_is (some ⟨g, 0, none⟩) 1 xs _ HM.out hO1.row HQ.out (by omega) HV.out).mono ?_; rintro e w2 ⟨rfl, hw2⟩
            have hO2 := hO1.next hw2
            have hB2 := bel_next hB1 hw2
            go_wp2_with fail
            refine (sEn_is (some ⟨g, 0, none⟩) 1 xs _ HM.out hO2.row HQ.out (by omega) HV.out).mono ?_; rintro e w3 ⟨rfl, hw3⟩
            have hO3 := hO2.next hw3
            have hB3 := bel_next hB2 hw3
            go_wp2_with fail
            refine (iEn_is (some ⟨g, 0, none⟩) 0 (xs.drop 1) _ HDL.out (.inl HNI.out) HQD.out (by omega) HT.out).mono ?_; rintro e w4 ⟨rfl, hw4⟩
            have hO4 := hO3.next hw4
            have hB4 := bel_next hB3 hw4
            obtain ⟨_, _, e, _, c0, c1⟩ := rowEntry hO4.row hl0
            simp only [Option.some.injEq, Addr.mk.injEq, and_true] at e
            obtain ⟨rfl, rfl⟩ := e
            generalize xs[0].1 = mt at c0 hf hq2 HFN
            generalize xs[0].2 = tx at c1 hf hq2 HFN
            simp only [Nat.zero_mul, Nat.zero_add] at c0 c1
            have HF := Lib.hid hf
            have HQ2 := Lib.hid hq2
            clear hf hq2 hl0
            have hzr := hB4.size
            have hOd := hO4.alloc (.cells (encEntry.enc (mt, tx)).toArray 40)
            have hL : SOwn encEntry (w4.alloc (.cells (encEntry.enc (mt, tx)).toArray 40)) w.heap.size 40 (some ⟨w4.heap.size, 0, none⟩) 1 [(mt, tx)] := SOwn.of_blk (E := encEntry) (xs := [(mt, tx)]) (blk_new w4 (.cells (encEntry.enc (mt, tx)).toArray 40)) hzr rfl (by unfold maxLen; omega)
            have hBL := hB4.alloc hzr (.cells (encEntry.enc (mt, tx)).toArray 40)
            go_wp2_with (at_builtin; refine append_own_gK _ (by kernel_rfl) (.tmp 34) (.tmp 35) _ rfl w.heap.size 40 i0 _ 2 24 Try.underlying36 HI.out.1 HI.out.2.1 HI.out.2.2.1 HI.out.2.2.2 rfl (by omega) (.slice (some ⟨w4.heap.size, 0, none⟩) 1 1) 1 (encEntry.flat [(mt, tx)]) rfl hL ⟨g, 0, none⟩ 1 1 (encEntry.flat xs) rfl (by rw [encEntry.flat_len, HM.out]; rfl) (SRow.newsW hOd.row) (encEntry.flat_one _) (by simp only [maxLen]; omega) (by omega) (by simp; omega) ?_; intro v9 w9 hown9 hgr9 hnil9)
            obtain ⟨A9, cap9, rfl⟩ := own_valK hown9
            have hMo : SOwn encEntry w9 w.heap.size 40 A9 cap9 ([(mt, tx)] ++ xs) := SOwn.of_raw (E := encEntry) hown9 (encEntry.flat_app _ _) HFN.out
            have hB9 := hL.below_grown (n := 1) hBL hgr9
            go_wp2_with fail
            refine (iEn_is A9 cap9 ([(mt, tx)] ++ xs) _ HFN.out hMo.row HQ2.out (by omega) HF.out).mono ?_; rintro e wf ⟨rfl, hwf⟩
            have hBf := bel_next hB9 hwf
            go_wp2
            go_ret
            exact ⟨rfl, hBf⟩
          · have HV := Lib.hid hv
            clear hv
            go_wp2_with fail
            refine (iEn_is (some ⟨g, 0, none⟩) cp xs _ HM.out hO1.row HQ.out (by omega) HV.out).mono ?_; rintro e w2 ⟨rfl, hw2⟩
            have hO2 := hO1.next hw2
            have hB2 := bel_next hB1 hw2
            go_wp2_with fail
            refine (sEn_is (some ⟨g, 0, none⟩) cp xs _ HM.out hO2.row HQ.out (by omega) HV.out).mono ?_; rintro e w3 ⟨rfl, hw3⟩
            have hO3 := hO2.next hw3
            have hB3 := bel_next hB2 hw3
            go_wp2_with fail
            refine (iEn_is (some ⟨g, 2, none⟩) (cp - 1) (xs.drop 1) _ HDL.out (SOwn.tailW hO3) HQD.out (by omega) HT.out).mono ?_; rintro e w4 ⟨rfl, hw4⟩
            have hO4 := hO3.next hw4
            have hB4 := bel_next hB3 hw4
            obtain ⟨_, _, e, _, c0, c1⟩ := rowEntry hO4.row hl0
            simp only [Option.some.injEq, Addr.mk.injEq, and_true] at e
            obtain ⟨rfl, rfl⟩ := e
            generalize xs[0].1 = mt at c0 hf hq2 HFN
            generalize xs[0].2 = tx at c1 hf hq2 HFN
            simp only [Nat.zero_mul, Nat.zero_add] at c0 c1
            have HF := Lib.hid hf
            have HQ2 := Lib.hid hq2
            clear hf hq2 hl0
            have hzr := hB4.size
            have hOd := hO4.alloc (.cells (encEntry.enc (mt, tx)).toArray 40)
            have hL : SOwn encEntry (w4.alloc (.cells (encEntry.enc (mt, tx)).toArray 40)) w.heap.size 40 (some ⟨w4.heap.size, 0, none⟩) 1 [(mt, tx)] := SOwn.of_blk (E := encEntry) (xs := [(mt, tx)]) (blk_new w4 (.cells (encEntry.enc (mt, tx)).toArray 40)) hzr rfl (by unfold maxLen; omega)
            have hBL := hB4.alloc hzr (.cells (encEntry.enc (mt, tx)).toArray 40)
            go_wp2_with (at_builtin; refine append_own_gK _ (by kernel_rfl) (.tmp 34) (.tmp 35) _ rfl w.heap.size 40 i0 _ 2 24 Try.underlying36 HI.out.1 HI.out.2.1 HI.out.2.2.1 HI.out.2.2.2 rfl (by omega) (.slice (some ⟨w4.heap.size, 0, none⟩) 1 1) 1 (encEntry.flat [(mt, tx)]) rfl hL ⟨g, 0, none⟩ m cp (encEntry.flat xs) rfl (by rw [encEntry.flat_len, HM.out]; rfl) (SRow.newsW hOd.row) (encEntry.flat_one _) (by simp only [maxLen]; omega) (by omega) (by simp; omega) ?_; intro v9 w9 hown9 hgr9 hnil9)
            obtain ⟨A9, cap9, rfl⟩ := own_valK hown9
            have hMo : SOwn encEntry w9 w.heap.size 40 A9 cap9 ([(mt, tx)] ++ xs) := SOwn.of_raw (E := encEntry) hown9 (encEntry.flat_app _ _) HFN.out
            have hB9 := hL.below_grown (n := 1) hBL hgr9
            go_wp2_with fail
            refine (iEn_is A9 cap9 ([(mt, tx)] ++ xs) _ HFN.out hMo.row HQ2.out (by omega) HF.out).mono ?_; rintro e wf ⟨rfl, hwf⟩
            have hBf := bel_next hB9 hwf
            go_wp2
            go_ret
            exact ⟨rfl, hBf⟩

set_option maxRecDepth 100000 in
theorem lifted (os : Os) (started : os.Started) (H : Type) (enc : TypeId × Value → H) :
    ReturnsInHanded {} Try.checked os 6 .any (Rows.fnEntriesValidSpec.pre6 enc Try.prog Try.f6 Rows.fnEntriesValidRow.domain false) (Rows.fnEntriesValidSpec.post enc Try.prog Try.f6 false true false false) := by
  refine returnsInHanded_of_change (C := Try.checked) own started (by kernel_rfl) Try.func6
    (ChangeSpec.witness6 (enc := enc) (C := Try.checked) false ⟨#[], #[.slice none 0 0], []⟩ 8 (by kernel_rfl) (by kernel_rfl) (by kernel_rfl) (by kernel_rfl)) ?_
  intro W base args ds gs before hval0 hW hcnd _
  have hval : ∀ (j : Nat) t v, Try.f6.params[j]? = some t → args[j]? = some v → Value.okWide Try.prog W .any base t v := hval0
  have hW' := hW
  obtain ⟨p, q, hA0, hV, rfl, hfz, hnd⟩ := hW
  have hA : DataW.TrodAll enc Try.prog W 0 (fun _ => true) true Try.f6.params.toList args.toList ds p := hA0
  rw [Try.params6] at hA hval
  obtain ⟨v0, vs0, d0, ds0, p0, q0, hargs, rfl, rfl, h0, r0⟩ := trodAll_cons hA
  obtain ⟨rfl, rfl, rfl⟩ := trodAll_nil r0
  obtain rfl : args = #[v0] := by cases args; simp_all
  obtain ⟨rfl, rfl⟩ := trodVars_none hV
  have k0 := h0
  have lt0 : ∀ x ∈ p0, x.block < W.heap.size := by obtain ⟨m, hm⟩ := k0; exact DataW.trod_lt m _ _ _ hm
  obtain ⟨a0, len0, cap0, rfl⟩ := okWide_slice Try.underlying22 (hval 0 22 v0 rfl rfl)
  have w0 : CodeOk W a0 len0 cap0 := by
    obtain ⟨fuel, hf⟩ := h0
    rcases open_ints Try.underlying22 Try.underlying5 (by kernel_rfl) hf with ⟨hcs, _⟩ | ⟨x, l, c, zs, hcs, _, hl, hm, hz, _, hcell, hwz⟩
    · simp [Value.cells] at hcs
      obtain ⟨rfl, rfl, rfl⟩ := hcs
      exact code_nil W
    · simp [Value.cells] at hcs
      obtain ⟨rfl, rfl, rfl⟩ := hcs
      exact code_ok hl hm (by simp at hz; omega) hcell hwz
  clear hA0 hval0
  refine (walk W a0 len0 cap0 w0).mono fun e W' ⟨he, bel⟩ => ?_
  subst he
  exact ⟨_, rfl, _, _, _, [], _, [], hW', trodAll_mk1 (shut_bool Try.underlying4 _), (trodAll_cons_mk (Below.trod laidOut (by kernel_rfl) (of_decide_eq_true (by kernel_rfl)) k0 bel lt0) trodAll_mk0), rfl, bel.frame _, fun h => by cases h⟩

theorem over : Rows.fnEntriesValidRow.holds Try.pinned (OpenSpec.ofChange Rows.fnEntriesValidSpec) :=
  OpenClaim.holds_of_wide 6 Try.f6 rfl rfl rfl rfl rfl rfl rfl ⟨rfl, rfl, rfl, rfl, rfl⟩ rfl rfl rfl rfl rfl (by kernel_rfl) Try.func6 (by kernel_rfl)
    (of_decide_eq_true (by kernel_rfl)) (by unfold Func.isWrapper; first | (rw [if_pos (by decide +kernel)]; kernel_rfl) | (rw [if_neg (by decide +kernel)]; exact ⟨rfl, rfl⟩))
    (fun os started H enc _ => lifted os started H enc)

/-- The statement. -/
theorem proved : Rows.FnEntriesValidSaid :=
  over
#print axioms proved
end Go.Proofs.Ytpmbjdfecbmgoab.fnEntriesValid
