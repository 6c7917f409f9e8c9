/- FnLinesMany: whatever the input, the law returns true, and its arguments read as they did. No conditions beyond those of the statement's row. -/
import Derived.Test.YtoklehmoeollfaaQg
import Derived.Test.YtoklehmoeollfaaNh
import Derived.Test.YtoklehmoeollfaaNj
import Derived.Test.YtoklehmoeollfaaLp
namespace Go.Proofs.Ytoklehmoeollfaa.fnLinesMany
open Go.Proofs.Ytoklehmoeollfaa
open Go.ChangeShapes Go.WideShapes Go.ChangeAt Go.RowKit Go.Joins
set_option linter.unusedVariables false
set_option linter.unusedSimpArgs false
set_option linter.unnecessarySimpa false

theorem own : ownKnob Try.prog.godebug = none := by kernel_rfl
theorem laidOut : laidOutB Try.prog = true := by kernel_rfl

set_option maxRecDepth 100000 in
set_option maxHeartbeats 4000000 in
theorem walk (w : World) (a0 : Option Addr) (len0 cap0 : Nat) (w0 : CodeOk w a0 len0 cap0) :
    Calls Try.prog 8 #[.slice a0 len0 cap0] w fun e w' => e = .returned (.bool true) ∧ Below w.heap.size w w' := by
  by_cases hl : 1048576 < len0
  · have w0' := w0.2.1
    unfold maxLen at w0'
    clear w0
    go_enter Try.func8, Try.ntmps8
    go_wp2
    go_ret
    exact ⟨rfl, Below.refl _ _⟩
  · have w0' := w0.2.1
    unfold maxLen at w0'
    have hle := w0.1
    have HW := Lib.hid w0
    clear w0
    go_enter Try.func8, Try.ntmps8
    obtain ⟨i0, hi0, hz0, hz1, hz2⟩ := info_parts infoNum
    have HI := Lib.hid (And.intro hi0 (And.intro hz0 (And.intro hz1 hz2)))
    clear hi0 hz0 hz1 hz2
    go_wp2_with fail
    refine (drLinesMany_any _ _ _ _ HW.out).mono ?_; rintro e w1 ⟨xs, A, cp, rfl, hx7, hO0, hB0⟩
    obtain ⟨m, hm⟩ : ∃ m, xs.length = m := ⟨_, rfl⟩
    rw [hm] at hx7 ⊢
    have HM := Lib.hid hm
    clear hm
    obtain ⟨r, hr⟩ : ∃ r, lmI xs = r := ⟨_, rfl⟩
    have HR := Lib.hid hr
    cases hf : frB xs
    · have e1 : r = -1 := by rw [← hr]; unfold lmI; rw [hf]; rfl
      clear hr hf
      subst e1
      go_wp2_with fail
      refine (iLm_is A cp xs _ HM.out hO0.row (by omega) HR.out).mono ?_; rintro e' w1 ⟨rfl, hw1⟩
      have hO1 := hO0.next hw1
      have hB1 := bel_next hB0 hw1
      go_wp2_with fail
      refine (sLm_is A cp xs _ HM.out hO1.row (by omega) HR.out).mono ?_; rintro e' w2 ⟨rfl, hw2⟩
      have hO2 := hO1.next hw2
      have hB2 := bel_next hB1 hw2
      go_wp2_with fail
      refine (alive_any _).mono ?_; rintro e' w' ⟨rfl, rfl⟩
      go_wp2
      go_ret
      exact ⟨rfl, hB2⟩
    · have hr0 : 0 ≤ r := by rw [← hr]; unfold lmI; rw [if_pos hf]; exact lB_nn _ _
      have hrn : ¬ r < 0 := by omega
      have hm6 : m ≤ 6 := by have := (frB_iff.1 hf).1; rw [HM.out] at this; exact this
      have hev : 2 ≤ m → r % 2 = 0 := fun h2 => by rw [← hr]; exact lm_even hf (by rw [HM.out]; exact h2)
      have HEV := Lib.hid hev
      have hlf := lm_lf (fs := xs)
      rw [hr] at hlf
      obtain ⟨l, hl⟩ : ∃ l, lfL xs = l := ⟨_, rfl⟩
      have HL := Lib.hid hl
      obtain ⟨c9, hc⟩ : ∃ c, lfB xs = c := ⟨_, rfl⟩
      have HC := Lib.hid hc
      have hpos : decide (0 < r) = c9 := by rw [← hc]; exact hlf.symm
      have HPOS := Lib.hid hpos
      clear hr hf hev hlf hl hc hpos
      go_wp2_with fail
      refine (iLm_is A cp xs _ HM.out hO0.row (by omega) HR.out).mono ?_; rintro e' w1 ⟨rfl, hw1⟩
      have hO1 := hO0.next hw1
      have hB1 := bel_next hB0 hw1
      go_wp2_with fail
      refine (sLm_is A cp xs _ HM.out hO1.row (by omega) HR.out).mono ?_; rintro e' w2 ⟨rfl, hw2⟩
      have hO2 := hO1.next hw2
      have hB2 := bel_next hB1 hw2
      go_wp2_with fail
      refine (iLf9_is A cp xs _ HM.out hO2.row (by omega) HL.out HC.out).mono ?_; rintro e' w3 ⟨V, cv, rfl, hV3, hw3⟩
      have hO3 := hO2.next hw3
      have hB3 := bel_next hB2 hw3
      have hV3 := hV3.mono (base' := w.heap.size) hB2.size
      go_wp2_with fail
      go_loopw [7, 8, 9] (fun av fv kv wr => ∃ (k q cv : Nat) (f : Int) (V : Option Addr), k ≤ m ∧ q = k ∧ kv = .int .i64 k ∧ fv = .int .i64 f ∧ av = .slice V q cv ∧ Hid (facI k = f) ∧ SOwn encNum wr w.heap.size 3 V cv (faP m k) ∧ Below w.heap.size w wr) (fun _ _ kv _ => (m - intOf kv).toNat)
      case atStart => exact ⟨0, 0, 0, 1, _, by omega, rfl, rfl, rfl, rfl, (by show _ = _; rfl), SOwn.empty (blk_new w3 _) hB3.size, hB3.alloc hB3.size _⟩
      case round =>
        obtain ⟨k, q, cv, f, V, k1, qk, rfl, rfl, rfl, HF, hO, hB⟩ := hrel
        have QK := Lib.hid qk
        by_cases hlt : k < m
        · have hki : (k : Int) < (m : Int) := by omega
          have hk64 : (k : Int) ≤ 64 := by omega
          have hm64 : (m : Int) ≤ 64 := by omega
          have hq6 : q ≤ 6 := by omega
          have HP : Hid ((faP m k).length = q) := Lib.hid (by rw [faP_len, qk])
          clear qk
          have htm := two_bd (n := m) hm6
          have htk := two_le hm6 hlt
          have htk0 := two_bd (n := k) (by omega)
          have hal := alI_bd hm6
          obtain ⟨e, he⟩ : ∃ e, (2 : Int) ^ m - 1 - 2 ^ k = e := ⟨_, rfl⟩
          have HE9 : Hid (alI m - 2 ^ k = e) := Lib.hid he
          have heb : 0 ≤ e ∧ e ≤ 63 := by have := HE9.out; omega
          have z1 : IntKind.i64.wrap ((2 : Int) ^ m) = 2 ^ m := IntWalk.i64_in _ (by omega)
          have z2 : IntKind.i64.wrap ((2 : Int) ^ m - 1) = 2 ^ m - 1 := IntWalk.i64_in _ (by omega)
          have z3 : IntKind.i64.wrap ((2 : Int) ^ k) = 2 ^ k := IntWalk.i64_in _ (by omega)
          have z4 : IntKind.i64.wrap ((2 : Int) ^ m - 1 - 2 ^ k) = e := by rw [IntWalk.i64_in _ (by omega), he]
          clear htm htk htk0 hal he
          have hfb := fac_bd (k := k) (by omega)
          rw [HF.out] at hfb
          obtain ⟨f2, hf2⟩ : ∃ f2, f * ((k : Int) + 1) = f2 := ⟨_, rfl⟩
          have HF2 : Hid (facI (k + 1) = f2) := Lib.hid (by rw [facI, HF.out, hf2])
          have hfb2 := fac_bd (k := k + 1) (by omega)
          rw [HF2.out] at hfb2
          obtain ⟨p0, p1⟩ := hfb2
          obtain ⟨q0, q1⟩ := hfb
          go_wp2_with fail
          refine wp_region_held_drew (S := (fun _ => True)) (by kernel_rfl) trivial (fun hHeld => ?_)
          clear hHeld
          have hO_0 := hO.drew
          have hB_0 := hB.drew
          refine wpAnyH_take (i := 0) (oi := _) (v := ?_) rfl (by kernel_rfl) (by kernel_rfl) (by kernel_rfl) (fun _ _ _ h => h) (Or.inl ⟨by rfl, ?_⟩) trivial ?_
          (rotate_left); (focus (intro wv hSw; clear hSw; go_simp; (try with_reducible rfl)))
          try simp only [Act.put, List.getElem_toArray, List.getElem_cons_succ, List.getElem_cons_zero, List.setIfInBounds_toArray, List.set_cons_zero, List.set_cons_succ]
          refine wpAnyH_take (i := 1) (oi := _) (v := ?_) rfl (by kernel_rfl) (by kernel_rfl) (by kernel_rfl) (fun _ _ _ h => h) (Or.inl ⟨by rfl, ?_⟩) trivial ?_
          (rotate_left); (focus (intro wv hSw; clear hSw; go_simp; (try with_reducible rfl)))
          try simp only [Act.put, List.getElem_toArray, List.getElem_cons_succ, List.getElem_cons_zero, List.setIfInBounds_toArray, List.set_cons_zero, List.set_cons_succ]
          refine wpAnyH_take (i := 2) (oi := _) (v := ?_) rfl (by kernel_rfl) (by kernel_rfl) (by kernel_rfl) (fun _ _ _ h => h) (Or.inl ⟨by rfl, ?_⟩) trivial ?_
          (rotate_left); (focus (intro wv hSw; clear hSw; go_simp; (try with_reducible rfl)))
          try simp only [Act.put, List.getElem_toArray, List.getElem_cons_succ, List.getElem_cons_zero, List.setIfInBounds_toArray, List.set_cons_zero, List.set_cons_succ]
          refine wpAnyH_take (i := 3) (oi := _) (v := ?_) rfl (by kernel_rfl) (by kernel_rfl) (by kernel_rfl) (fun _ _ _ h => h) (Or.inl ⟨by rfl, ?_⟩) trivial ?_
          (rotate_left); (focus (intro wv hSw; clear hSw; go_simp; (try with_reducible rfl)))
          try simp only [Act.put, List.getElem_toArray, List.getElem_cons_succ, List.getElem_cons_zero, List.setIfInBounds_toArray, List.set_cons_zero, List.set_cons_succ]
          refine wpAnyH_take (i := 4) (oi := _) (v := ?_) rfl (by kernel_rfl) (by kernel_rfl) (by kernel_rfl) (fun _ _ _ h => h) (Or.inl ⟨by rfl, ?_⟩) trivial ?_
          (rotate_left); (focus (intro wv hSw; clear hSw; go_simp; (try with_reducible rfl)))
          try simp only [Act.put, List.getElem_toArray, List.getElem_cons_succ, List.getElem_cons_zero, List.setIfInBounds_toArray, List.set_cons_zero, List.set_cons_succ]
          refine wpAnyH_take (i := 5) (oi := _) (v := ?_) rfl (by kernel_rfl) (by kernel_rfl) (by kernel_rfl) (fun _ _ _ h => h) (Or.inl ⟨by rfl, ?_⟩) trivial ?_
          (rotate_left); (focus (intro wv hSw; clear hSw; go_simp; (try with_reducible rfl)))
          try simp only [Act.put, List.getElem_toArray, List.getElem_cons_succ, List.getElem_cons_zero, List.setIfInBounds_toArray, List.set_cons_zero, List.set_cons_succ]
          refine wpAnyH_take (i := 6) (oi := _) (v := ?_) rfl (by kernel_rfl) (by kernel_rfl) (by kernel_rfl) (fun _ _ _ h => h) (Or.inl ⟨by rfl, ?_⟩) trivial ?_
          (rotate_left); (focus (intro wv hSw; clear hSw; go_simp; (try with_reducible rfl)))
          try simp only [Act.put, List.getElem_toArray, List.getElem_cons_succ, List.getElem_cons_zero, List.setIfInBounds_toArray, List.set_cons_zero, List.set_cons_succ]
          refine wpAnyH_take (i := 7) (oi := _) (v := ?_) rfl (by kernel_rfl) (by kernel_rfl) (by kernel_rfl) (fun _ _ _ h => h) (Or.inl ⟨by rfl, ?_⟩) trivial ?_
          (rotate_left); (focus (intro wv hSw; clear hSw; go_simp; (try with_reducible rfl)))
          try simp only [Act.put, List.getElem_toArray, List.getElem_cons_succ, List.getElem_cons_zero, List.setIfInBounds_toArray, List.set_cons_zero, List.set_cons_succ]
          refine wpAnyH_ready (rs := [8]) (by kernel_rfl) (by simp) ?_
          refine AllReadyH.cons (o := _) rfl (fun K hK => ?_) AllReadyH.nil
          go_simp
          refine hK.out _ _ trivial (fun hHeld => ?_)
          clear hHeld hK K
          try simp only [Act.put, List.getElem_toArray, List.getElem_cons_succ, List.getElem_cons_zero, List.setIfInBounds_toArray, List.set_cons_zero, List.set_cons_succ]
          have hOa := hO_0.alloc (.cells (encNum.enc e).toArray 3)
          have hzr : w.heap.size ≤ wr.heap.size := hB.size
          refine wpAnyH_ready (rs := [9]) (by kernel_rfl) (by simp) ?_
          refine AllReadyH.cons (o := _) rfl (fun K hK => ?_) AllReadyH.nil
          rw [if_pos (by kernel_rfl)]
          refine wp_append_lies _ (.tmp 40) (.tmp 48) _ rfl w.heap.size 3 i0 _ 1 8 Try.underlying29 HI.out.1 HI.out.2.1 HI.out.2.2.1 HI.out.2.2.2 rfl (by omega) (.slice V q cv) q (encNum.flat (faP m k)) rfl (by unfold SOwn at hOa; rw [HP.out] at hOa; exact hOa) ⟨wr.heap.size, 0, none⟩ 1 1 (encNum.enc e) rfl rfl (new_enc (E := encNum) wr.drew e _) (encNum.one _) (by omega) (by simp only [maxLen]; omega) (by omega) (by simp; first | exact hB.size | omega) _ rfl ?_; intro g5 cap5 w5 hown5 hgr5 hat5 hlt5
          have hB5 := SOwn.below_grown (n := q) hOa (hB_0.alloc hB_0.size (.cells (encNum.enc e).toArray 3)) hgr5
          refine hK.out _ _ trivial (fun hHeld => ?_)
          clear hHeld hK K
          try simp only [Act.put, List.getElem_toArray, List.getElem_cons_succ, List.getElem_cons_zero, List.setIfInBounds_toArray, List.set_cons_zero, List.set_cons_succ]
          refine wpAnyH_take (i := 10) (oi := _) (v := ?_) rfl (by kernel_rfl) (by kernel_rfl) (by kernel_rfl) (fun _ _ _ h => h) (Or.inl ⟨by rfl, ?_⟩) trivial ?_
          (rotate_left); (focus (intro wv hSw; clear hSw; go_simp; (try with_reducible rfl)))
          try simp only [Act.put, List.getElem_toArray, List.getElem_cons_succ, List.getElem_cons_zero, List.setIfInBounds_toArray, List.set_cons_zero, List.set_cons_succ]
          refine wpAnyH_done (by kernel_rfl) ?_ _
          have hsn := SOwn.snoc (E := encNum) (xs := faP m k) (x := e) (by rw [HP.out]; exact hown5)
          have hse : faP m k ++ [e] = faP m (k + 1) := by rw [faP_snoc, HE9.out]
          rw [hse] at hsn
          clear hse z1 z2 z3 z4
          go_wp2_with fail
          go_roundw
          case rel => exact ⟨k + 1, q + 1, cap5, f2, some ⟨g5, 0, none⟩, by omega, by rw [QK.out], by go_num, rfl, rfl, HF2, hsn, hB5⟩
          case measure => simp [intOf]; omega
        · obtain rfl : k = m := by omega
          have hki : ¬ (k : Int) < (k : Int) := by omega
          have hq : q = k := qk
          subst hq
          clear qk
          have HAL : Hid (lmI (faP q q) = f) := Lib.hid (by rw [faP_all, lm_fac hm6, HF.out])
          have HPL : Hid ((faP q q).length = q) := Lib.hid (faP_len _ _)
          have hff : (f == f) = true := by simp
          cases c9
          · have hrp : ¬ 0 < r := by have := HPOS.out; simpa using this
            have hdr : decide (0 < r) = false := HPOS.out
            by_cases h2 : q < 2
            · have h2i : (q : Int) < 2 := by omega
              go_wp2_with fail
              refine (iLm_is V cv (faP q q) _ HPL.out hO.row (by omega) HAL.out).mono ?_; rintro e wf ⟨rfl, hwf⟩
              go_wp2
              go_ret
              exact ⟨rfl, bel_next hB hwf⟩
            · have h2i : ¬ (q : Int) < 2 := by omega
              have hrm : r % 2 = 0 := HEV.out (by omega)
              go_wp2_with fail
              refine (iLm_is V cv (faP q q) _ HPL.out hO.row (by omega) HAL.out).mono ?_; rintro e wf ⟨rfl, hwf⟩
              go_wp2
              go_ret
              exact ⟨rfl, bel_next hB hwf⟩
          · have hrp : 0 < r := by have := HPOS.out; simpa using this
            have hdr : decide (0 < r) = true := HPOS.out
            by_cases h2 : q < 2
            · have h2i : (q : Int) < 2 := by omega
              go_wp2_with fail
              refine (iLm_is V cv (faP q q) _ HPL.out hO.row (by omega) HAL.out).mono ?_; rintro e wf ⟨rfl, hwf⟩
              go_wp2
              go_ret
              exact ⟨rfl, bel_next hB hwf⟩
            · have h2i : ¬ (q : Int) < 2 := by omega
              have hrm : r % 2 = 0 := HEV.out (by omega)
              go_wp2_with fail
              refine (iLm_is V cv (faP q q) _ HPL.out hO.row (by omega) HAL.out).mono ?_; rintro e wf ⟨rfl, hwf⟩
              go_wp2
              go_ret
              exact ⟨rfl, bel_next hB hwf⟩

set_option maxRecDepth 100000 in
theorem lifted (os : Os) (started : os.Started) (H : Type) (enc : TypeId × Value → H) :
    ReturnsInHanded {} Try.checked os 8 .any (Rows.fnLinesManySpec.pre6 enc Try.prog Try.f8 Rows.fnLinesManyRow.domain false) (Rows.fnLinesManySpec.post enc Try.prog Try.f8 false true false false) := by
  refine returnsInHanded_of_change (C := Try.checked) own started (by kernel_rfl) Try.func8
    (ChangeSpec.witness6 (enc := enc) (C := Try.checked) false ⟨#[], #[.slice none 0 0], []⟩ 8 (by kernel_rfl) (by kernel_rfl) (by kernel_rfl) (by kernel_rfl)) ?_
  intro W base args ds gs before hval0 hW hcnd _
  have hval : ∀ (j : Nat) t v, Try.f8.params[j]? = some t → args[j]? = some v → Value.okWide Try.prog W .any base t v := hval0
  have hW' := hW
  obtain ⟨p, q, hA0, hV, rfl, hfz, hnd⟩ := hW
  have hA : DataW.TrodAll enc Try.prog W 0 (fun _ => true) true Try.f8.params.toList args.toList ds p := hA0
  rw [Try.params8] at hA hval
  obtain ⟨v0, vs0, d0, ds0, p0, q0, hargs, rfl, rfl, h0, r0⟩ := trodAll_cons hA
  obtain ⟨rfl, rfl, rfl⟩ := trodAll_nil r0
  obtain rfl : args = #[v0] := by cases args; simp_all
  obtain ⟨rfl, rfl⟩ := trodVars_none hV
  have k0 := h0
  have lt0 : ∀ x ∈ p0, x.block < W.heap.size := by obtain ⟨m, hm⟩ := k0; exact DataW.trod_lt m _ _ _ hm
  obtain ⟨a0, len0, cap0, rfl⟩ := okWide_slice Try.underlying22 (hval 0 22 v0 rfl rfl)
  have w0 : CodeOk W a0 len0 cap0 := by
    obtain ⟨fuel, hf⟩ := h0
    rcases open_ints Try.underlying22 Try.underlying5 (by kernel_rfl) hf with ⟨hcs, _⟩ | ⟨x, l, c, zs, hcs, _, hl, hm, hz, _, hcell, hwz⟩
    · simp [Value.cells] at hcs
      obtain ⟨rfl, rfl, rfl⟩ := hcs
      exact code_nil W
    · simp [Value.cells] at hcs
      obtain ⟨rfl, rfl, rfl⟩ := hcs
      exact code_ok hl hm (by simp at hz; omega) hcell hwz
  clear hA0 hval0
  refine (walk W a0 len0 cap0 w0).mono fun e W' ⟨he, bel⟩ => ?_
  subst he
  exact ⟨_, rfl, _, _, _, [], _, [], hW', trodAll_mk1 (shut_bool Try.underlying4 _), (trodAll_cons_mk (Below.trod laidOut (by kernel_rfl) (of_decide_eq_true (by kernel_rfl)) k0 bel lt0) trodAll_mk0), rfl, bel.frame _, fun h => by cases h⟩

theorem over : Rows.fnLinesManyRow.holds Try.pinned (OpenSpec.ofChange Rows.fnLinesManySpec) :=
  OpenClaim.holds_of_wide 8 Try.f8 rfl rfl rfl rfl rfl rfl rfl ⟨rfl, rfl, rfl, rfl, rfl⟩ rfl rfl rfl rfl rfl (by kernel_rfl) Try.func8 (by kernel_rfl)
    (of_decide_eq_true (by kernel_rfl)) (by unfold Func.isWrapper; first | (rw [if_pos (by decide +kernel)]; kernel_rfl) | (rw [if_neg (by decide +kernel)]; exact ⟨rfl, rfl⟩))
    (fun os started H enc _ => lifted os started H enc)

/-- The statement. -/
theorem proved : Rows.FnLinesManySaid :=
  over
#print axioms proved
end Go.Proofs.Ytoklehmoeollfaa.fnLinesMany
