/- FnPlateDrop: whatever the input, the law returns true, and its arguments read as they did. No conditions beyond those of the statement's row. -/
import Derived.Test.YtidppabconifkabP8
import Derived.Test.YtidppabconifkabP7
import Derived.Test.YtidppabconifkabLp
namespace Go.Proofs.Ytidppabconifkab.fnPlateDrop
open Go.Proofs.Ytidppabconifkab
open Go.ChangeShapes Go.WideShapes Go.ChangeAt Go.RowKit Go.Joins
set_option linter.unusedVariables false
set_option linter.unusedSimpArgs false
set_option linter.unnecessarySimpa false

theorem own : ownKnob Try.prog.godebug = none := by kernel_rfl
theorem laidOut : laidOutB Try.prog = true := by kernel_rfl

set_option maxRecDepth 100000 in
set_option maxHeartbeats 4000000 in
theorem walk (w : World) (a0 : Option Addr) (len0 cap0 : Nat) (w0 : CodeOk w a0 len0 cap0) :
    Calls Try.prog 6 #[.slice a0 len0 cap0] w fun e w' => e = .returned (.bool true) ∧ Below w.heap.size w w' := by
  by_cases hl : 1048576 < len0
  · have w0' := w0.2.1
    unfold maxLen at w0'
    clear w0
    go_enter Try.func6, Try.ntmps6
    go_wp2
    go_ret
    exact ⟨rfl, Below.refl _ _⟩
  · have w0' := w0.2.1
    unfold maxLen at w0'
    have hle := w0.1
    have HW := Lib.hid w0
    clear w0
    go_enter Try.func6, Try.ntmps6
    go_wp2_with fail
    refine (drPlateDrop_any _ _ _ _ HW.out).mono ?_; rintro e w1 ⟨xs, g, cp, t, rfl, hl25, hsm, ht, hO0, hB0⟩
    obtain ⟨n, hn⟩ : ∃ n, xs.length = n := ⟨_, rfl⟩
    rw [hn] at hl25 ⊢
    have HN := Lib.hid hn
    clear hn
    have HQ : Hid (∀ v ∈ xs, v.2.2.size ≤ maxLen) := Lib.hid (hsm.q)
    have HT : Hid (t.size ≤ maxLen) := Lib.hid (by unfold maxLen; omega)
    clear hsm ht
    cases hv : plB xs
    · have hn0 : 0 < n := by
        rcases Nat.eq_zero_or_pos n with e0 | e0
        · exfalso; rw [List.length_eq_zero_iff.1 (HN.out.trans e0), plB_nil] at hv; cases hv
        · exact e0
      have HPP : Hid (PdOf xs t [] false) := Lib.hid (.inl ⟨hv, rfl, rfl⟩)
      have HL : Hid (([] : List VMark).length = 0) := Lib.hid (rfl)
      have HPR : Hid (PlR xs false) := Lib.hid (hv)
      clear hv
      go_wp2_with fail
      refine (iPD_any g 0 cp xs t _ HN.out hO0.row HQ.out (by omega)).mono ?_; rintro e' w1 ⟨l1, k1, V, cv, rfl, hRR, hV1, hw1⟩
      have hO1 := hO0.next hw1
      have hB1 := bel_next hB0 hw1
      have hV1 := hV1.mono (base' := w.heap.size) hB0.size
      obtain ⟨rfl, rfl⟩ := PdOf.unique HPP.out hRR
      rw [HL.out]
      clear hRR
      go_wp2_with fail
      refine (sPD_any (some ⟨g, 0, none⟩) cp xs t _ HN.out hO1.row HQ.out (by omega)).mono ?_; rintro e' w2 ⟨l1, k1, U, cu, rfl, hRR, hU2, hw2⟩
      have hO2 := hO1.next hw2
      have hV2 := hV1.next hw2
      have hB2 := bel_next hB1 hw2
      have hU2 := hU2.mono (base' := w.heap.size) hB1.size
      obtain ⟨rfl, rfl⟩ := PdOf.unique HPP.out hRR
      rw [HL.out]
      clear hRR
      go_wp2_with fail
      refine (samePlate_is V U cv cu [] HL.out hV2.row hU2.row (by omega)).mono ?_; rintro e' w3 ⟨rfl, hw3⟩
      have hO3 := hO2.next hw3
      have hV3 := hV2.next hw3
      have hU3 := hU2.next hw3
      have hB3 := bel_next hB2 hw3
      go_wp2_with fail
      refine (samePlate_no V (some ⟨g, 0, none⟩) cv cp 0 n (by omega)).mono ?_; rintro e' w4 ⟨rfl, hw4⟩
      have hO4 := hO3.next hw4
      have hV4 := hV3.next hw4
      have hB4 := bel_next hB3 hw4
      go_wp2_with fail
      refine (iPV_any (some ⟨g, 0, none⟩) cp xs _ HN.out hO4.row HQ.out (by omega) HPR.out).mono ?_; rintro e' w5 ⟨rfl, hw5⟩
      have hO5 := hO4.next hw5
      have hV5 := hV4.next hw5
      have hB5 := bel_next hB4 hw5
      go_wp2_with fail
      refine (alive_any _).mono ?_; rintro e' w' ⟨rfl, rfl⟩
      go_wp2
      go_ret
      exact ⟨rfl, hB5⟩
    · by_cases hs : (dropL t xs).length < xs.length
      · obtain ⟨l, hl⟩ : ∃ l, dropL t xs = l := ⟨_, rfl⟩
        obtain ⟨q, hq⟩ : ∃ q, l.length = q := ⟨_, rfl⟩
        have hqn : q < n := by rw [← hq, ← hl, ← HN.out]; exact hs
        have HPP : Hid (PdOf xs t l true) := Lib.hid (.inr ⟨hv, hl.symm, by rw [← hl]; simp [hs]⟩)
        have HL := Lib.hid hq
        have HALL : Hid (∀ (i : Nat) (hi : i < xs.length), xs[i].2.2 = t → PlR l true ∧ putL xs[i] l = xs) := Lib.hid (fun i hi h9 => by have := drop_put9 hv hi; rw [h9, hl] at this; exact ⟨this.1, this.2.1⟩)
        have HSOME : Hid (¬ ∀ v ∈ xs, (v.2.2.toList == t.toList) = false) := Lib.hid (fun h9 => by rw [drop_none9 h9] at hs; exact Nat.lt_irrefl _ hs)
        have HVX : Hid (plB xs = true) := Lib.hid (hv)
        have HQ2 : Hid (∀ v ∈ l, v.2.2.size ≤ maxLen) := Lib.hid (by rw [← hl]; exact drop_q9 HQ.out)
        have HDL : Hid (dropL t xs = l) := Lib.hid (hl)
        have HRB : Hid (decide (q < n) = true) := Lib.hid (by simp [hqn])
        clear hv hs hl hq
        go_wp2_with fail
        refine (iPD_yes g 0 cp xs t _ HN.out hO0.row HQ.out (by omega) HVX.out HDL.out HL.out HRB.out).mono ?_; rintro e' w1 ⟨g2, cv, rfl, hV1, hw1⟩
        have hO1 := hO0.next hw1
        have hB1 := bel_next hB0 hw1
        have hV1 := hV1.mono (base' := w.heap.size) hB0.size
        go_wp2_with fail
        refine (sPD_any (some ⟨g, 0, none⟩) cp xs t _ HN.out hO1.row HQ.out (by omega)).mono ?_; rintro e' w2 ⟨l1, k1, U, cu, rfl, hRR, hU2, hw2⟩
        have hO2 := hO1.next hw2
        have hV2 := hV1.next hw2
        have hB2 := bel_next hB1 hw2
        have hU2 := hU2.mono (base' := w.heap.size) hB1.size
        obtain ⟨rfl, rfl⟩ := PdOf.unique HPP.out hRR
        rw [HL.out]
        clear hRR
        go_wp2_with fail
        refine (samePlate_is (some ⟨g2, 0, none⟩) U cv cu l HL.out hV2.row hU2.row (by omega)).mono ?_; rintro e' w3 ⟨rfl, hw3⟩
        have hO3 := hO2.next hw3
        have hV3 := hV2.next hw3
        have hU3 := hU2.next hw3
        have hB3 := bel_next hB2 hw3
        go_wp2_with fail
        go_loopw [9] (fun iv wr => ∃ k : Nat, iv = .int .i64 k ∧ k ≤ n ∧ Hid (∀ (i : Nat) (hi : i < xs.length), i < k → xs[i].2.2 ≠ t) ∧ Below w3.heap.size w3 wr) (fun iv _ => (n - intOf iv).toNat)
        case atStart => exact ⟨0, rfl, by omega, Lib.hid (fun i hi h9 => by omega), Below.refl _ _⟩
        case round =>
          obtain ⟨k, rfl, k1, HK, hX⟩ := hrel
          have hO := hO3.next hX
          have hV := hV3.next hX
          have hB := bel_next hB3 hX
          by_cases hlt : k < n
          · have hk : k < xs.length := by rw [HN.out]; exact hlt
            have hki : (k : Int) < (n : Int) := by omega
            obtain ⟨u0, u1, u2⟩ := ownMark hO hk
            obtain ⟨v, hvv⟩ : ∃ v, xs[k]'hk = v := ⟨_, rfl⟩
            have hqv : v.2.2.size ≤ maxLen := by rw [← hvv]; exact HQ.out _ (List.getElem_mem hk)
            have hall := HALL.out k hk
            rw [hvv] at hall u0 u1 u2
            have HVV := Lib.hid hvv
            clear hvv
            obtain ⟨x, z, s⟩ := v
            dsimp only at hall u0 u1 u2 hqv
            cases hbe : (s.toList == t.toList)
            · have he : s ≠ t := fun e => by rw [e] at hbe; simp at hbe
              have HK2 : Hid (∀ (i : Nat) (hi : i < xs.length), i < k + 1 → xs[i].2.2 ≠ t) := Lib.hid (fun i hi h9 => by
                by_cases e : i = k
                · subst e; rw [HVV.out]; exact he
                · exact HK.out i hi (by omega))
              clear hall
              go_wp2_with fail
              go_roundw
              case rel => exact ⟨k + 1, by go_num, by omega, HK2, hX⟩
              case measure => simp [intOf]; omega
            · have he : s = t := bytes_inj9 (by simpa using hbe)
              clear hbe
              subst he
              obtain ⟨hp1, hp2⟩ := hall rfl
              have HP1 := Lib.hid hp1
              have HPO : Hid (PpOf l (x, z, s) xs true) := Lib.hid (.inr (.inl ⟨hp1, by rw [hp2]; exact HVX.out, hp2.symm, rfl⟩))
              have HQS : Hid (s.size ≤ maxLen) := Lib.hid (hqv)
              clear hall hp1 hp2
              go_wp2_with fail
              refine (iPP_any g2 0 cv l x z s _ HL.out hV.row HQ2.out HQS.out (by omega)).mono ?_; rintro e' w5 ⟨l5, k5, Y, cy, rfl, hRR, hY, hw5⟩
              obtain ⟨rfl, rfl⟩ := PpOf.unique HPO.out hRR
              rw [HN.out]
              have hV5 := hV.next hw5
              have hO5 := hO.next hw5
              have hB5 := bel_next hB hw5
              go_wp2_with fail
              refine (iPV_any _ cv l _ HL.out hV5.row HQ2.out (by omega) HP1.out).mono ?_; rintro e' w6 ⟨rfl, hw6⟩
              have hY6 := hY.next hw6
              have hO6 := hO5.next hw6
              have hB6 := bel_next hB5 hw6
              go_wp2_with fail
              refine (samePlate_is Y (some ⟨g, 0, none⟩) cy cp xs HN.out hY6.row hO6.row (by omega)).mono ?_; rintro e' w7 ⟨rfl, hw7⟩
              go_wp2
              go_ret
              exact ⟨rfl, bel_next hB6 hw7⟩
          · exfalso
            apply HSOME.out
            intro v hv9
            obtain ⟨i, hi, rfl⟩ := List.mem_iff_getElem.1 hv9
            exact txt_ne9 (HK.out i hi (by have := HN.out; omega))
      · have HPP : Hid (PdOf xs t xs false) := Lib.hid (.inr ⟨hv, (drop_same9 hs).symm, by simp⟩)
        have HL : Hid (xs.length = n) := Lib.hid (HN.out)
        clear hv hs
        go_wp2_with fail
        refine (iPD_any g 0 cp xs t _ HN.out hO0.row HQ.out (by omega)).mono ?_; rintro e' w1 ⟨l1, k1, V, cv, rfl, hRR, hV1, hw1⟩
        have hO1 := hO0.next hw1
        have hB1 := bel_next hB0 hw1
        have hV1 := hV1.mono (base' := w.heap.size) hB0.size
        obtain ⟨rfl, rfl⟩ := PdOf.unique HPP.out hRR
        rw [HL.out]
        clear hRR
        go_wp2_with fail
        refine (sPD_any (some ⟨g, 0, none⟩) cp xs t _ HN.out hO1.row HQ.out (by omega)).mono ?_; rintro e' w2 ⟨l1, k1, U, cu, rfl, hRR, hU2, hw2⟩
        have hO2 := hO1.next hw2
        have hV2 := hV1.next hw2
        have hB2 := bel_next hB1 hw2
        have hU2 := hU2.mono (base' := w.heap.size) hB1.size
        obtain ⟨rfl, rfl⟩ := PdOf.unique HPP.out hRR
        rw [HL.out]
        clear hRR
        go_wp2_with fail
        refine (samePlate_is V U cv cu xs HL.out hV2.row hU2.row (by omega)).mono ?_; rintro e' w3 ⟨rfl, hw3⟩
        have hO3 := hO2.next hw3
        have hV3 := hV2.next hw3
        have hU3 := hU2.next hw3
        have hB3 := bel_next hB2 hw3
        go_wp2_with fail
        refine (samePlate_is V (some ⟨g, 0, none⟩) cv cp xs HN.out hV3.row hO3.row (by omega)).mono ?_; rintro e' w4 ⟨rfl, hw4⟩
        have hO4 := hO3.next hw4
        have hV4 := hV3.next hw4
        have hB4 := bel_next hB3 hw4
        go_wp2_with fail
        refine (alive_any _).mono ?_; rintro e' w' ⟨rfl, rfl⟩
        go_wp2
        go_ret
        exact ⟨rfl, hB4⟩

set_option maxRecDepth 100000 in
theorem lifted (os : Os) (started : os.Started) (H : Type) (enc : TypeId × Value → H) :
    ReturnsInHanded {} Try.checked os 6 .any (Rows.fnPlateDropSpec.pre6 enc Try.prog Try.f6 Rows.fnPlateDropRow.domain false) (Rows.fnPlateDropSpec.post enc Try.prog Try.f6 false true false false) := by
  refine returnsInHanded_of_change (C := Try.checked) own started (by kernel_rfl) Try.func6
    (ChangeSpec.witness6 (enc := enc) (C := Try.checked) false ⟨#[], #[.slice none 0 0], []⟩ 8 (by kernel_rfl) (by kernel_rfl) (by kernel_rfl) (by kernel_rfl)) ?_
  intro W base args ds gs before hval0 hW hcnd _
  have hval : ∀ (j : Nat) t v, Try.f6.params[j]? = some t → args[j]? = some v → Value.okWide Try.prog W .any base t v := hval0
  have hW' := hW
  obtain ⟨p, q, hA0, hV, rfl, hfz, hnd⟩ := hW
  have hA : DataW.TrodAll enc Try.prog W 0 (fun _ => true) true Try.f6.params.toList args.toList ds p := hA0
  rw [Try.params6] at hA hval
  obtain ⟨v0, vs0, d0, ds0, p0, q0, hargs, rfl, rfl, h0, r0⟩ := trodAll_cons hA
  obtain ⟨rfl, rfl, rfl⟩ := trodAll_nil r0
  obtain rfl : args = #[v0] := by cases args; simp_all
  obtain ⟨rfl, rfl⟩ := trodVars_none hV
  have k0 := h0
  have lt0 : ∀ x ∈ p0, x.block < W.heap.size := by obtain ⟨m, hm⟩ := k0; exact DataW.trod_lt m _ _ _ hm
  obtain ⟨a0, len0, cap0, rfl⟩ := okWide_slice Try.underlying22 (hval 0 22 v0 rfl rfl)
  have w0 : CodeOk W a0 len0 cap0 := by
    obtain ⟨fuel, hf⟩ := h0
    rcases open_ints Try.underlying22 Try.underlying5 (by kernel_rfl) hf with ⟨hcs, _⟩ | ⟨x, l, c, zs, hcs, _, hl, hm, hz, _, hcell, hwz⟩
    · simp [Value.cells] at hcs
      obtain ⟨rfl, rfl, rfl⟩ := hcs
      exact code_nil W
    · simp [Value.cells] at hcs
      obtain ⟨rfl, rfl, rfl⟩ := hcs
      exact code_ok hl hm (by simp at hz; omega) hcell hwz
  clear hA0 hval0
  refine (walk W a0 len0 cap0 w0).mono fun e W' ⟨he, bel⟩ => ?_
  subst he
  exact ⟨_, rfl, _, _, _, [], _, [], hW', trodAll_mk1 (shut_bool Try.underlying4 _), (trodAll_cons_mk (Below.trod laidOut (by kernel_rfl) (of_decide_eq_true (by kernel_rfl)) k0 bel lt0) trodAll_mk0), rfl, bel.frame _, fun h => by cases h⟩

theorem over : Rows.fnPlateDropRow.holds Try.pinned (OpenSpec.ofChange Rows.fnPlateDropSpec) :=
  OpenClaim.holds_of_wide 6 Try.f6 rfl rfl rfl rfl rfl rfl rfl ⟨rfl, rfl, rfl, rfl, rfl⟩ rfl rfl rfl rfl rfl (by kernel_rfl) Try.func6 (by kernel_rfl)
    (of_decide_eq_true (by kernel_rfl)) (by unfold Func.isWrapper; first | (rw [if_pos (by decide +kernel)]; kernel_rfl) | (rw [if_neg (by decide +kernel)]; exact ⟨rfl, rfl⟩))
    (fun os started H enc _ => lifted os started H enc)

/-- The statement. -/
theorem proved : Rows.FnPlateDropSaid :=
  over
#print axioms proved
end Go.Proofs.Ytidppabconifkab.fnPlateDrop
