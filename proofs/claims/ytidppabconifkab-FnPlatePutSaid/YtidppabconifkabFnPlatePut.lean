/- FnPlatePut: whatever the input, the law returns true, and its arguments read as they did. No conditions beyond those of the statement's row. -/
import Derived.Test.YtidppabconifkabP8
import Derived.Test.YtidppabconifkabP7
import Derived.Test.YtidppabconifkabLp
namespace Go.Proofs.Ytidppabconifkab.fnPlatePut
open Go.Proofs.Ytidppabconifkab
open Go.ChangeShapes Go.WideShapes Go.ChangeAt Go.RowKit Go.Joins
set_option linter.unusedVariables false
set_option linter.unusedSimpArgs false
set_option linter.unnecessarySimpa false

theorem own : ownKnob Try.prog.godebug = none := by kernel_rfl
theorem laidOut : laidOutB Try.prog = true := by kernel_rfl

set_option maxRecDepth 100000 in
set_option maxHeartbeats 4000000 in
theorem walk (w : World) (a0 : Option Addr) (len0 cap0 : Nat) (w0 : CodeOk w a0 len0 cap0) :
    Calls Try.prog 5 #[.slice a0 len0 cap0] w fun e w' => e = .returned (.bool true) ∧ Below w.heap.size w w' := by
  by_cases hl : 1048576 < len0
  · have w0' := w0.2.1
    unfold maxLen at w0'
    clear w0
    go_enter Try.func5, Try.ntmps5
    go_wp2
    go_ret
    exact ⟨rfl, Below.refl _ _⟩
  · have w0' := w0.2.1
    unfold maxLen at w0'
    have hle := w0.1
    have HW := Lib.hid w0
    clear w0
    go_enter Try.func5, Try.ntmps5
    go_wp2_with fail
    refine (drPlatePut_any _ _ _ _ HW.out).mono ?_; rintro e w1 ⟨xs, g, cp, a, b, t, rfl, hl25, hsm, ⟨a0, a1⟩, ⟨b0, b1⟩, ht, hO0, hB0⟩
    obtain ⟨n, hn⟩ : ∃ n, xs.length = n := ⟨_, rfl⟩
    rw [hn] at hl25 ⊢
    have HN := Lib.hid hn
    clear hn
    have HQ : Hid (∀ v ∈ xs, v.2.2.size ≤ maxLen) := Lib.hid (hsm.q)
    have HT : Hid (t.size ≤ maxLen) := Lib.hid (by unfold maxLen; omega)
    clear hsm ht
    cases hv : plB xs
    · have hn0 : 0 < n := by
        rcases Nat.eq_zero_or_pos n with e0 | e0
        · exfalso; rw [List.length_eq_zero_iff.1 (HN.out.trans e0), plB_nil] at hv; cases hv
        · exact e0
      have HPP : Hid (PpOf xs (a, b, t) [] false) := Lib.hid (.inl ⟨hv, rfl, rfl⟩)
      have HL : Hid (([] : List VMark).length = 0) := Lib.hid (rfl)
      have HPR : Hid (PlR xs false) := Lib.hid (hv)
      clear hv
      have hM1 : (w1.alloc (.cells #[.int .i64 a, .int .i64 b, .string t] 40)).heap[w1.heap.size]? = some (.cells #[.int .i64 a, .int .i64 b, .string t] 40) := by have := blk_new (w1) (.cells #[.int .i64 a, .int .i64 b, .string t] 40); simpa using this
      have hB1 := hB0.alloc hB0.size (.cells #[.int .i64 a, .int .i64 b, .string t] 40)
      have hO1 := hO0.next (bel1 _ (.cells #[.int .i64 a, .int .i64 b, .string t] 40))
      have zBM := hB0.size
      obtain ⟨cM1_0, cM1_1, cM1_2, fM1_0, fM1_1, fM1_2, zM1⟩ := blk3 hM1
      go_wp2_with fail
      refine (iPP_any g 0 cp xs a b t _ HN.out hO1.row HQ.out HT.out (by omega)).mono ?_; rintro e' w2 ⟨l1, k1, V, cv, rfl, hRR, hV2, hw2⟩
      have hM2 := blk_next hM1 hw2
      have hO2 := hO1.next hw2
      have hB2 := bel_next hB1 hw2
      have hV2 := hV2.mono (base' := w.heap.size) hB1.size
      obtain ⟨rfl, rfl⟩ := PpOf.unique HPP.out hRR
      rw [HL.out]
      clear hRR
      obtain ⟨cM2_0, cM2_1, cM2_2, fM2_0, fM2_1, fM2_2, zM2⟩ := blk3 hM2
      go_wp2_with fail
      refine (sPP_any (some ⟨g, 0, none⟩) cp xs a b t _ HN.out ⟨g, 0, rfl⟩ hO2.row HQ.out HT.out (by omega)).mono ?_; rintro e' w3 ⟨l1, k1, U, cu, rfl, hRR, hU3, hw3⟩
      have hM3 := blk_next hM2 hw3
      have hO3 := hO2.next hw3
      have hV3 := hV2.next hw3
      have hB3 := bel_next hB2 hw3
      have hU3 := hU3.mono (base' := w.heap.size) hB2.size
      obtain ⟨rfl, rfl⟩ := PpOf.unique HPP.out hRR
      rw [HL.out]
      clear hRR
      go_wp2_with fail
      refine (samePlate_is V U cv cu [] HL.out hV3.row hU3.row (by omega)).mono ?_; rintro e' w4 ⟨rfl, hw4⟩
      have hM4 := blk_next hM3 hw4
      have hO4 := hO3.next hw4
      have hV4 := hV3.next hw4
      have hU4 := hU3.next hw4
      have hB4 := bel_next hB3 hw4
      go_wp2_with fail
      refine (samePlate_no V (some ⟨g, 0, none⟩) cv cp 0 n (by omega)).mono ?_; rintro e' w5 ⟨rfl, hw5⟩
      have hM5 := blk_next hM4 hw5
      have hO5 := hO4.next hw5
      have hV5 := hV4.next hw5
      have hB5 := bel_next hB4 hw5
      go_wp2_with fail
      refine (iPV_any (some ⟨g, 0, none⟩) cp xs _ HN.out hO5.row HQ.out (by omega) HPR.out).mono ?_; rintro e' w6 ⟨rfl, hw6⟩
      have hM6 := blk_next hM5 hw6
      have hO6 := hO5.next hw6
      have hV6 := hV5.next hw6
      have hB6 := bel_next hB5 hw6
      go_wp2_with fail
      refine (alive_any _).mono ?_; rintro e' w' ⟨rfl, rfl⟩
      go_wp2
      go_ret
      exact ⟨rfl, hB6⟩
    · cases hp : plB (putL (a, b, t) xs)
      · have HPP : Hid (PpOf xs (a, b, t) xs false) := Lib.hid (.inr (.inr ⟨hv, hp, rfl, rfl⟩))
        have HL : Hid (xs.length = n) := Lib.hid (HN.out)
        clear hv hp
        have hM1 : (w1.alloc (.cells #[.int .i64 a, .int .i64 b, .string t] 40)).heap[w1.heap.size]? = some (.cells #[.int .i64 a, .int .i64 b, .string t] 40) := by have := blk_new (w1) (.cells #[.int .i64 a, .int .i64 b, .string t] 40); simpa using this
        have hB1 := hB0.alloc hB0.size (.cells #[.int .i64 a, .int .i64 b, .string t] 40)
        have hO1 := hO0.next (bel1 _ (.cells #[.int .i64 a, .int .i64 b, .string t] 40))
        have zBM := hB0.size
        obtain ⟨cM1_0, cM1_1, cM1_2, fM1_0, fM1_1, fM1_2, zM1⟩ := blk3 hM1
        go_wp2_with fail
        refine (iPP_any g 0 cp xs a b t _ HN.out hO1.row HQ.out HT.out (by omega)).mono ?_; rintro e' w2 ⟨l1, k1, V, cv, rfl, hRR, hV2, hw2⟩
        have hM2 := blk_next hM1 hw2
        have hO2 := hO1.next hw2
        have hB2 := bel_next hB1 hw2
        have hV2 := hV2.mono (base' := w.heap.size) hB1.size
        obtain ⟨rfl, rfl⟩ := PpOf.unique HPP.out hRR
        rw [HL.out]
        clear hRR
        obtain ⟨cM2_0, cM2_1, cM2_2, fM2_0, fM2_1, fM2_2, zM2⟩ := blk3 hM2
        go_wp2_with fail
        refine (sPP_any (some ⟨g, 0, none⟩) cp xs a b t _ HN.out ⟨g, 0, rfl⟩ hO2.row HQ.out HT.out (by omega)).mono ?_; rintro e' w3 ⟨l1, k1, U, cu, rfl, hRR, hU3, hw3⟩
        have hM3 := blk_next hM2 hw3
        have hO3 := hO2.next hw3
        have hV3 := hV2.next hw3
        have hB3 := bel_next hB2 hw3
        have hU3 := hU3.mono (base' := w.heap.size) hB2.size
        obtain ⟨rfl, rfl⟩ := PpOf.unique HPP.out hRR
        rw [HL.out]
        clear hRR
        go_wp2_with fail
        refine (samePlate_is V U cv cu xs HL.out hV3.row hU3.row (by omega)).mono ?_; rintro e' w4 ⟨rfl, hw4⟩
        have hM4 := blk_next hM3 hw4
        have hO4 := hO3.next hw4
        have hV4 := hV3.next hw4
        have hU4 := hU3.next hw4
        have hB4 := bel_next hB3 hw4
        go_wp2_with fail
        refine (samePlate_is V (some ⟨g, 0, none⟩) cv cp xs HN.out hV4.row hO4.row (by omega)).mono ?_; rintro e' w5 ⟨rfl, hw5⟩
        have hM5 := blk_next hM4 hw5
        have hO5 := hO4.next hw5
        have hV5 := hV4.next hw5
        have hB5 := bel_next hB4 hw5
        go_wp2_with fail
        refine (alive_any _).mono ?_; rintro e' w' ⟨rfl, rfl⟩
        go_wp2
        go_ret
        exact ⟨rfl, hB5⟩
      · obtain ⟨l, hl⟩ : ∃ l, putL (a, b, t) xs = l := ⟨_, rfl⟩
        have HPP : Hid (PpOf xs (a, b, t) l true) := Lib.hid (.inr (.inl ⟨hv, hp, hl.symm, rfl⟩))
        have HL : Hid (l.length = n + 1) := Lib.hid (by rw [← hl, put_len9, HN.out])
        have HPR : Hid (PlR l true) := Lib.hid (by show _ = _; rw [← hl]; exact hp)
        have HDP : Hid (PdOf l t xs true) := Lib.hid (.inr ⟨by rw [← hl]; exact hp, by rw [← hl]; exact (put_drop9 hp).symm, by rw [HL.out, HN.out]; simp⟩)
        have HQ2 : Hid (∀ v ∈ l, v.2.2.size ≤ maxLen) := Lib.hid (by rw [← hl]; exact put_q9 HQ.out HT.out)
        clear hv hp hl
        have hw1 : IntKind.i64.wrap ((n : Int) + 1) = (n : Int) + 1 := IntWalk.i64_in _ (by omega)
        have hM1 : (w1.alloc (.cells #[.int .i64 a, .int .i64 b, .string t] 40)).heap[w1.heap.size]? = some (.cells #[.int .i64 a, .int .i64 b, .string t] 40) := by have := blk_new (w1) (.cells #[.int .i64 a, .int .i64 b, .string t] 40); simpa using this
        have hB1 := hB0.alloc hB0.size (.cells #[.int .i64 a, .int .i64 b, .string t] 40)
        have hO1 := hO0.next (bel1 _ (.cells #[.int .i64 a, .int .i64 b, .string t] 40))
        have zBM := hB0.size
        obtain ⟨cM1_0, cM1_1, cM1_2, fM1_0, fM1_1, fM1_2, zM1⟩ := blk3 hM1
        go_wp2_with fail
        refine (iPP_any g 0 cp xs a b t _ HN.out hO1.row HQ.out HT.out (by omega)).mono ?_; rintro e' w2 ⟨l1, k1, V, cv, rfl, hRR, hV2, hw2⟩
        have hM2 := blk_next hM1 hw2
        have hO2 := hO1.next hw2
        have hB2 := bel_next hB1 hw2
        have hV2 := hV2.mono (base' := w.heap.size) hB1.size
        obtain ⟨rfl, rfl⟩ := PpOf.unique HPP.out hRR
        rw [HL.out]
        clear hRR
        obtain ⟨cM2_0, cM2_1, cM2_2, fM2_0, fM2_1, fM2_2, zM2⟩ := blk3 hM2
        go_wp2_with fail
        refine (sPP_any (some ⟨g, 0, none⟩) cp xs a b t _ HN.out ⟨g, 0, rfl⟩ hO2.row HQ.out HT.out (by omega)).mono ?_; rintro e' w3 ⟨l1, k1, U, cu, rfl, hRR, hU3, hw3⟩
        have hM3 := blk_next hM2 hw3
        have hO3 := hO2.next hw3
        have hV3 := hV2.next hw3
        have hB3 := bel_next hB2 hw3
        have hU3 := hU3.mono (base' := w.heap.size) hB2.size
        obtain ⟨rfl, rfl⟩ := PpOf.unique HPP.out hRR
        rw [HL.out]
        clear hRR
        go_wp2_with fail
        refine (samePlate_is V U cv cu l HL.out hV3.row hU3.row (by omega)).mono ?_; rintro e' w4 ⟨rfl, hw4⟩
        have hM4 := blk_next hM3 hw4
        have hO4 := hO3.next hw4
        have hV4 := hV3.next hw4
        have hU4 := hU3.next hw4
        have hB4 := bel_next hB3 hw4
        obtain ⟨g2, rfl, _, _⟩ := hV4.at_ (i := 0) (by rw [HL.out]; omega)
        obtain ⟨cM4_0, cM4_1, cM4_2, fM4_0, fM4_1, fM4_2, zM4⟩ := blk3 hM4
        go_wp2_with fail
        refine (iPD_any g2 0 cv l t _ HL.out hV4.row HQ2.out (by omega)).mono ?_; rintro e' w5 ⟨l1, k1, U, cu, rfl, hRR, hU5, hw5⟩
        have hM5 := blk_next hM4 hw5
        have hO5 := hO4.next hw5
        have hV5 := hV4.next hw5
        have hB5 := bel_next hB4 hw5
        have hU5 := hU5.mono (base' := w.heap.size) hB4.size
        obtain ⟨rfl, rfl⟩ := PdOf.unique HDP.out hRR
        rw [HN.out]
        clear hRR
        go_wp2_with fail
        refine (iPV_any (some ⟨g2, 0, none⟩) cv l _ HL.out hV5.row HQ2.out (by omega) HPR.out).mono ?_; rintro e' w6 ⟨rfl, hw6⟩
        have hM6 := blk_next hM5 hw6
        have hO6 := hO5.next hw6
        have hV6 := hV5.next hw6
        have hU6 := hU5.next hw6
        have hB6 := bel_next hB5 hw6
        go_wp2_with fail
        refine (samePlate_is U (some ⟨g, 0, none⟩) cu cp xs HN.out hU6.row hO6.row (by omega)).mono ?_; rintro e' w7 ⟨rfl, hw7⟩
        have hM7 := blk_next hM6 hw7
        have hO7 := hO6.next hw7
        have hV7 := hV6.next hw7
        have hU7 := hU6.next hw7
        have hB7 := bel_next hB6 hw7
        go_wp2
        go_ret
        exact ⟨rfl, hB7⟩

set_option maxRecDepth 100000 in
theorem lifted (os : Os) (started : os.Started) (H : Type) (enc : TypeId × Value → H) :
    ReturnsInHanded {} Try.checked os 5 .any (Rows.fnPlatePutSpec.pre6 enc Try.prog Try.f5 Rows.fnPlatePutRow.domain false) (Rows.fnPlatePutSpec.post enc Try.prog Try.f5 false true false false) := by
  refine returnsInHanded_of_change (C := Try.checked) own started (by kernel_rfl) Try.func5
    (ChangeSpec.witness6 (enc := enc) (C := Try.checked) false ⟨#[], #[.slice none 0 0], []⟩ 8 (by kernel_rfl) (by kernel_rfl) (by kernel_rfl) (by kernel_rfl)) ?_
  intro W base args ds gs before hval0 hW hcnd _
  have hval : ∀ (j : Nat) t v, Try.f5.params[j]? = some t → args[j]? = some v → Value.okWide Try.prog W .any base t v := hval0
  have hW' := hW
  obtain ⟨p, q, hA0, hV, rfl, hfz, hnd⟩ := hW
  have hA : DataW.TrodAll enc Try.prog W 0 (fun _ => true) true Try.f5.params.toList args.toList ds p := hA0
  rw [Try.params5] at hA hval
  obtain ⟨v0, vs0, d0, ds0, p0, q0, hargs, rfl, rfl, h0, r0⟩ := trodAll_cons hA
  obtain ⟨rfl, rfl, rfl⟩ := trodAll_nil r0
  obtain rfl : args = #[v0] := by cases args; simp_all
  obtain ⟨rfl, rfl⟩ := trodVars_none hV
  have k0 := h0
  have lt0 : ∀ x ∈ p0, x.block < W.heap.size := by obtain ⟨m, hm⟩ := k0; exact DataW.trod_lt m _ _ _ hm
  obtain ⟨a0, len0, cap0, rfl⟩ := okWide_slice Try.underlying22 (hval 0 22 v0 rfl rfl)
  have w0 : CodeOk W a0 len0 cap0 := by
    obtain ⟨fuel, hf⟩ := h0
    rcases open_ints Try.underlying22 Try.underlying5 (by kernel_rfl) hf with ⟨hcs, _⟩ | ⟨x, l, c, zs, hcs, _, hl, hm, hz, _, hcell, hwz⟩
    · simp [Value.cells] at hcs
      obtain ⟨rfl, rfl, rfl⟩ := hcs
      exact code_nil W
    · simp [Value.cells] at hcs
      obtain ⟨rfl, rfl, rfl⟩ := hcs
      exact code_ok hl hm (by simp at hz; omega) hcell hwz
  clear hA0 hval0
  refine (walk W a0 len0 cap0 w0).mono fun e W' ⟨he, bel⟩ => ?_
  subst he
  exact ⟨_, rfl, _, _, _, [], _, [], hW', trodAll_mk1 (shut_bool Try.underlying4 _), (trodAll_cons_mk (Below.trod laidOut (by kernel_rfl) (of_decide_eq_true (by kernel_rfl)) k0 bel lt0) trodAll_mk0), rfl, bel.frame _, fun h => by cases h⟩

theorem over : Rows.fnPlatePutRow.holds Try.pinned (OpenSpec.ofChange Rows.fnPlatePutSpec) :=
  OpenClaim.holds_of_wide 5 Try.f5 rfl rfl rfl rfl rfl rfl rfl ⟨rfl, rfl, rfl, rfl, rfl⟩ rfl rfl rfl rfl rfl (by kernel_rfl) Try.func5 (by kernel_rfl)
    (of_decide_eq_true (by kernel_rfl)) (by unfold Func.isWrapper; first | (rw [if_pos (by decide +kernel)]; kernel_rfl) | (rw [if_neg (by decide +kernel)]; exact ⟨rfl, rfl⟩))
    (fun os started H enc _ => lifted os started H enc)

/-- The statement. -/
theorem proved : Rows.FnPlatePutSaid :=
  over
#print axioms proved
end Go.Proofs.Ytidppabconifkab.fnPlatePut
