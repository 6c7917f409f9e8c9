/- FnExactPlateDrop: whatever the input, the law returns true, and its arguments read as they did. No conditions beyond those of the statement's row. -/
import Derived.Test.YtjdaeijhhnaimaaPh
import Derived.ChangeMaps5
namespace Go.Proofs.Ytjdaeijhhnaimaa.fnExactPlateDrop
open Go.Proofs.Ytjdaeijhhnaimaa
open Go.ChangeShapes Go.WideShapes Go.ChangeAt Go.RowKit Go.Joins
set_option linter.unusedVariables false
set_option linter.unusedSimpArgs false
set_option linter.unnecessarySimpa false

theorem own : ownKnob Try.prog.godebug = none := by kernel_rfl
theorem laidOut : laidOutB Try.prog = true := by kernel_rfl

set_option maxRecDepth 100000 in
set_option maxHeartbeats 4000000 in
theorem walk (w : World) (A0 : Option Addr) (cap0 : Nat) (xs0 : List VMark) (w0 : SRow encMark w A0 xs0) (l0 : xs0.length ≤ maxLen) (q0 : ∀ v ∈ xs0, Wf v.1 ∧ Wf v.2.1 ∧ v.2.2.size ≤ maxLen) (s1 : ByteArray) (w1 : s1.size ≤ maxLen) :
    Calls Try.prog 5 #[.slice A0 xs0.length cap0, .string s1] w fun e w' => e = .returned (.bool true) ∧ Below w.heap.size w w' := by
  have w1' := w1
  unfold maxLen at w1'
  by_cases hl : 1048576 < s1.size
  · clear w1
    go_enter Try.func5, Try.ntmps5
    go_wp2
    go_ret
    exact ⟨rfl, Below.refl _ _⟩
  · have hq : ∀ v ∈ xs0, v.2.2.size ≤ maxLen := fun v hv => (q0 v hv).2.2
    have HQ := Lib.hid hq
    have HQ0 := Lib.hid q0
    clear hq q0
    have hle : s1.size ≤ 1048576 := by omega
    clear w1
    go_enter Try.func5, Try.ntmps5
    go_wp2_with fail
    refine (szMarkS_any A0 cap0 xs0 1048576 _ rfl w0 HQ0.out (by omega) (by omega) l0).mono ?_; rintro e' w1 ⟨r, rfl, hL, hw1⟩
    rcases hL with rfl | ⟨r0, r1, hn⟩
    · go_wp2
      go_ret
      exact ⟨rfl, hw1⟩
    · have hr : ¬ r < 0 := by omega
      have hn2 : xs0.length ≤ 1048576 := by omega
      have hB0 := hw1
      have hA0 := w0.next hw1
      have hz0 := hw1.size
      go_wp2_with fail
      refine (toMarkS_any A0 cap0 xs0 _ hA0 (by omega)).mono ?_; rintro e' w1 ⟨gC, rfl, hgC, hC1, hw1⟩
      have hA1 := hA0.next hw1
      have hB1 := bel_next hB0 hw1
      have hz1 := hw1.size
      go_wp2_with fail
      refine (sPD_any _ _ xs0 s1 _ rfl hC1.row HQ.out (by omega)).mono ?_; rintro e' w2 ⟨Ls, oks, As, cs, rfl, hRs, hS2, hw2⟩
      have hA2 := hA1.next hw2
      have hC2 := hC1.next hw2
      have hB2 := bel_next hB1 hw2
      have hz2 := hw2.size
      have hSlt : ∀ g, As = some ⟨g, 0, none⟩ → g < w2.heap.size := fun g hg => by rcases hS2.form with ⟨e, _⟩ | ⟨g1, e, _, h⟩; rw [e] at hg; cases hg; rw [e] at hg; cases hg; exact h
      go_wp2_with fail
      refine (toMarkS_any A0 cap0 xs0 _ hA2 (by omega)).mono ?_; rintro e' w3 ⟨gD, rfl, hgD, hD3, hw3⟩
      have hA3 := hA2.next hw3
      have hC3 := hC2.next hw3
      have hS3 := hS2.next hw3
      have hB3 := bel_next hB2 hw3
      have hz3 := hw3.size
      have hDlt := hD3.lt
      have zB0 := hB3.size
      go_wp2_with fail
      refine (iPD_any _ _ _ xs0 s1 _ rfl hD3.row HQ.out (by omega)).mono ?_; rintro e' w4 ⟨Li, oki, Ai, ci, rfl, hRi, hI4, hw4⟩
      have hA4 := hA3.next hw4
      have hC4 := hC3.next hw4
      have hS4 := hS3.next hw4
      have hD4 := hD3.next hw4
      have hB4 := bel_next hB3 hw4
      obtain ⟨rfl, rfl⟩ := hRs.unique hRi
      have hlen : Ls.length ≤ 1048576 := by rcases hRs with ⟨_, rfl, _⟩ | ⟨_, rfl, _⟩; simp; have := dropL_len s1 xs0; omega
      clear hRi
      obtain ⟨m, hm⟩ : ∃ m, Ls.length = m := ⟨_, rfl⟩
      rw [hm] at hlen
      have HM := Lib.hid hm
      have HRS := Lib.hid hRs
      rw [HM.out]
      clear hm hRs
      have hz4 := hw4.size
      have hIge : ∀ g, Ai = some ⟨g, 0, none⟩ → w3.heap.size ≤ g := fun g hg => by rcases hI4.form with ⟨e, _⟩ | ⟨g1, e, h, _⟩; rw [e] at hg; cases hg; rw [e] at hg; cases hg; exact h
      go_wp2_with fail
      refine (eqMarkS_same _ _ _ _ Ls HM.out hI4.row hS4.row (by omega)).mono ?_; rintro e' w5 ⟨rfl, hw5⟩
      have hA5 := hA4.next hw5
      have hC5 := hC4.next hw5
      have hS5 := hS4.next hw5
      have hD5 := hD4.next hw5
      have hI5 := hI4.next hw5
      have hB5 := bel_next hB4 hw5
      have hz5 := hw5.size
      go_wp2_with fail
      refine (toMarkS_any A0 cap0 xs0 _ hA5 (by omega)).mono ?_; rintro e' w6 ⟨gE, rfl, hgE, hE6, hw6⟩
      have hA6 := hA5.next hw6
      have hC6 := hC5.next hw6
      have hS6 := hS5.next hw6
      have hD6 := hD5.next hw6
      have hI6 := hI5.next hw6
      have hB6 := bel_next hB5 hw6
      have hz6 := hw6.size
      go_wp2_with fail
      refine (eqMarkS_same _ _ _ _ xs0 rfl hD6.row hE6.row (by omega)).mono ?_; rintro e' w7 ⟨rfl, hw7⟩
      have hA7 := hA6.next hw7
      have hC7 := hC6.next hw7
      have hS7 := hS6.next hw7
      have hD7 := hD6.next hw7
      have hI7 := hI6.next hw7
      have hE7 := hE6.next hw7
      have hB7 := bel_next hB6 hw7
      have hz7 := hw7.size
      go_wp2_with fail
      refine (markMarkS_any w.heap.size _ _ xs0 1 rfl (SOwn.of_blk hD7 (by omega) rfl l0) (by omega) (by omega) (by omega)).mono ?_; rintro e' wM ⟨rfl, hDM, hG⟩
      have hBM : Below w.heap.size w wM := hB7.grown hG hB7.size (fun j hj => by simp [Value.ownBlock] at hj; omega)
      have hIM := hI7.grown_far hG (fun g hg e => by have := hIge g hg; simp [Value.ownBlock] at e; omega)
      have hSM := hS7.grown_far hG (fun g hg e => by have := hSlt g hg; simp [Value.ownBlock] at e; omega)
      have hzM := hG.size
      have hk0 : ¬ (1 + 3 * (xs0.length : Int)) < 0 := by omega
      clear hG hDM
      have hB8 := hBM
      have hI8 := hIM
      have hS8 := hSM
      have hA8 := w0.next hBM
      go_wp2_with fail
      refine (eqMarkS_same _ _ _ _ Ls HM.out hI8.row hS8.row (by omega)).mono ?_; rintro e' w9 ⟨rfl, hw9⟩
      have hA9 := hA8.next hw9
      have hS9 := hS8.next hw9
      have hI9 := hI8.next hw9
      have hB9 := bel_next hB8 hw9
      have hz9 := hw9.size
      go_wp2_with fail
      refine (markMarkS_any w.heap.size _ _ Ls 1 HM.out (hI9.mono (by omega)) (by omega) (by omega) (by omega)).mono ?_; rintro e' wN ⟨rfl, hIN, hG⟩
      have hBN : Below w.heap.size w wN := SOwn.below_grown (hI9.mono (by omega)) hB9 hG
      have hSN := hS9.grown_far hG (fun g hg e => by have := hSlt g hg; rcases hI9.form with ⟨e2, _⟩ | ⟨g1, e2, h, _⟩; rw [e2] at e; simp [Value.ownBlock] at e; rw [e2] at e; simp [Value.ownBlock] at e; have := hIge g1 e2; omega)
      clear hG
      have hB10 := hBN
      have hI10 := hIN
      have hS10 := hSN
      have hA10 := w0.next hBN
      go_wp2_with fail
      refine (heldMarkS_any Ai ci 1 (m := m) hI10.row (by omega) (by omega) (by omega)).mono ?_; rintro e' w11 ⟨rfl, hw11⟩
      have hA11 := hA10.next hw11
      have hS11 := hS10.next hw11
      have hI11 := hI10.next hw11
      have hB11 := bel_next hB10 hw11
      have hk1 : ¬ (1 + 3 * (m : Int)) < 0 := by omega
      go_wp2_with fail
      refine (toMarkS_any A0 cap0 xs0 _ hA11 (by omega)).mono ?_; rintro e' w12 ⟨gF, rfl, hgF, hF12, hw12⟩
      have hA12 := hA11.next hw12
      have hS12 := hS11.next hw12
      have hI12 := hI11.next hw12
      have hB12 := bel_next hB11 hw12
      go_wp2_with fail
      refine (iPD_any _ _ _ xs0 s1 _ rfl hF12.row HQ.out (by omega)).mono ?_; rintro e' w13 ⟨Lh, okh, Ah, ch, rfl, hRh, hH13, hw13⟩
      have hA13 := hA12.next hw13
      have hS13 := hS12.next hw13
      have hI13 := hI12.next hw13
      have hF13 := hF12.next hw13
      have hB13 := bel_next hB12 hw13
      obtain ⟨rfl, rfl⟩ := HRS.out.unique hRh
      rw [HM.out]
      go_wp2_with fail
      refine (eqMarkS_same _ _ _ _ Ls HM.out hH13.row hS13.row (by omega)).mono ?_; rintro e' w14 ⟨rfl, hw14⟩
      have hA14 := hA13.next hw14
      have hS14 := hS13.next hw14
      have hI14 := hI13.next hw14
      have hF14 := hF13.next hw14
      have hH14 := hH13.next hw14
      have hB14 := bel_next hB13 hw14
      go_wp2_with fail
      refine (heldMarkS_any Ai ci 1 (m := m) hI14.row (by omega) (by omega) (by omega)).mono ?_; rintro e' w15 ⟨rfl, hw15⟩
      have hA15 := hA14.next hw15
      have hS15 := hS14.next hw15
      have hI15 := hI14.next hw15
      have hF15 := hF14.next hw15
      have hH15 := hH14.next hw15
      have hB15 := bel_next hB14 hw15
      go_wp2
      go_ret
      exact ⟨rfl, by first | exact hB15 | exact hB15.drew⟩

set_option maxRecDepth 100000 in
theorem lifted (os : Os) (started : os.Started) (H : Type) (enc : TypeId × Value → H) :
    ReturnsInHanded {} Try.checked os 5 .any (Rows.fnExactPlateDropSpec.pre6 enc Try.prog Try.f5 Rows.fnExactPlateDropRow.domain false) (Rows.fnExactPlateDropSpec.post enc Try.prog Try.f5 false true false false) := by
  refine returnsInHanded_of_change (C := Try.checked) own started (by kernel_rfl) Try.func5
    (ChangeSpec.witness6 (enc := enc) (C := Try.checked) false ⟨#[], #[.slice none 0 0, .string ByteArray.empty], []⟩ 8 (by kernel_rfl) (by kernel_rfl) (by kernel_rfl) (by kernel_rfl)) ?_
  intro W base args ds gs before hval0 hW hcnd _
  have hval : ∀ (j : Nat) t v, Try.f5.params[j]? = some t → args[j]? = some v → Value.okWide Try.prog W .any base t v := hval0
  have hW' := hW
  obtain ⟨p, q, hA0, hV, rfl, hfz, hnd⟩ := hW
  have hA : DataW.TrodAll enc Try.prog W 0 (fun _ => true) true Try.f5.params.toList args.toList ds p := hA0
  rw [Try.params5] at hA hval
  obtain ⟨v0, vs0, d0, ds0, p0, q0, hargs, rfl, rfl, h0, r0⟩ := trodAll_cons hA
  obtain ⟨v1, vs1, d1, ds1, p1, q1, rfl, rfl, rfl, h1, r1⟩ := trodAll_cons r0
  obtain ⟨rfl, rfl, rfl⟩ := trodAll_nil r1
  obtain rfl : args = #[v0, v1] := by cases args; simp_all
  obtain ⟨rfl, rfl⟩ := trodVars_none hV
  have k0 := h0
  have lt0 : ∀ x ∈ p0, x.block < W.heap.size := by obtain ⟨m, hm⟩ := k0; exact DataW.trod_lt m _ _ _ hm
  have k1 := h1
  have lt1 : ∀ x ∈ p1, x.block < W.heap.size := by obtain ⟨m, hm⟩ := k1; exact DataW.trod_lt m _ _ _ hm
  obtain ⟨A0, len0, cap0, rfl⟩ := okWide_slice Try.underlying22 (hval 0 22 v0 rfl rfl)
  obtain ⟨xs0, w0, l0, q0, hlen0⟩ : ∃ xs, SRow encMark W A0 xs ∧ xs.length ≤ maxLen ∧ (∀ v ∈ xs, Wf v.1 ∧ Wf v.2.1 ∧ v.2.2.size ≤ maxLen) ∧ xs.length = len0 := by
    obtain ⟨fuel, hf⟩ := h0
    obtain ⟨A, cap, xs, hcs, hl, hr, hq⟩ := openMarkS hf
    simp [Value.cells] at hcs
    obtain ⟨rfl, hn, rfl⟩ := hcs
    exact ⟨xs, hr, hl, hq, hn.symm⟩
  subst hlen0
  obtain ⟨s1, rfl, rfl, rfl, w1⟩ := Go.ChangeMaps.open_string Try.underlying9 (hval 1 9 v1 rfl rfl) h1
  clear hA0 hval0
  refine (walk W A0 cap0 xs0 w0 l0 q0 s1 w1).mono fun e W' ⟨he, bel⟩ => ?_
  subst he
  exact ⟨_, rfl, _, _, _, [], _, [], hW', trodAll_mk1 (shut_bool Try.underlying4 _), (trodAll_cons_mk (Below.trod laidOut (by kernel_rfl) (of_decide_eq_true (by kernel_rfl)) k0 bel lt0) (trodAll_cons_mk (Below.trod laidOut (by kernel_rfl) (of_decide_eq_true (by kernel_rfl)) k1 bel lt1) trodAll_mk0)), rfl, bel.frame _, fun h => by cases h⟩

theorem over : Rows.fnExactPlateDropRow.holds Try.pinned (OpenSpec.ofChange Rows.fnExactPlateDropSpec) :=
  OpenClaim.holds_of_wide 5 Try.f5 rfl rfl rfl rfl rfl rfl rfl ⟨rfl, rfl, rfl, rfl, rfl⟩ rfl rfl rfl rfl rfl (by kernel_rfl) Try.func5 (by kernel_rfl)
    (of_decide_eq_true (by kernel_rfl)) (by unfold Func.isWrapper; first | (rw [if_pos (by decide +kernel)]; kernel_rfl) | (rw [if_neg (by decide +kernel)]; exact ⟨rfl, rfl⟩))
    (fun os started H enc _ => lifted os started H enc)

/-- The statement. -/
theorem proved : Rows.FnExactPlateDropSaid :=
  over
#print axioms proved
end Go.Proofs.Ytjdaeijhhnaimaa.fnExactPlateDrop
