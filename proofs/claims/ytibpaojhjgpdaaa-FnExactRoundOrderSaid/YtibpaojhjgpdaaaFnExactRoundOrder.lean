/- FnExactRoundOrder: whatever the input, the law returns true, and its arguments read as they did. No conditions beyond those of the statement's row. -/
import Derived.Test.YtibpaojhjgpdaaaRo4
import Derived.Test.YtibpaojhjgpdaaaMw
import Derived.Test.YtibpaojhjgpdaaaOpn
namespace Go.Proofs.Ytibpaojhjgpdaaa.fnExactRoundOrder
open Go.Proofs.Ytibpaojhjgpdaaa
open Go.ChangeShapes Go.WideShapes Go.ChangeAt Go.RowKit Go.Joins
set_option linter.unusedVariables false
set_option linter.unusedSimpArgs false
set_option linter.unnecessarySimpa false

theorem own : ownKnob Try.prog.godebug = none := by kernel_rfl
theorem laidOut : laidOutB Try.prog = true := by kernel_rfl
theorem cells0 : Try.prog.cellsOf 68 = 2 := by kernel_rfl
set_option maxRecDepth 100000 in
set_option maxHeartbeats 4000000 in
theorem walk (w : World) (A0 : Option Addr) (cap0 : Nat) (xs0 : List (Int × Int)) (w0 : WRow w A0 xs0) (l0 : xs0.length ≤ maxLen) :
    Calls Try.prog 4 #[.slice A0 xs0.length cap0] w fun e w' => e = .returned (.bool true) ∧ Below w.heap.size w w' := by
  have l0' := l0
  unfold maxLen at l0'
  by_cases hl : xs0.length ≤ 1048576
  · have W0 := Lib.hid w0
    have HX := Lib.hid hl
    clear w0 l0
    go_enter Try.func4, Try.ntmps4
    go_wp2_with fail
    refine (szWayS_t _ _ _ _ HX.out).mono ?_; rintro e w' ⟨rfl, rfl⟩
    go_wp2_with fail
    refine (toWayS_any _ _ _ _ W0.out (by omega)).mono ?_; rintro e w1 ⟨g1, rfl, hg1, hb1, hB1⟩
    go_wp2_with fail
    refine (sRO_any _ _ _ _ hb1.row (by omega)).mono ?_; rintro e w2 ⟨l, As, cs, rfl, hO, hS2, hw2⟩
    have hB2 := bel_next hB1 hw2
    have hS2 := hS2.mono hB1.size
    have h8 := hO.len
    have HL := Lib.hid hO
    obtain ⟨m, hm⟩ : ∃ m, l.length = m := ⟨_, rfl⟩
    have hm2 : (nat l).length = m := by rw [nat_len, hm]
    rw [hm] at h8 ⊢
    have HM := Lib.hid (And.intro hm hm2)
    clear hO hm hm2 hb1 hB1 hw2 hg1
    go_wp2_with fail
    refine (toWayS_any _ _ _ _ (W0.out.next hB2) (by omega)).mono ?_; rintro e w3 ⟨g3, rfl, hg3, hb3, hw3⟩
    have hB3 := bel_next hB2 hw3
    have hS3 := hS2.next hw3
    have hx3 := hb3.lt
    go_wp2_with fail
    refine (iRO_any _ _ _ _ hb3.row (by omega)).mono ?_; rintro e w4 ⟨l', Ai, ci, rfl, hO', hI4, hw4⟩
    obtain rfl := HL.out.unique hO'
    rw [HM.out.1]
    have hb4 := hb3.next hw4
    have hB4 := bel_next hB3 hw4
    have hS4 := hS3.next hw4
    have hsep : (∀ g, Ai = some ⟨g, 0, none⟩ → w3.heap.size ≤ g ∧ g < w4.heap.size) := by
      intro g hg
      rcases hI4.form with ⟨h, _⟩ | ⟨g', h, h1, h2⟩
      · rw [h] at hg; cases hg
      · rw [h] at hg; simp at hg; omega
    have hsep2 : (∀ g, As = some ⟨g, 0, none⟩ → w.heap.size ≤ g ∧ g < w2.heap.size) := by
      intro g hg
      rcases hS2.form with ⟨h, _⟩ | ⟨g', h, h1, h2⟩
      · rw [h] at hg; cases hg
      · rw [h] at hg; simp at hg; omega
    have HP := Lib.hid (And.intro hsep hsep2)
    clear hsep hsep2 hO' hS2 hS3 hb3
    go_wp2_with fail
    refine (eqIntS_len Ai As ci cs (nat l) HM.out.2 hI4.row hS4.row (by omega)).mono ?_; rintro e w5 ⟨rfl, hw5⟩
    have hb5 := hb4.next hw5
    have hI5 := hI4.next hw5
    have hS5 := hS4.next hw5
    have hB5 := bel_next hB4 hw5
    clear hb4 hI4 hS4
    go_wp2_with fail
    refine (toWayS_any _ _ _ _ (W0.out.next hB5) (by omega)).mono ?_; rintro e w6 ⟨g6, rfl, hg6, hb6, hw6⟩
    have hb6' := hb5.next hw6
    have hI6 := hI5.next hw6
    have hS6 := hS5.next hw6
    have hB6 := bel_next hB5 hw6
    clear hb5 hI5 hS5
    go_wp2_with fail
    refine (eqWayS_same _ _ _ _ _ _ hb6'.row hb6.row (by omega)).mono ?_; rintro e w7 ⟨rfl, hw7⟩
    have hb7 := hb6'.next hw7
    have hI7 := hI6.next hw7
    have hS7 := hS6.next hw7
    have hB7 := bel_next hB6 hw7
    clear hb6 hb6' hI6 hS6
    go_wp2_with fail
    refine (markWayS_any g3 _ _ _ hb7 (by omega)).mono ?_; rintro e w8 ⟨rfl, hG8⟩
    have z2 := hB2.size
    have hB8 : Below w.heap.size w w8 := hB7.grown hG8 hB7.size (fun j hj => by simp at hj; omega)
    have hI8 : OwnI w8 w3.heap.size Ai ci (nat l) := hI7.grown_far hG8 (fun g hg e => by have := (HP.out.1 g hg).1; simp at e; omega)
    have hS8 : OwnI w8 w.heap.size As cs (nat l) := hS7.grown_far hG8 (fun g hg e => by have := (HP.out.2 g hg).2; simp at e; omega)
    clear hI7 hS7 hb7 hG8
    go_wp2_with fail
    refine (eqIntS_len Ai As ci cs (nat l) HM.out.2 hI8.row hS8.row (by omega)).mono ?_; rintro e w9 ⟨rfl, hw9⟩
    have hI9 := hI8.next hw9
    have hS9 := hS8.next hw9
    have hB9 := bel_next hB8 hw9
    clear hI8 hS8
    go_wp2_with fail
    refine (markIntS_len _ Ai ci (nat l) HM.out.2 hI9 (by omega)).mono ?_; rintro e w10 ⟨rfl, hI10, hG10⟩
    have hB10 : Below w.heap.size w w10 := hB9.grown hG10 hB9.size (fun j hj => by
      obtain ⟨a, ha, hj⟩ := ownB.1 hj
      rcases hI9.form with ⟨h, _⟩ | ⟨g', h, h1, h2⟩
      · rw [h] at ha; cases ha
      · rw [h] at ha; simp at ha; subst ha; simp at hj; have := hB3.size; omega)
    have hS10 : OwnI w10 w.heap.size As cs (nat l) := hS9.grown_far hG10 (fun g hg e => by
      obtain ⟨a, ha, hj⟩ := ownB.1 e
      have h1 := (HP.out.2 g hg).2
      rcases hI9.form with ⟨h, _⟩ | ⟨g', h, h2, h3⟩
      · rw [h] at ha; cases ha
      · rw [h] at ha; simp at ha; subst ha; simp at hj; have := hw3.size; omega)
    clear hI9 hS9 hG10
    go_wp2_with fail
    refine (heldIntS_any Ai ci m _ hI10.row (by omega)).mono ?_; rintro e w11 ⟨rfl, hw11⟩
    have hI11 := hI10.next hw11
    have hS11 := hS10.next hw11
    have hB11 := bel_next hB10 hw11
    clear hI10 hS10
    go_wp2_with fail
    refine (toWayS_any _ _ _ _ (W0.out.next hB11) (by omega)).mono ?_; rintro e w12 ⟨g12, rfl, hg12, hb12, hw12⟩
    have hI12 := hI11.next hw12
    have hS12 := hS11.next hw12
    have hB12 := bel_next hB11 hw12
    clear hI11 hS11
    go_wp2_with fail
    refine (iRO_any _ _ _ _ hb12.row (by omega)).mono ?_; rintro e w13 ⟨l', Ah, ch, rfl, hO', hH13, hw13⟩
    obtain rfl := HL.out.unique hO'
    rw [HM.out.1]
    have hI13 := hI12.next hw13
    have hS13 := hS12.next hw13
    have hB13 := bel_next hB12 hw13
    clear hI12 hS12 hO' hb12
    go_wp2_with fail
    refine (eqIntS_len Ah As ch cs (nat l) HM.out.2 hH13.row hS13.row (by omega)).mono ?_; rintro e w14 ⟨rfl, hw14⟩
    have hI14 := hI13.next hw14
    have hB14 := bel_next hB13 hw14
    go_wp2_with fail
    refine (heldIntS_any Ai ci m _ hI14.row (by omega)).mono ?_; rintro e w15 ⟨rfl, hw15⟩
    have hB15 := bel_next hB14 hw15
    go_wp2
    go_ret
    exact ⟨rfl, hB15⟩
  · have HX := Lib.hid hl
    have HL := Lib.hid l0'
    clear hl
    go_enter Try.func4, Try.ntmps4
    go_wp2_with fail
    refine (szWayS_f _ _ _ _ HX.out HL.out).mono ?_; rintro e w' ⟨rfl, rfl⟩
    go_wp2
    go_ret
    exact ⟨rfl, Below.refl _ _⟩

set_option maxRecDepth 100000 in
theorem lifted (os : Os) (started : os.Started) (H : Type) (enc : TypeId × Value → H) :
    ReturnsInHanded {} Try.checked os 4 .any (Rows.fnExactRoundOrderSpec.pre6 enc Try.prog Try.f4 Rows.fnExactRoundOrderRow.domain false) (Rows.fnExactRoundOrderSpec.post enc Try.prog Try.f4 false true false false) := by
  refine returnsInHanded_of_change (C := Try.checked) own started (by kernel_rfl) Try.func4
    (ChangeSpec.witness6 (enc := enc) (C := Try.checked) false ⟨#[], #[.slice none 0 0], []⟩ 8 (by kernel_rfl) (by kernel_rfl) (by kernel_rfl) (by kernel_rfl)) ?_
  intro W base args ds gs before hval0 hW hcnd _
  have hval : ∀ (j : Nat) t v, Try.f4.params[j]? = some t → args[j]? = some v → Value.okWide Try.prog W .any base t v := hval0
  have hW' := hW
  obtain ⟨p, q, hA0, hV, rfl, hfz, hnd⟩ := hW
  have hA : DataW.TrodAll enc Try.prog W 0 (fun _ => true) true Try.f4.params.toList args.toList ds p := hA0
  rw [Try.params4] at hA hval
  obtain ⟨v0, vs0, d0, ds0, p0, q0, hargs, rfl, rfl, h0, r0⟩ := trodAll_cons hA
  obtain ⟨rfl, rfl, rfl⟩ := trodAll_nil r0
  obtain rfl : args = #[v0] := by cases args; simp_all
  obtain ⟨rfl, rfl⟩ := trodVars_none hV
  have k0 := h0
  have lt0 : ∀ x ∈ p0, x.block < W.heap.size := by obtain ⟨m, hm⟩ := k0; exact DataW.trod_lt m _ _ _ hm
  obtain ⟨A0, len0, cap0, rfl⟩ := okWide_slice Try.underlying35 (hval 0 35 v0 rfl rfl)
  obtain ⟨xs0, w0, l0, hlen0⟩ : ∃ xs, WRow W A0 xs ∧ xs.length ≤ maxLen ∧ xs.length = len0 := by
    obtain ⟨fuel, hf⟩ := h0
    obtain ⟨A, cap, xs, hcs, hl, hr⟩ := open_pairs Try.underlying35 Try.underlying68 (by kernel_rfl) cells0 Try.underlying3 Try.underlying3 hf
    simp [Value.cells] at hcs
    obtain ⟨rfl, hn, rfl⟩ := hcs
    exact ⟨xs, hr, hl, hn.symm⟩
  subst hlen0
  clear hA0 hval0
  refine (walk W A0 cap0 xs0 w0 l0).mono fun e W' ⟨he, bel⟩ => ?_
  subst he
  exact ⟨_, rfl, _, _, _, [], _, [], hW', trodAll_mk1 (shut_bool Try.underlying4 _), (trodAll_cons_mk (Below.trod laidOut (by kernel_rfl) (of_decide_eq_true (by kernel_rfl)) k0 bel lt0) trodAll_mk0), rfl, bel.frame _, fun h => by cases h⟩

theorem over : Rows.fnExactRoundOrderRow.holds Try.pinned (OpenSpec.ofChange Rows.fnExactRoundOrderSpec) :=
  OpenClaim.holds_of_wide 4 Try.f4 rfl rfl rfl rfl rfl rfl rfl ⟨rfl, rfl, rfl, rfl, rfl⟩ rfl rfl rfl rfl rfl (by kernel_rfl) Try.func4 (by kernel_rfl)
    (of_decide_eq_true (by kernel_rfl)) (by unfold Func.isWrapper; first | (rw [if_pos (by decide +kernel)]; kernel_rfl) | (rw [if_neg (by decide +kernel)]; exact ⟨rfl, rfl⟩))
    (fun os started H enc _ => lifted os started H enc)

/-- The statement. -/
theorem proved : Rows.FnExactRoundOrderSaid :=
  over
#print axioms proved
end Go.Proofs.Ytibpaojhjgpdaaa.fnExactRoundOrder
