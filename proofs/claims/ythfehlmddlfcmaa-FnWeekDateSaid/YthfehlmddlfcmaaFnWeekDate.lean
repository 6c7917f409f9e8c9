/- FnWeekDate: whatever the input, the law returns true, and its arguments read as they did. No conditions beyond those of the statement's row. -/
import Derived.Test.YthfehlmddlfcmaaDr3
import Derived.Test.YthfehlmddlfcmaaCf
namespace Go.Proofs.Ythfehlmddlfcmaa.fnWeekDate
open Go.Proofs.Ythfehlmddlfcmaa
open Go.ChangeShapes Go.WideShapes Go.ChangeAt Go.RowKit Go.Joins
set_option linter.unusedVariables false
set_option linter.unusedSimpArgs false

theorem own : ownKnob Try.prog.godebug = none := by kernel_rfl
theorem laidOut : laidOutB Try.prog = true := by kernel_rfl

set_option maxRecDepth 100000 in
set_option maxHeartbeats 4000000 in
theorem walk (w : World) (a0 : Option Addr) (len0 cap0 : Nat) (w0 : CodeOk w a0 len0 cap0) :
    Calls Try.prog 14 #[.slice a0 len0 cap0] w fun e w' => e = .returned (.bool true) ∧ Below w.heap.size w w' := by
  by_cases hl : 1048576 < len0
  · have w0' := w0.2.1
    unfold maxLen at w0'
    clear w0
    go_enter Try.func14, Try.ntmps14
    go_wp2
    go_ret
    exact ⟨rfl, Below.refl _ _⟩
  · have w0' := w0.2.1
    unfold maxLen at w0'
    have hle := w0.1
    have HW := Lib.hid w0
    clear w0
    go_enter Try.func14, Try.ntmps14
    go_wp2_with fail
    refine (drWeekDate_any _ _ _ _ HW.out).mono ?_; rintro e w1 ⟨y, k, j, rfl, y0, y1, k0, k1, j0, j1, hB1⟩
    by_cases h : wkOk y k j
    · have hi := wk_in h
      have h7 := fst_7 y
      have HH := Lib.hid (And.intro h (And.intro hi h7))
      clear h hi h7
      go_wp2_with fail
      refine (iWDt_t _ _ _ _ HH.out.1).mono ?_; rintro e w2 ⟨a, b, c, rfl, v2, n2, hw2⟩
      have N2 := Lib.hid n2
      clear n2
      have hB2 := bel_next hB1 hw2
      go_wp2_with fail
      refine (sWDt_t _ _ _ _ HH.out.1).mono ?_; rintro e w3 ⟨a', b', c', rfl, v3, n3, hw3⟩
      obtain ⟨rfl, rfl, rfl⟩ := num_inj v2 v3 (N2.out.trans n3.symm)
      clear n3 v3
      obtain ⟨hD3, hC3⟩ := ownb hw3
      have hB3 := bel_next hB2 hC3
      obtain ⟨d3_0, d3_1, d3_2, d3f_0, d3f_1, d3f_2, d3z⟩ := blk3 hD3
      clear hw2 hw3 hC3 hB2
      go_wp2_with fail
      refine (iWO_t _ _ _ _ v2).mono ?_; rintro e w4 ⟨Y, rfl, q1, q2, q3, q4, hw4⟩
      have hY : Y = y := by
        have g := HH.out.2.1
        exact fst_unique q1 q2 (by rw [N2.out]; omega) (by rw [N2.out]; omega)
      subst hY
      have e1 : (num a b c - fst Y) / 7 + 1 = k := by
        obtain ⟨⟨g1, g2, g3, g4⟩, _⟩ := HH.out
        rw [N2.out]; omega
      have e2 : num a b c % 7 + 1 = j := by
        obtain ⟨⟨g1, g2, g3, g4⟩, _, g7⟩ := HH.out
        rw [N2.out]; omega
      rw [e1]
      have E2 := Lib.hid e2
      clear e1 e2 q1 q2
      obtain ⟨hD4, hC4⟩ := ownb hw4
      have hD4' := blk_next hD3 hC4
      have hB4 := bel_next hB3 hC4
      obtain ⟨d4_0, d4_1, d4_2, d4f_0, d4f_1, d4f_2, d4z⟩ := blk3 hD4'
      go_wp2_with fail
      refine (iWD_t _ _ _ _ v2).mono ?_; rintro e w5 ⟨rfl, hw5⟩
      rw [E2.out]
      have hB5 := bel_next hB4 hw5
      go_wp2
      go_ret
      exact ⟨rfl, hB5⟩
    · have H := Lib.hid h
      clear h
      go_wp2_with fail
      refine (iWDt_f _ _ _ _ H.out).mono ?_; rintro e w2 ⟨rfl, hw2⟩
      go_wp2_with fail
      refine (sWDt_f _ _ _ _ H.out).mono ?_; rintro e w3 ⟨rfl, hw3⟩
      obtain ⟨hH3, hC3⟩ := ownb hw3
      obtain ⟨c3_0, c3_1, c3_2, f3_0, f3_1, f3_2, hz3⟩ := blk3 hH3
      have hB3 := bel_next (bel_next hB1 hw2) hC3
      go_wp2_with fail
      refine (alive_any _).mono ?_; rintro e w' ⟨rfl, rfl⟩
      go_wp2
      go_ret
      exact ⟨rfl, hB3.alloc (by have := hB3.size; omega) _⟩

set_option maxRecDepth 100000 in
theorem lifted (os : Os) (started : os.Started) (H : Type) (enc : TypeId × Value → H) :
    ReturnsInHanded {} Try.checked os 14 .any (Rows.fnWeekDateSpec.pre6 enc Try.prog Try.f14 Rows.fnWeekDateRow.domain false) (Rows.fnWeekDateSpec.post enc Try.prog Try.f14 false true false false) := by
  refine returnsInHanded_of_change (C := Try.checked) own started (by kernel_rfl) Try.func14
    (ChangeSpec.witness6 (enc := enc) (C := Try.checked) false ⟨#[], #[.slice none 0 0], []⟩ 8 (by kernel_rfl) (by kernel_rfl) (by kernel_rfl) (by kernel_rfl)) ?_
  intro W base args ds gs before hval0 hW hcnd _
  have hval : ∀ (j : Nat) t v, Try.f14.params[j]? = some t → args[j]? = some v → Value.okWide Try.prog W .any base t v := hval0
  have hW' := hW
  obtain ⟨p, q, hA0, hV, rfl, hfz, hnd⟩ := hW
  have hA : DataW.TrodAll enc Try.prog W 0 (fun _ => true) true Try.f14.params.toList args.toList ds p := hA0
  rw [Try.params14] at hA hval
  obtain ⟨v0, vs0, d0, ds0, p0, q0, hargs, rfl, rfl, h0, r0⟩ := trodAll_cons hA
  obtain ⟨rfl, rfl, rfl⟩ := trodAll_nil r0
  obtain rfl : args = #[v0] := by cases args; simp_all
  obtain ⟨rfl, rfl⟩ := trodVars_none hV
  have k0 := h0
  have lt0 : ∀ x ∈ p0, x.block < W.heap.size := by obtain ⟨m, hm⟩ := k0; exact DataW.trod_lt m _ _ _ hm
  obtain ⟨a0, len0, cap0, rfl⟩ := okWide_slice Try.underlying22 (hval 0 22 v0 rfl rfl)
  have w0 : CodeOk W a0 len0 cap0 := by
    obtain ⟨fuel, hf⟩ := h0
    rcases open_ints Try.underlying22 Try.underlying5 (by kernel_rfl) hf with ⟨hcs, _⟩ | ⟨x, l, c, zs, hcs, _, hl, hm, hz, _, hcell, hwz⟩
    · simp [Value.cells] at hcs
      obtain ⟨rfl, rfl, rfl⟩ := hcs
      exact code_nil W
    · simp [Value.cells] at hcs
      obtain ⟨rfl, rfl, rfl⟩ := hcs
      exact code_ok hl hm (by simp at hz; omega) hcell hwz
  clear hA0 hval0
  refine (walk W a0 len0 cap0 w0).mono fun e W' ⟨he, bel⟩ => ?_
  subst he
  exact ⟨_, rfl, _, _, _, [], _, [], hW', trodAll_mk1 (shut_bool Try.underlying4 _), (trodAll_cons_mk (Below.trod laidOut (by kernel_rfl) (of_decide_eq_true (by kernel_rfl)) k0 bel lt0) trodAll_mk0), rfl, bel.frame _, fun h => by cases h⟩

theorem over : Rows.fnWeekDateRow.holds Try.pinned (OpenSpec.ofChange Rows.fnWeekDateSpec) :=
  OpenClaim.holds_of_wide 14 Try.f14 rfl rfl rfl rfl rfl rfl rfl ⟨rfl, rfl, rfl, rfl, rfl⟩ rfl rfl rfl rfl rfl (by kernel_rfl) Try.func14 (by kernel_rfl)
    (of_decide_eq_true (by kernel_rfl)) (by unfold Func.isWrapper; first | (rw [if_pos (by decide +kernel)]; kernel_rfl) | (rw [if_neg (by decide +kernel)]; exact ⟨rfl, rfl⟩))
    (fun os started H enc _ => lifted os started H enc)

/-- The statement. -/
theorem proved : Rows.FnWeekDateSaid :=
  over
#print axioms proved
end Go.Proofs.Ythfehlmddlfcmaa.fnWeekDate
