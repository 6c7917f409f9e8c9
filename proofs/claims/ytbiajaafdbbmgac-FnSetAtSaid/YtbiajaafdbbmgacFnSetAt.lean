/- FnSetAt: whatever the input, the law returns true, and its arguments read as they did. No conditions beyond those of the statement's row. -/
import Derived.Test.YtbiajaafdbbmgacSi
import Derived.Test.YtbiajaafdbbmgacSd
import Derived.Test.YtbiajaafdbbmgacLp
namespace Go.Proofs.Ytbiajaafdbbmgac.fnSetAt
open Go.Proofs.Ytbiajaafdbbmgac
open Go.ChangeShapes Go.WideShapes Go.ChangeAt Go.RowKit Go.Joins
set_option linter.unusedVariables false
set_option linter.unusedSimpArgs false
set_option linter.unnecessarySimpa false

theorem own : ownKnob Try.prog.godebug = none := by kernel_rfl
theorem laidOut : laidOutB Try.prog = true := by kernel_rfl

set_option maxRecDepth 100000 in
set_option maxHeartbeats 4000000 in
theorem walk (w : World) (a0 : Option Addr) (len0 cap0 : Nat) (w0 : CodeOk w a0 len0 cap0) :
    Calls Try.prog 9 #[.slice a0 len0 cap0] w fun e w' => e = .returned (.bool true) ∧ Below w.heap.size w w' := by
  by_cases hl : 1048576 < len0
  · have w0' := w0.2.1
    unfold maxLen at w0'
    clear w0
    go_enter Try.func9, Try.ntmps9
    go_wp2
    go_ret
    exact ⟨rfl, Below.refl _ _⟩
  · have w0' := w0.2.1
    unfold maxLen at w0'
    have hle := w0.1
    have HW := Lib.hid w0
    clear w0
    go_enter Try.func9, Try.ntmps9
    go_wp2_with fail
    refine (drSetAt_any _ _ _ _ HW.out).mono ?_; rintro e w1 ⟨l, t, rfl, l0, l1, t0, t1, hB1⟩
    go_wp2_with fail
    refine (iSet_any _ _ _).mono ?_; rintro e w2 ⟨n, rfl, hn, hw2⟩
    have hB2 := bel_next hB1 hw2
    go_wp2_with fail
    refine (sSet_any _ _ _).mono ?_; rintro e w3 ⟨m, rfl, hm, hw3⟩
    have hB3 := bel_next hB2 hw3
    obtain rfl := hn.unique hm
    clear hm
    have hb := hn.bd
    cases hs : skyB l t
    · have he : n = -1 := by rcases hn with ⟨_, h⟩ | ⟨h, _⟩; exact h; rw [hs] at h; cases h
      subst he
      clear hn
      have HS := Lib.hid hs
      clear hs
      go_wp2_with fail
      refine (sSky_is _ HS.out).mono ?_; rintro e w' ⟨rfl, rfl⟩
      go_wp2_with fail
      refine (alive_any _).mono ?_; rintro e w' ⟨rfl, rfl⟩
      go_wp2
      go_ret
      exact ⟨rfl, hB3⟩
    · have hi : SetIs (posB l t) n := by rcases hn with ⟨h, _⟩ | ⟨_, h⟩; rw [hs] at h; cases h; exact h
      clear hn
      have hday := hi.day hs
      have hup := hi.up hs
      have HS := Lib.hid hs
      have HDAY := Lib.hid hday
      have HUP := Lib.hid hup
      have HI := Lib.hid hi
      clear hs hday hup hi
      go_wp2_with fail
      refine (sSky_is _ HS.out).mono ?_; rintro e w' ⟨rfl, rfl⟩
      go_wp2_with fail
      go_loopw [6] (fun h wr => ∃ k : Int, 0 ≤ k ∧ k ≤ 181 ∧ h = .int .i64 k ∧ Below w.heap.size w wr) (fun h _ => (181 - intOf h).toNat)
      case atStart => exact ⟨0, by omega, by omega, rfl, hB3⟩
      case round =>
        obtain ⟨k, k0, k1, rfl, hB⟩ := hrel
        by_cases hlt : k ≤ 180
        · have hu := upS_bd l t k
          have hp : posB l t k = decide (k ≤ n) := HUP.out k k0 hlt
          have hx : upS l t k = upI l t k := by unfold upS; rw [if_pos HS.out]
          obtain ⟨x, hX⟩ : ∃ z, upS l t k = z := ⟨_, rfl⟩
          have hpx : (decide (0 < x)) = decide (k ≤ n) := by rw [← hX, hx, ← hp]; rfl
          rw [hX] at hu
          clear hp hx
          have HX := Lib.hid hX
          clear hX
          have hcase : (k ≤ n ∧ 0 < x) ∨ (n < k ∧ x ≤ 0) := by
            by_cases g : k ≤ n
            · rw [decide_eq_true g] at hpx; exact .inl ⟨g, of_decide_eq_true hpx⟩
            · rw [decide_eq_false g] at hpx; exact .inr ⟨by omega, by have := of_decide_eq_false hpx; omega⟩
          clear hpx
          rcases hcase with ⟨g1, g2⟩ | ⟨g1, g2⟩
          · have d1 : decide (0 < x) = true := by simpa using g2
            have d2 : decide (k ≤ n) = true := by simpa using g1
            go_wp2_with fail
            refine (iUp_is _ HX.out).mono ?_; rintro e w5 ⟨rfl, hw5⟩
            go_wp2_with fail
            go_roundw
            case rel => exact ⟨k + 1, by omega, by omega, rfl, bel_next hB hw5⟩
            case measure => simp [intOf]; omega
          · have d1 : decide (0 < x) = false := by simp; omega
            have d2 : decide (k ≤ n) = false := by simp; omega
            have d3 : (!decide (0 < x) == decide (k ≤ n)) = false := by rw [d1, d2]; rfl
            go_wp2_with fail
            refine (iUp_is _ HX.out).mono ?_; rintro e w5 ⟨rfl, hw5⟩
            go_wp2_with fail
            go_roundw
            case rel => exact ⟨k + 1, by omega, by omega, rfl, bel_next hB hw5⟩
            case measure => simp [intOf]; omega
        · obtain rfl : k = 181 := by omega
          obtain ⟨d, hd⟩ : ∃ z, dayI l t = z := ⟨_, rfl⟩
          have hday := HDAY.out
          rw [hd] at hday
          have HD := Lib.hid hd
          clear hd
          have hc3 : (n = -1 ∧ d = 0) ∨ (n = 180 ∧ d = 360) ∨ (0 ≤ n ∧ n < 180 ∧ d = 2 * n + 1) := by
            by_cases e1 : n = 180
            · rw [if_pos e1] at hday; omega
            · rw [if_neg e1] at hday
              by_cases e2 : n = -1
              · rw [if_pos e2] at hday; omega
              · rw [if_neg e2] at hday; omega
          clear hday
          rcases hc3 with ⟨rfl, rfl⟩ | ⟨rfl, rfl⟩ | ⟨g0, g1, rfl⟩
          · go_wp2_with fail
            refine (iDayLong_is _ HD.out).mono ?_; rintro e w5 ⟨rfl, hw5⟩
            go_wp2
            go_ret
            exact ⟨rfl, bel_next hB hw5⟩
          · go_wp2_with fail
            refine (iDayLong_is _ HD.out).mono ?_; rintro e w5 ⟨rfl, hw5⟩
            go_wp2
            go_ret
            exact ⟨rfl, bel_next hB hw5⟩
          · have q1 : (n == -1) = false := by rw [beq_eq_false_iff_ne]; omega
            have q2 : (n == 180) = false := by rw [beq_eq_false_iff_ne]; omega
            go_wp2_with fail
            refine (iDayLong_is _ HD.out).mono ?_; rintro e w5 ⟨rfl, hw5⟩
            go_wp2
            go_ret
            exact ⟨rfl, bel_next hB hw5⟩

set_option maxRecDepth 100000 in
theorem lifted (os : Os) (started : os.Started) (H : Type) (enc : TypeId × Value → H) :
    ReturnsInHanded {} Try.checked os 9 .any (Rows.fnSetAtSpec.pre6 enc Try.prog Try.f9 Rows.fnSetAtRow.domain false) (Rows.fnSetAtSpec.post enc Try.prog Try.f9 false true false false) := by
  refine returnsInHanded_of_change (C := Try.checked) own started (by kernel_rfl) Try.func9
    (ChangeSpec.witness6 (enc := enc) (C := Try.checked) false ⟨#[], #[.slice none 0 0], []⟩ 8 (by kernel_rfl) (by kernel_rfl) (by kernel_rfl) (by kernel_rfl)) ?_
  intro W base args ds gs before hval0 hW hcnd _
  have hval : ∀ (j : Nat) t v, Try.f9.params[j]? = some t → args[j]? = some v → Value.okWide Try.prog W .any base t v := hval0
  have hW' := hW
  obtain ⟨p, q, hA0, hV, rfl, hfz, hnd⟩ := hW
  have hA : DataW.TrodAll enc Try.prog W 0 (fun _ => true) true Try.f9.params.toList args.toList ds p := hA0
  rw [Try.params9] at hA hval
  obtain ⟨v0, vs0, d0, ds0, p0, q0, hargs, rfl, rfl, h0, r0⟩ := trodAll_cons hA
  obtain ⟨rfl, rfl, rfl⟩ := trodAll_nil r0
  obtain rfl : args = #[v0] := by cases args; simp_all
  obtain ⟨rfl, rfl⟩ := trodVars_none hV
  have k0 := h0
  have lt0 : ∀ x ∈ p0, x.block < W.heap.size := by obtain ⟨m, hm⟩ := k0; exact DataW.trod_lt m _ _ _ hm
  obtain ⟨a0, len0, cap0, rfl⟩ := okWide_slice Try.underlying22 (hval 0 22 v0 rfl rfl)
  have w0 : CodeOk W a0 len0 cap0 := by
    obtain ⟨fuel, hf⟩ := h0
    rcases open_ints Try.underlying22 Try.underlying5 (by kernel_rfl) hf with ⟨hcs, _⟩ | ⟨x, l, c, zs, hcs, _, hl, hm, hz, _, hcell, hwz⟩
    · simp [Value.cells] at hcs
      obtain ⟨rfl, rfl, rfl⟩ := hcs
      exact code_nil W
    · simp [Value.cells] at hcs
      obtain ⟨rfl, rfl, rfl⟩ := hcs
      exact code_ok hl hm (by simp at hz; omega) hcell hwz
  clear hA0 hval0
  refine (walk W a0 len0 cap0 w0).mono fun e W' ⟨he, bel⟩ => ?_
  subst he
  exact ⟨_, rfl, _, _, _, [], _, [], hW', trodAll_mk1 (shut_bool Try.underlying4 _), (trodAll_cons_mk (Below.trod laidOut (by kernel_rfl) (of_decide_eq_true (by kernel_rfl)) k0 bel lt0) trodAll_mk0), rfl, bel.frame _, fun h => by cases h⟩

theorem over : Rows.fnSetAtRow.holds Try.pinned (OpenSpec.ofChange Rows.fnSetAtSpec) :=
  OpenClaim.holds_of_wide 9 Try.f9 rfl rfl rfl rfl rfl rfl rfl ⟨rfl, rfl, rfl, rfl, rfl⟩ rfl rfl rfl rfl rfl (by kernel_rfl) Try.func9 (by kernel_rfl)
    (of_decide_eq_true (by kernel_rfl)) (by unfold Func.isWrapper; first | (rw [if_pos (by decide +kernel)]; kernel_rfl) | (rw [if_neg (by decide +kernel)]; exact ⟨rfl, rfl⟩))
    (fun os started H enc _ => lifted os started H enc)

/-- The statement. -/
theorem proved : Rows.FnSetAtSaid :=
  over
#print axioms proved
end Go.Proofs.Ytbiajaafdbbmgac.fnSetAt
