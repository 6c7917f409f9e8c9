/- FnDaysLong: whatever the input, the law returns true, and its arguments read as they did. No conditions beyond those of the statement's row. -/
import Derived.Test.YtbiajaafdbbmgadDm
import Derived.Test.YtbiajaafdbbmgadLp
namespace Go.Proofs.Ytbiajaafdbbmgad.fnDaysLong
open Go.Proofs.Ytbiajaafdbbmgad
open Go.ChangeShapes Go.WideShapes Go.ChangeAt Go.RowKit Go.Joins
set_option linter.unusedVariables false
set_option linter.unusedSimpArgs false
set_option linter.unnecessarySimpa false

theorem own : ownKnob Try.prog.godebug = none := by kernel_rfl
theorem laidOut : laidOutB Try.prog = true := by kernel_rfl

set_option maxRecDepth 100000 in
set_option maxHeartbeats 4000000 in
theorem walk (w : World) (a0 : Option Addr) (len0 cap0 : Nat) (w0 : CodeOk w a0 len0 cap0) :
    Calls Try.prog 4 #[.slice a0 len0 cap0] w fun e w' => e = .returned (.bool true) ∧ Below w.heap.size w w' := by
  by_cases hl : 1048576 < len0
  · have w0' := w0.2.1
    unfold maxLen at w0'
    clear w0
    go_enter Try.func4, Try.ntmps4
    go_wp2
    go_ret
    exact ⟨rfl, Below.refl _ _⟩
  · have w0' := w0.2.1
    unfold maxLen at w0'
    have hle := w0.1
    have HW := Lib.hid w0
    clear w0
    go_enter Try.func4, Try.ntmps4
    go_wp2_with fail
    refine (drDaysLong_any _ _ _ _ HW.out).mono ?_; rintro e w1 ⟨l, least, rfl, l0, l1, n0, n1, hB1⟩
    have hlen := daysL_len l least
    have hless := days_less l least
    have hasc := days_asc l least
    have hhas := fun d => @days_has l least d
    obtain ⟨D, hD⟩ : ∃ D, daysL l least = D := ⟨_, rfl⟩
    rw [hD] at hlen hless hasc hhas
    obtain ⟨n, hn⟩ : ∃ n, D.length = n := ⟨_, rfl⟩
    rw [hn] at hlen hless
    have HD := Lib.hid hD
    have HN := Lib.hid hn
    have HA := Lib.hid hasc
    have HH := Lib.hid hhas
    clear hD hn hasc hhas
    go_wp2_with fail
    refine (iDays_any _ _ _).mono ?_; rintro e w2 ⟨A, c2, rfl, hO2, hw2⟩
    rw [HD.out, HN.out]
    rw [HD.out] at hO2
    have hB2 := bel_next hB1 hw2
    go_wp2_with fail
    refine (sDays_any _ _ _).mono ?_; rintro e w3 ⟨S, c3, rfl, hS3, hw3⟩
    rw [HD.out, HN.out]
    rw [HD.out] at hS3
    have hO3 := hO2.next hw3
    have hB3 := bel_next hB2 hw3
    go_wp2_with fail
    rw [← HN.out]
    refine (sameInts_same A S c2 c3 D _ hO3.row hS3.row (by rw [HN.out]; omega)).mono ?_; rintro e w4 ⟨rfl, hw4⟩
    rw [HN.out]
    have hO4 := hO3.next hw4
    have hB4 := bel_next hB3 hw4
    clear hO2 hO3 hS3
    cases hl : latB l
    · have hd0 : D = [] := by rw [← HD.out]; unfold daysL; rw [hl]; rfl
      have hn0 : n = 0 := by rw [← HN.out, hd0]; rfl
      have hl' : l < -90 ∨ (-90 ≤ l ∧ 90 < l) := by unfold latB at hl; simp at hl; omega
      subst hn0
      clear hl hd0
      rcases hl' with g | ⟨g, g2⟩
      all_goals
        go_wp2_with fail
        refine (alive_any _).mono ?_; rintro e w' ⟨rfl, rfl⟩
        go_wp2
        go_ret
        exact ⟨rfl, hB4⟩
    · have hlb : -90 ≤ l ∧ l ≤ 90 := by unfold latB at hl; simpa using hl
      have HL := Lib.hid hl
      clear hl
      go_wp2_with fail
      go_loopw [6] (fun i wr => ∃ k : Int, 1 ≤ k ∧ k ≤ 378 ∧ i = .int .i64 k ∧ OwnI wr w1.heap.size A c2 D ∧ Below w.heap.size w wr) (fun i _ => (378 - intOf i).toNat)
      case atStart => exact ⟨1, by omega, by omega, rfl, hO4, hB4⟩
      case round =>
        clear hO4 hB4
        obtain ⟨k, k0, k1, rfl, hO, hB⟩ := hrel
        by_cases hlt : k ≤ 365
        · have hp := HH.out k HL.out k0 hlt
          obtain ⟨x, hx⟩ : ∃ x, dayI l (tiltI k) = x := ⟨_, rfl⟩
          have hxb := day_bd l (tiltI k)
          rw [hx] at hxb
          have hpx : daysP l least k = decide (least ≤ x) := by unfold daysP; rw [hx]
          rw [hpx] at hp
          have HP := Lib.hid hp
          have HX := Lib.hid hx
          clear hp hx hpx
          by_cases hq : least ≤ x
          · have d1 : decide (least ≤ x) = true := by simp; exact hq
            have HV : Hid (hasB D k = true) := by show _ = _; rw [HP.out]; exact d1
            go_wp2_with fail
            rw [← HN.out]
            refine (hasInt_any A c2 D k _ hO.row (by rw [HN.out]; omega)).mono ?_; rintro e w5 ⟨rfl, hw5⟩
            rw [HN.out, HV.out]
            have hO5 := hO.next hw5
            have hB5 := bel_next hB hw5
            go_wp2_with fail
            refine (iTilt_any _ _).mono ?_; rintro e w' ⟨rfl, rfl⟩
            go_wp2_with fail
            refine (iDayLong_is _ HX.out).mono ?_; rintro e w6 ⟨rfl, hw6⟩
            go_wp2_with fail
            go_roundw
            case rel => exact ⟨k + 13, by omega, by omega, rfl, hO5.next hw6, bel_next hB5 hw6⟩
            case measure => simp [intOf]; omega
          · have d1 : decide (least ≤ x) = false := by simp; omega
            have HV : Hid (hasB D k = false) := by show _ = _; rw [HP.out]; exact d1
            go_wp2_with fail
            rw [← HN.out]
            refine (hasInt_any A c2 D k _ hO.row (by rw [HN.out]; omega)).mono ?_; rintro e w5 ⟨rfl, hw5⟩
            rw [HN.out, HV.out]
            have hO5 := hO.next hw5
            have hB5 := bel_next hB hw5
            go_wp2_with fail
            refine (iTilt_any _ _).mono ?_; rintro e w' ⟨rfl, rfl⟩
            go_wp2_with fail
            refine (iDayLong_is _ HX.out).mono ?_; rintro e w6 ⟨rfl, hw6⟩
            go_wp2_with fail
            go_roundw
            case rel => exact ⟨k + 13, by omega, by omega, rfl, hO5.next hw6, bel_next hB5 hw6⟩
            case measure => simp [intOf]; omega
        · go_wp2_with fail
          refine (iDays_any _ _ _).mono ?_; rintro e w5 ⟨A5, c5, rfl, hO5, hw5⟩
          obtain ⟨m, hm⟩ : ∃ m, (daysL l (least + 20)).length = m := ⟨_, rfl⟩
          rw [hm] at hless ⊢
          clear hm hO5
          have hO6 := hO.next hw5
          have hB6 := bel_next hB hw5
          go_wp2_with fail
          rw [← HN.out]
          refine (ascend_t A c2 D _ hO6.row HA.out (by rw [HN.out]; omega)).mono ?_; rintro e w7 ⟨rfl, hw7⟩
          go_wp2
          go_ret
          exact ⟨rfl, bel_next hB6 hw7⟩

set_option maxRecDepth 100000 in
theorem lifted (os : Os) (started : os.Started) (H : Type) (enc : TypeId × Value → H) :
    ReturnsInHanded {} Try.checked os 4 .any (Rows.fnDaysLongSpec.pre6 enc Try.prog Try.f4 Rows.fnDaysLongRow.domain false) (Rows.fnDaysLongSpec.post enc Try.prog Try.f4 false true false false) := by
  refine returnsInHanded_of_change (C := Try.checked) own started (by kernel_rfl) Try.func4
    (ChangeSpec.witness6 (enc := enc) (C := Try.checked) false ⟨#[], #[.slice none 0 0], []⟩ 8 (by kernel_rfl) (by kernel_rfl) (by kernel_rfl) (by kernel_rfl)) ?_
  intro W base args ds gs before hval0 hW hcnd _
  have hval : ∀ (j : Nat) t v, Try.f4.params[j]? = some t → args[j]? = some v → Value.okWide Try.prog W .any base t v := hval0
  have hW' := hW
  obtain ⟨p, q, hA0, hV, rfl, hfz, hnd⟩ := hW
  have hA : DataW.TrodAll enc Try.prog W 0 (fun _ => true) true Try.f4.params.toList args.toList ds p := hA0
  rw [Try.params4] at hA hval
  obtain ⟨v0, vs0, d0, ds0, p0, q0, hargs, rfl, rfl, h0, r0⟩ := trodAll_cons hA
  obtain ⟨rfl, rfl, rfl⟩ := trodAll_nil r0
  obtain rfl : args = #[v0] := by cases args; simp_all
  obtain ⟨rfl, rfl⟩ := trodVars_none hV
  have k0 := h0
  have lt0 : ∀ x ∈ p0, x.block < W.heap.size := by obtain ⟨m, hm⟩ := k0; exact DataW.trod_lt m _ _ _ hm
  obtain ⟨a0, len0, cap0, rfl⟩ := okWide_slice Try.underlying22 (hval 0 22 v0 rfl rfl)
  have w0 : CodeOk W a0 len0 cap0 := by
    obtain ⟨fuel, hf⟩ := h0
    rcases open_ints Try.underlying22 Try.underlying5 (by kernel_rfl) hf with ⟨hcs, _⟩ | ⟨x, l, c, zs, hcs, _, hl, hm, hz, _, hcell, hwz⟩
    · simp [Value.cells] at hcs
      obtain ⟨rfl, rfl, rfl⟩ := hcs
      exact code_nil W
    · simp [Value.cells] at hcs
      obtain ⟨rfl, rfl, rfl⟩ := hcs
      exact code_ok hl hm (by simp at hz; omega) hcell hwz
  clear hA0 hval0
  refine (walk W a0 len0 cap0 w0).mono fun e W' ⟨he, bel⟩ => ?_
  subst he
  exact ⟨_, rfl, _, _, _, [], _, [], hW', trodAll_mk1 (shut_bool Try.underlying4 _), (trodAll_cons_mk (Below.trod laidOut (by kernel_rfl) (of_decide_eq_true (by kernel_rfl)) k0 bel lt0) trodAll_mk0), rfl, bel.frame _, fun h => by cases h⟩

theorem over : Rows.fnDaysLongRow.holds Try.pinned (OpenSpec.ofChange Rows.fnDaysLongSpec) :=
  OpenClaim.holds_of_wide 4 Try.f4 rfl rfl rfl rfl rfl rfl rfl ⟨rfl, rfl, rfl, rfl, rfl⟩ rfl rfl rfl rfl rfl (by kernel_rfl) Try.func4 (by kernel_rfl)
    (of_decide_eq_true (by kernel_rfl)) (by unfold Func.isWrapper; first | (rw [if_pos (by decide +kernel)]; kernel_rfl) | (rw [if_neg (by decide +kernel)]; exact ⟨rfl, rfl⟩))
    (fun os started H enc _ => lifted os started H enc)

/-- The statement. -/
theorem proved : Rows.FnDaysLongSaid :=
  over
#print axioms proved
end Go.Proofs.Ytbiajaafdbbmgad.fnDaysLong
