/- FnHousesAt: whatever the input, the law returns true, and its arguments read as they did. No conditions beyond those of the statement's row. -/
import Derived.Test.YtifnengegbiijabDk
import Derived.Test.YtifnengegbiijabKp
import Derived.Test.YtifnengegbiijabKf
import Derived.Test.YtifnengegbiijabLp
namespace Go.Proofs.Ytifnengegbiijab.fnHousesAt
open Go.Proofs.Ytifnengegbiijab
open Go.ChangeShapes Go.WideShapes Go.ChangeAt Go.RowKit Go.Joins
set_option linter.unusedVariables false
set_option linter.unusedSimpArgs false
set_option linter.unnecessarySimpa false

theorem own : ownKnob Try.prog.godebug = none := by kernel_rfl
theorem laidOut : laidOutB Try.prog = true := by kernel_rfl

set_option maxRecDepth 100000 in
set_option maxHeartbeats 4000000 in
theorem walk (w : World) (a0 : Option Addr) (len0 cap0 : Nat) (w0 : CodeOk w a0 len0 cap0) :
    Calls Try.prog 5 #[.slice a0 len0 cap0] w fun e w' => e = .returned (.bool true) ∧ Below w.heap.size w w' := by
  by_cases hl : 1048576 < len0
  · have w0' := w0.2.1
    unfold maxLen at w0'
    clear w0
    go_enter Try.func5, Try.ntmps5
    go_wp2
    go_ret
    exact ⟨rfl, Below.refl _ _⟩
  · have w0' := w0.2.1
    unfold maxLen at w0'
    have hle := w0.1
    have HW := Lib.hid w0
    clear w0
    go_enter Try.func5, Try.ntmps5
    go_wp2_with fail
    refine (drHousesAt_any _ _ _ _ HW.out).mono ?_; rintro e w1 ⟨xs, A, cp, p, rfl, hx6, hp, hO1, hB1⟩
    obtain ⟨m, hm⟩ : ∃ m, xs.length = m := ⟨_, rfl⟩
    rw [hm] at hx6 ⊢
    have HM := Lib.hid hm
    clear hm
    obtain ⟨v, hv⟩ : ∃ v, haI xs p = v := ⟨_, rfl⟩
    have HV := Lib.hid hv
    cases ho : hsB xs
    · obtain rfl : v = 0 := by rw [← hv]; unfold haI; rw [ho]; rfl
      have HY := Lib.hid ho
      clear hv ho
      go_wp2_with fail
      refine (iHa_is A cp xs _ HM.out hO1.row (by omega) HV.out).mono ?_; rintro e w2 ⟨rfl, hw2⟩
      have hO2 := hO1.next hw2
      have hB2 := bel_next hB1 hw2
      go_wp2_with fail
      refine (sHa_is A cp xs _ HM.out hO2.row (by omega) HV.out).mono ?_; rintro e w3 ⟨rfl, hw3⟩
      have hO3 := hO2.next hw3
      have hB3 := bel_next hB2 hw3
      go_wp2_with fail
      refine (sHs_is A cp xs _ HM.out hO3.row (by omega) HY.out).mono ?_; rintro e w4 ⟨rfl, hw4⟩
      have hO4 := hO3.next hw4
      have hB4 := bel_next hB3 hw4
      go_wp2_with fail
      refine (alive_any _).mono ?_; rintro e w' ⟨rfl, rfl⟩
      go_wp2
      go_ret
      exact ⟨rfl, hB4⟩
    · by_cases hv0 : v = 0
      · have HV0 := Lib.hid hv0
        have hvb : (v == 0) = true := by rw [beq_iff_eq]; exact hv0
        clear hv0
        have HY := Lib.hid ho
        clear hv ho
        obtain ⟨q0, hq0⟩ : ∃ q, sbB xs p v 0 = q := ⟨_, rfl⟩
        have hz := (sb_zero xs p v).symm.trans hq0
        have HZ := Lib.hid hz
        have HQ0 := Lib.hid hq0
        clear hz hq0
        go_wp2_with fail
        refine (iHa_is A cp xs _ HM.out hO1.row (by omega) HV.out).mono ?_; rintro e w2 ⟨rfl, hw2⟩
        have hO2 := hO1.next hw2
        have hB2 := bel_next hB1 hw2
        go_wp2_with fail
        refine (sHa_is A cp xs _ HM.out hO2.row (by omega) HV.out).mono ?_; rintro e w3 ⟨rfl, hw3⟩
        have hO3 := hO2.next hw3
        have hB3 := bel_next hB2 hw3
        go_wp2_with fail
        refine (sHs_is A cp xs _ HM.out hO3.row (by omega) HY.out).mono ?_; rintro e w4 ⟨rfl, hw4⟩
        have hO4 := hO3.next hw4
        have hB4 := bel_next hB3 hw4
        go_wp2_with fail
        go_loopw [6, 7] (fun s i wr => ∃ k : Nat, i = .int .i64 k ∧ k ≤ m ∧ s = .bool (sbB xs p v k) ∧ SOwn encHouse wr w.heap.size 35 A cp xs ∧ Below w.heap.size w wr) (fun _ i _ => (m - intOf i).toNat)
        case atStart => exact ⟨0, rfl, by omega, by rw [sb_zero]; simp [HV0.out], hO4.mono (by omega), hB4⟩
        case round =>
          obtain ⟨k, rfl, k1, rfl, hO, hB⟩ := hrel
          by_cases hlt : k < m
          · have hk : k < xs.length := by rw [HM.out]; exact hlt
            have hki : (k : Int) < (m : Int) := by omega
            obtain ⟨b, off, rfl, hb, c0, c1, c2⟩ := rowHouse hO.row hk
            have HI0 := Lib.hid (fun h1 h2 => sb_in (xs := xs) (p := p) (t := v) hk h1 h2)
            have HO0 := Lib.hid (fun h => sb_out (xs := xs) (p := p) (t := v) hk h)
            have HG := Lib.hid (fun h1 h2 => ha_ge HY.out (p := p) hk h1 h2)
            have hVv := HV.out
            rw [hVv] at HG
            clear hVv
            revert c0 c1 c2 HI0 HO0 HG
            generalize xs[k].1 = f
            generalize xs[k].2.1 = t
            generalize xs[k].2.2 = u
            generalize sbB xs p v k = s
            intro c0 c1 c2 HI0 HO0 HG
            by_cases h1 : f ≤ p
            · by_cases h2 : p < t
              · have hug := HG.out h1 h2
                have hng : ¬ u > v := by omega
                have e := HI0.out h1 h2
                have HE := Lib.hid e
                clear e HI0 HO0 HG hug
                cases s
                · by_cases huv : u = v
                  · subst huv
                    have hd : decide (u = u) = true := by simp
                    have HD := Lib.hid hd
                    clear hd
                    go_wp2_with fail
                    go_roundw
                    case rel => exact ⟨k + 1, by go_num, by omega, by rw [HE.out]; simp, hO.alloc _, hB.alloc hB.size _⟩
                    case measure => simp [intOf]; omega
                  · have hb0 : (u == v) = false := by rw [beq_eq_false_iff_ne]; exact huv
                    go_wp2_with fail
                    go_roundw
                    case rel => exact ⟨k + 1, by go_num, by omega, by rw [HE.out]; simp [huv], hO.alloc _, hB.alloc hB.size _⟩
                    case measure => simp [intOf]; omega
                · go_wp2_with fail
                  go_roundw
                  case rel => exact ⟨k + 1, by go_num, by omega, by rw [HE.out]; rfl, hO.alloc _, hB.alloc hB.size _⟩
                  case measure => simp [intOf]; omega
              · have e := HO0.out (fun c => h2 c.2)
                have HE := Lib.hid e
                clear e HI0 HO0 HG
                go_wp2_with fail
                go_roundw
                case rel => exact ⟨k + 1, by go_num, by omega, by rw [HE.out], hO.alloc _, hB.alloc hB.size _⟩
                case measure => simp [intOf]; omega
            · have e := HO0.out (fun c => h1 c.1)
              have HE := Lib.hid e
              clear e HI0 HO0 HG
              go_wp2_with fail
              go_roundw
              case rel => exact ⟨k + 1, by go_num, by omega, by rw [HE.out], hO.alloc _, hB.alloc hB.size _⟩
              case measure => simp [intOf]; omega
          · have hki : ¬ (k : Int) < (m : Int) := by omega
            have e := sb_end HY.out p HM.out (by omega : m ≤ k)
            rw [HV.out] at e
            have HE := Lib.hid e
            clear e
            rw [HE.out]
            go_wp2_with fail
            go_ret
            exact ⟨rfl, hB⟩
      · have HV0 := Lib.hid hv0
        have hvb : (v == 0) = false := by rw [beq_eq_false_iff_ne]; exact hv0
        clear hv0
        have HY := Lib.hid ho
        clear hv ho
        obtain ⟨q0, hq0⟩ : ∃ q, sbB xs p v 0 = q := ⟨_, rfl⟩
        have hz := (sb_zero xs p v).symm.trans hq0
        have HZ := Lib.hid hz
        have HQ0 := Lib.hid hq0
        clear hz hq0
        go_wp2_with fail
        refine (iHa_is A cp xs _ HM.out hO1.row (by omega) HV.out).mono ?_; rintro e w2 ⟨rfl, hw2⟩
        have hO2 := hO1.next hw2
        have hB2 := bel_next hB1 hw2
        go_wp2_with fail
        refine (sHa_is A cp xs _ HM.out hO2.row (by omega) HV.out).mono ?_; rintro e w3 ⟨rfl, hw3⟩
        have hO3 := hO2.next hw3
        have hB3 := bel_next hB2 hw3
        go_wp2_with fail
        refine (sHs_is A cp xs _ HM.out hO3.row (by omega) HY.out).mono ?_; rintro e w4 ⟨rfl, hw4⟩
        have hO4 := hO3.next hw4
        have hB4 := bel_next hB3 hw4
        go_wp2_with fail
        go_loopw [6, 7] (fun s i wr => ∃ k : Nat, i = .int .i64 k ∧ k ≤ m ∧ s = .bool (sbB xs p v k) ∧ SOwn encHouse wr w.heap.size 35 A cp xs ∧ Below w.heap.size w wr) (fun _ i _ => (m - intOf i).toNat)
        case atStart => exact ⟨0, rfl, by omega, by rw [sb_zero]; simp [HV0.out], hO4.mono (by omega), hB4⟩
        case round =>
          obtain ⟨k, rfl, k1, rfl, hO, hB⟩ := hrel
          by_cases hlt : k < m
          · have hk : k < xs.length := by rw [HM.out]; exact hlt
            have hki : (k : Int) < (m : Int) := by omega
            obtain ⟨b, off, rfl, hb, c0, c1, c2⟩ := rowHouse hO.row hk
            have HI0 := Lib.hid (fun h1 h2 => sb_in (xs := xs) (p := p) (t := v) hk h1 h2)
            have HO0 := Lib.hid (fun h => sb_out (xs := xs) (p := p) (t := v) hk h)
            have HG := Lib.hid (fun h1 h2 => ha_ge HY.out (p := p) hk h1 h2)
            have hVv := HV.out
            rw [hVv] at HG
            clear hVv
            revert c0 c1 c2 HI0 HO0 HG
            generalize xs[k].1 = f
            generalize xs[k].2.1 = t
            generalize xs[k].2.2 = u
            generalize sbB xs p v k = s
            intro c0 c1 c2 HI0 HO0 HG
            by_cases h1 : f ≤ p
            · by_cases h2 : p < t
              · have hug := HG.out h1 h2
                have hng : ¬ u > v := by omega
                have e := HI0.out h1 h2
                have HE := Lib.hid e
                clear e HI0 HO0 HG hug
                cases s
                · by_cases huv : u = v
                  · subst huv
                    have hd : decide (u = u) = true := by simp
                    have HD := Lib.hid hd
                    clear hd
                    go_wp2_with fail
                    go_roundw
                    case rel => exact ⟨k + 1, by go_num, by omega, by rw [HE.out]; simp, hO.alloc _, hB.alloc hB.size _⟩
                    case measure => simp [intOf]; omega
                  · have hb0 : (u == v) = false := by rw [beq_eq_false_iff_ne]; exact huv
                    go_wp2_with fail
                    go_roundw
                    case rel => exact ⟨k + 1, by go_num, by omega, by rw [HE.out]; simp [huv], hO.alloc _, hB.alloc hB.size _⟩
                    case measure => simp [intOf]; omega
                · go_wp2_with fail
                  go_roundw
                  case rel => exact ⟨k + 1, by go_num, by omega, by rw [HE.out]; rfl, hO.alloc _, hB.alloc hB.size _⟩
                  case measure => simp [intOf]; omega
              · have e := HO0.out (fun c => h2 c.2)
                have HE := Lib.hid e
                clear e HI0 HO0 HG
                go_wp2_with fail
                go_roundw
                case rel => exact ⟨k + 1, by go_num, by omega, by rw [HE.out], hO.alloc _, hB.alloc hB.size _⟩
                case measure => simp [intOf]; omega
            · have e := HO0.out (fun c => h1 c.1)
              have HE := Lib.hid e
              clear e HI0 HO0 HG
              go_wp2_with fail
              go_roundw
              case rel => exact ⟨k + 1, by go_num, by omega, by rw [HE.out], hO.alloc _, hB.alloc hB.size _⟩
              case measure => simp [intOf]; omega
          · have hki : ¬ (k : Int) < (m : Int) := by omega
            have e := sb_end HY.out p HM.out (by omega : m ≤ k)
            rw [HV.out] at e
            have HE := Lib.hid e
            clear e
            rw [HE.out]
            go_wp2_with fail
            go_ret
            exact ⟨rfl, hB⟩

set_option maxRecDepth 100000 in
theorem lifted (os : Os) (started : os.Started) (H : Type) (enc : TypeId × Value → H) :
    ReturnsInHanded {} Try.checked os 5 .any (Rows.fnHousesAtSpec.pre6 enc Try.prog Try.f5 Rows.fnHousesAtRow.domain false) (Rows.fnHousesAtSpec.post enc Try.prog Try.f5 false true false false) := by
  refine returnsInHanded_of_change (C := Try.checked) own started (by kernel_rfl) Try.func5
    (ChangeSpec.witness6 (enc := enc) (C := Try.checked) false ⟨#[], #[.slice none 0 0], []⟩ 8 (by kernel_rfl) (by kernel_rfl) (by kernel_rfl) (by kernel_rfl)) ?_
  intro W base args ds gs before hval0 hW hcnd _
  have hval : ∀ (j : Nat) t v, Try.f5.params[j]? = some t → args[j]? = some v → Value.okWide Try.prog W .any base t v := hval0
  have hW' := hW
  obtain ⟨p, q, hA0, hV, rfl, hfz, hnd⟩ := hW
  have hA : DataW.TrodAll enc Try.prog W 0 (fun _ => true) true Try.f5.params.toList args.toList ds p := hA0
  rw [Try.params5] at hA hval
  obtain ⟨v0, vs0, d0, ds0, p0, q0, hargs, rfl, rfl, h0, r0⟩ := trodAll_cons hA
  obtain ⟨rfl, rfl, rfl⟩ := trodAll_nil r0
  obtain rfl : args = #[v0] := by cases args; simp_all
  obtain ⟨rfl, rfl⟩ := trodVars_none hV
  have k0 := h0
  have lt0 : ∀ x ∈ p0, x.block < W.heap.size := by obtain ⟨m, hm⟩ := k0; exact DataW.trod_lt m _ _ _ hm
  obtain ⟨a0, len0, cap0, rfl⟩ := okWide_slice Try.underlying22 (hval 0 22 v0 rfl rfl)
  have w0 : CodeOk W a0 len0 cap0 := by
    obtain ⟨fuel, hf⟩ := h0
    rcases open_ints Try.underlying22 Try.underlying5 (by kernel_rfl) hf with ⟨hcs, _⟩ | ⟨x, l, c, zs, hcs, _, hl, hm, hz, _, hcell, hwz⟩
    · simp [Value.cells] at hcs
      obtain ⟨rfl, rfl, rfl⟩ := hcs
      exact code_nil W
    · simp [Value.cells] at hcs
      obtain ⟨rfl, rfl, rfl⟩ := hcs
      exact code_ok hl hm (by simp at hz; omega) hcell hwz
  clear hA0 hval0
  refine (walk W a0 len0 cap0 w0).mono fun e W' ⟨he, bel⟩ => ?_
  subst he
  exact ⟨_, rfl, _, _, _, [], _, [], hW', trodAll_mk1 (shut_bool Try.underlying4 _), (trodAll_cons_mk (Below.trod laidOut (by kernel_rfl) (of_decide_eq_true (by kernel_rfl)) k0 bel lt0) trodAll_mk0), rfl, bel.frame _, fun h => by cases h⟩

theorem over : Rows.fnHousesAtRow.holds Try.pinned (OpenSpec.ofChange Rows.fnHousesAtSpec) :=
  OpenClaim.holds_of_wide 5 Try.f5 rfl rfl rfl rfl rfl rfl rfl ⟨rfl, rfl, rfl, rfl, rfl⟩ rfl rfl rfl rfl rfl (by kernel_rfl) Try.func5 (by kernel_rfl)
    (of_decide_eq_true (by kernel_rfl)) (by unfold Func.isWrapper; first | (rw [if_pos (by decide +kernel)]; kernel_rfl) | (rw [if_neg (by decide +kernel)]; exact ⟨rfl, rfl⟩))
    (fun os started H enc _ => lifted os started H enc)

/-- The statement. -/
theorem proved : Rows.FnHousesAtSaid :=
  over
#print axioms proved
end Go.Proofs.Ytifnengegbiijab.fnHousesAt
