/- FnYearLong: whatever the input, the law returns true, and its arguments read as they did. No conditions beyond those of the statement's row. -/
import Derived.Test.YthfehlmddlfcmaaDr1
import Derived.Test.YthfehlmddlfcmaaCb
import Derived.Test.YthfehlmddlfcmaaCal4
namespace Go.Proofs.Ythfehlmddlfcmaa.fnYearLong
open Go.Proofs.Ythfehlmddlfcmaa
open Go.ChangeShapes Go.WideShapes Go.ChangeAt Go.RowKit Go.Joins
set_option linter.unusedVariables false
set_option linter.unusedSimpArgs false

theorem own : ownKnob Try.prog.godebug = none := by kernel_rfl
theorem laidOut : laidOutB Try.prog = true := by kernel_rfl

set_option maxRecDepth 100000 in
set_option maxHeartbeats 4000000 in
theorem walk (w : World) (a0 : Option Addr) (len0 cap0 : Nat) (w0 : CodeOk w a0 len0 cap0) :
    Calls Try.prog 4 #[.slice a0 len0 cap0] w fun e w' => e = .returned (.bool true) ∧ Below w.heap.size w w' := by
  by_cases hl : 1048576 < len0
  · have w0' := w0.2.1
    unfold maxLen at w0'
    clear w0
    go_enter Try.func4, Try.ntmps4
    go_wp2
    go_ret
    exact ⟨rfl, Below.refl _ _⟩
  · have w0' := w0.2.1
    unfold maxLen at w0'
    have hle := w0.1
    have HW := Lib.hid w0
    clear w0
    go_enter Try.func4, Try.ntmps4
    go_wp2_with fail
    refine (drYearLong_any _ _ _ _ HW.out).mono ?_; rintro e w1 ⟨y, rfl, y0, y1, hB1⟩
    by_cases hy : 1 ≤ y ∧ y ≤ 4000
    · have hs := dby_succ y hy.1 hy.2
      have hyl : yl y = 365 + (if leapB y = true then 1 else 0) := by unfold yl; rw [if_pos hy]; split <;> rfl
      have hyl0 : 365 ≤ yl y ∧ yl y ≤ 366 := by rw [hyl]; split <;> omega
      have HS := Lib.hid (And.intro hs hyl)
      have v1 := val_jan1 hy.1 hy.2
      obtain ⟨h1, h2⟩ := hy
      have hd := dby_bd y (by omega) (by omega)
      have hd' := dby_bd (y + 1) (by omega) (by omega)
      have e0 : (yl y == 0) = false := by rw [beq_eq_false_iff_ne]; omega
      clear hs hyl
      go_wp2_with fail
      refine (iYL_any _ _).mono ?_; rintro e w' ⟨rfl, rfl⟩
      go_wp2_with fail
      refine (sYL_any _ _).mono ?_; rintro e w' ⟨rfl, rfl⟩
      go_wp2_with fail
      go_loop [5, 6] (fun s b => ∃ k : Int, 1 ≤ k ∧ k ≤ 13 ∧ b = .int .i64 k ∧ s = .int .i64 (cum k (leapB y))) (fun _ b => (13 - intOf b).toNat)
      case atStart => exact ⟨1, by omega, by omega, rfl, rfl⟩
      case round =>
        obtain ⟨k, k0, k1, rfl, rfl⟩ := hrel
        by_cases hk : k ≤ 12
        · have cb := cum_bd k (leapB y) k0 hk
          have db := ml_le y k
          have he := Lib.hid (show ml y k = dim k (leapB y) by rw [ml, if_pos ⟨h1, h2⟩])
          have hs := Lib.hid (cum_succ k (leapB y) k0 hk)
          go_wp2_with (go_at_call 27; refine (iML_any _ _ _).mono ?_; rintro e w' ⟨rfl, rfl⟩)
          go_round
          case rel => exact ⟨k + 1, by omega, by omega, rfl, congrArg (Value.int .i64) (by have e1 := he.out; have e2 := hs.out; omega)⟩
          case measure => simp [intOf]; omega
        · obtain rfl : k = 13 := by omega
          have hc : cum 13 (leapB y) = yl y := by rw [cum_13, HS.out.2]
          have e1 := Lib.hid (num_jan1 y)
          rw [hc]
          clear hk hc
          go_wp2_with fail
          refine (iDN_t _ _ _ _ v1).mono ?_; rintro e w2 ⟨rfl, hw2⟩
          have hB2 := bel_next hB1 hw2
          rw [e1.out]
          by_cases hn : y + 1 ≤ 4000
          · have v2 := val_jan1 (y := y + 1) (by omega) hn
            have e2 := Lib.hid (num_jan1 (y + 1))
            have e3 : ((dby (y + 1) - dby y : Int) == yl y) = true := by rw [beq_iff_eq]; have := HS.out.1; have := HS.out.2; omega
            go_wp2_with fail
            refine (iDN_t _ _ _ _ v2).mono ?_; rintro e w3 ⟨rfl, hw3⟩
            rw [e2.out]
            go_wp2
            all_goals go_ret
            all_goals exact ⟨ret_bool (by first | rfl | simpa using e3), bel_next hB2 hw3⟩
          · have v2 : valB (y + 1) 1 1 = false := by
              rw [Bool.eq_false_iff]; intro h; have := valB_in h; omega
            go_wp2_with fail
            refine (iDN_f _ _ _ _ v2).mono ?_; rintro e w3 ⟨rfl, hw3⟩
            go_wp2
            go_ret
            exact ⟨rfl, bel_next hB2 hw3⟩
    · have hyl : yl y = 0 := by rw [yl, if_neg hy]
      have v2 : valB y 1 1 = false := by
        rw [Bool.eq_false_iff]; intro h; have := valB_in h; omega
      clear hy
      go_wp2_with fail
      refine (iYL_any _ _).mono ?_; rintro e w' ⟨rfl, rfl⟩
      go_wp2_with fail
      refine (sYL_any _ _).mono ?_; rintro e w' ⟨rfl, rfl⟩
      go_wp2_with fail
      refine (sDV_any _ _ _ _).mono ?_; rintro e w2 ⟨rfl, hw2⟩
      go_wp2_with fail
      refine (alive_any _).mono ?_; rintro e w' ⟨rfl, rfl⟩
      go_wp2
      go_ret
      exact ⟨rfl, bel_next hB1 hw2⟩

set_option maxRecDepth 100000 in
theorem lifted (os : Os) (started : os.Started) (H : Type) (enc : TypeId × Value → H) :
    ReturnsInHanded {} Try.checked os 4 .any (Rows.fnYearLongSpec.pre6 enc Try.prog Try.f4 Rows.fnYearLongRow.domain false) (Rows.fnYearLongSpec.post enc Try.prog Try.f4 false true false false) := by
  refine returnsInHanded_of_change (C := Try.checked) own started (by kernel_rfl) Try.func4
    (ChangeSpec.witness6 (enc := enc) (C := Try.checked) false ⟨#[], #[.slice none 0 0], []⟩ 8 (by kernel_rfl) (by kernel_rfl) (by kernel_rfl) (by kernel_rfl)) ?_
  intro W base args ds gs before hval0 hW hcnd _
  have hval : ∀ (j : Nat) t v, Try.f4.params[j]? = some t → args[j]? = some v → Value.okWide Try.prog W .any base t v := hval0
  have hW' := hW
  obtain ⟨p, q, hA0, hV, rfl, hfz, hnd⟩ := hW
  have hA : DataW.TrodAll enc Try.prog W 0 (fun _ => true) true Try.f4.params.toList args.toList ds p := hA0
  rw [Try.params4] at hA hval
  obtain ⟨v0, vs0, d0, ds0, p0, q0, hargs, rfl, rfl, h0, r0⟩ := trodAll_cons hA
  obtain ⟨rfl, rfl, rfl⟩ := trodAll_nil r0
  obtain rfl : args = #[v0] := by cases args; simp_all
  obtain ⟨rfl, rfl⟩ := trodVars_none hV
  have k0 := h0
  have lt0 : ∀ x ∈ p0, x.block < W.heap.size := by obtain ⟨m, hm⟩ := k0; exact DataW.trod_lt m _ _ _ hm
  obtain ⟨a0, len0, cap0, rfl⟩ := okWide_slice Try.underlying22 (hval 0 22 v0 rfl rfl)
  have w0 : CodeOk W a0 len0 cap0 := by
    obtain ⟨fuel, hf⟩ := h0
    rcases open_ints Try.underlying22 Try.underlying5 (by kernel_rfl) hf with ⟨hcs, _⟩ | ⟨x, l, c, zs, hcs, _, hl, hm, hz, _, hcell, hwz⟩
    · simp [Value.cells] at hcs
      obtain ⟨rfl, rfl, rfl⟩ := hcs
      exact code_nil W
    · simp [Value.cells] at hcs
      obtain ⟨rfl, rfl, rfl⟩ := hcs
      exact code_ok hl hm (by simp at hz; omega) hcell hwz
  clear hA0 hval0
  refine (walk W a0 len0 cap0 w0).mono fun e W' ⟨he, bel⟩ => ?_
  subst he
  exact ⟨_, rfl, _, _, _, [], _, [], hW', trodAll_mk1 (shut_bool Try.underlying4 _), (trodAll_cons_mk (Below.trod laidOut (by kernel_rfl) (of_decide_eq_true (by kernel_rfl)) k0 bel lt0) trodAll_mk0), rfl, bel.frame _, fun h => by cases h⟩

theorem over : Rows.fnYearLongRow.holds Try.pinned (OpenSpec.ofChange Rows.fnYearLongSpec) :=
  OpenClaim.holds_of_wide 4 Try.f4 rfl rfl rfl rfl rfl rfl rfl ⟨rfl, rfl, rfl, rfl, rfl⟩ rfl rfl rfl rfl rfl (by kernel_rfl) Try.func4 (by kernel_rfl)
    (of_decide_eq_true (by kernel_rfl)) (by unfold Func.isWrapper; first | (rw [if_pos (by decide +kernel)]; kernel_rfl) | (rw [if_neg (by decide +kernel)]; exact ⟨rfl, rfl⟩))
    (fun os started H enc _ => lifted os started H enc)

/-- The statement. -/
theorem proved : Rows.FnYearLongSaid :=
  over
#print axioms proved
end Go.Proofs.Ythfehlmddlfcmaa.fnYearLong
