/- FnPlantedMany: whatever the input, the law returns true, and its arguments read as they did. No conditions beyond those of the statement's row. -/
import Derived.Test.YtaikodebmkjafaaPd9
import Derived.Test.YtaikodebmkjafaaPpc
import Derived.Test.YtaikodebmkjafaaQk
import Derived.Test.YtaikodebmkjafaaKw
import Derived.Test.YtaikodebmkjafaaLp
namespace Go.Proofs.Ytaikodebmkjafaa.fnPlantedMany
open Go.Proofs.Ytaikodebmkjafaa
open Go.ChangeShapes Go.WideShapes Go.ChangeAt Go.RowKit Go.Joins
set_option linter.unusedVariables false
set_option linter.unusedSimpArgs false
set_option linter.unnecessarySimpa false

theorem own : ownKnob Try.prog.godebug = none := by kernel_rfl
theorem laidOut : laidOutB Try.prog = true := by kernel_rfl

set_option maxRecDepth 100000 in
set_option maxHeartbeats 4000000 in
theorem walk (w : World) (a0 : Option Addr) (len0 cap0 : Nat) (w0 : CodeOk w a0 len0 cap0) :
    Calls Try.prog 4 #[.slice a0 len0 cap0] w fun e w' => e = .returned (.bool true) ∧ Below w.heap.size w w' := by
  by_cases hl : 1048576 < len0
  · have w0' := w0.2.1
    unfold maxLen at w0'
    clear w0
    go_enter Try.func4, Try.ntmps4
    go_wp2
    go_ret
    exact ⟨rfl, Below.refl _ _⟩
  · have w0' := w0.2.1
    unfold maxLen at w0'
    have hle := w0.1
    have HW := Lib.hid w0
    clear w0
    go_enter Try.func4, Try.ntmps4
    obtain ⟨i0, hi0, hz0, hz1, hz2⟩ := info_parts infoNum
    have HI := Lib.hid (And.intro hi0 (And.intro hz0 (And.intro hz1 hz2)))
    clear hi0 hz0 hz1 hz2
    go_wp2_with fail
    refine (drPlantedMany_any _ _ _ _ HW.out).mono ?_; rintro e w1 ⟨bs, A, cp, ps, A2, cp2, us, A3, cp3, rfl, h7, h72, h73, hO1, hP1, hU1, hB1⟩
    obtain ⟨n, hn⟩ : ∃ n, bs.length = n := ⟨_, rfl⟩
    obtain ⟨m, hm⟩ : ∃ m, ps.length = m := ⟨_, rfl⟩
    rw [hn] at h7 ⊢
    rw [hm] at h72 ⊢
    have HN := Lib.hid hn
    have HM := Lib.hid hm
    clear hn hm
    obtain ⟨q, hq⟩ : ∃ q, us.length = q := ⟨_, rfl⟩
    rw [hq] at h73 ⊢
    have HQ := Lib.hid hq
    clear hq
    have hcv : q ≤ cp3 := by have := hU1.cap.1; rw [HQ.out] at this; exact this
    obtain ⟨r, hr⟩ : ∃ r, pmI bs ps us = r := ⟨_, rfl⟩
    have HR := Lib.hid hr
    clear hr
    cases hv : poB bs ps us
    · obtain rfl : r = -1 := by rw [← HR.out]; exact pmI_no hv
      go_wp2_with fail
      refine (iPm_is A A2 A3 cp cp2 cp3 bs ps us _ HN.out HM.out HQ.out hO1.row hP1.row hU1.row (by omega) (by omega) (by omega) hcv HR.out).mono ?_; rintro e w2 ⟨rfl, hw2⟩
      have hO2 := hO1.next hw2
      have hP2 := hP1.next hw2
      have hU2 := hU1.next hw2
      have hB2 := bel_next hB1 hw2
      go_wp2_with fail
      refine (sPm_is A A2 A3 cp cp2 cp3 bs ps us _ HN.out HM.out HQ.out hO2.row hP2.row hU2.row (by omega) (by omega) (by omega) hcv HR.out).mono ?_; rintro e w3 ⟨rfl, hw3⟩
      have hO3 := hO2.next hw3
      have hP3 := hP2.next hw3
      have hU3 := hU2.next hw3
      have hB3 := bel_next hB2 hw3
      go_wp2_with fail
      refine (alive_any _).mono ?_; rintro e w' ⟨rfl, rfl⟩
      go_wp2
      go_ret
      exact ⟨rfl, hB3⟩
    · have hbd := pm_bd hv
      rw [HR.out, HN.out, HM.out] at hbd
      obtain ⟨r0, r1, r2⟩ := hbd
      have HZ : Hid (pmI bs ps (List.replicate m (-1)) = 0) := Lib.hid (by have h9 := poB_mf.1 hv; rw [← HM.out]; exact pm_none h9.1 h9.2.1)
      clear hv
      go_wp2_with fail
      refine (iPm_is A A2 A3 cp cp2 cp3 bs ps us _ HN.out HM.out HQ.out hO1.row hP1.row hU1.row (by omega) (by omega) (by omega) hcv HR.out).mono ?_; rintro e w2 ⟨rfl, hw2⟩
      have hO2 := hO1.next hw2
      have hP2 := hP1.next hw2
      have hU2 := hU1.next hw2
      have hB2 := bel_next hB1 hw2
      go_wp2_with fail
      refine (sPm_is A A2 A3 cp cp2 cp3 bs ps us _ HN.out HM.out HQ.out hO2.row hP2.row hU2.row (by omega) (by omega) (by omega) hcv HR.out).mono ?_; rintro e w3 ⟨rfl, hw3⟩
      have hO3 := hO2.next hw3
      have hP3 := hP2.next hw3
      have hU3 := hU2.next hw3
      have hB3 := bel_next hB2 hw3
      have HA : Hid ((∀ g, A = some ⟨g, 0, none⟩ → g < w3.heap.size) ∧ (∀ g, A2 = some ⟨g, 0, none⟩ → g < w3.heap.size)) := Lib.hid ⟨fun g hg => by rcases hO3.form with ⟨e, _⟩ | ⟨g1, e, _, h9⟩; rw [e] at hg; cases hg; rw [e] at hg; cases hg; exact h9, fun g hg => by rcases hP3.form with ⟨e, _⟩ | ⟨g1, e, _, h9⟩; rw [e] at hg; cases hg; rw [e] at hg; cases hg; exact h9⟩
      have hzk := hB3.size
      go_wp2_with fail
      go_loopw [7, 8] (fun v6 v7 wr => ∃ (k cv : Nat) (V : Option Addr), v6 = .slice V k cv ∧ v7 = .int .i64 k ∧ k ≤ m ∧ SOwn encNum wr w3.heap.size 3 V cv (List.replicate k (-1)) ∧ SOwn encNum wr w.heap.size 3 A cp bs ∧ SOwn encPlant wr w.heap.size 39 A2 cp2 ps ∧ Below w.heap.size w wr ∧ w3.heap.size ≤ wr.heap.size) (fun _ v7 _ => (m - intOf v7).toNat)
      case atStart => exact ⟨0, 0, _, rfl, rfl, by omega, SOwn.empty (blk_new w3 _) (Nat.le_refl _), hO3.alloc _, hP3.alloc _, hB3.alloc hB3.size _, by simp⟩
      case round =>
        obtain ⟨k, cv, V, rfl, rfl, k1, hV, hO, hP, hB, hzw⟩ := hrel
        by_cases hlt : k < m
        · have hki : (k : Int) < (m : Int) := by omega
          have HL9 : Hid ((List.replicate k (-1 : Int)).length = k) := Lib.hid List.length_replicate
          have hVa := hV.alloc (.cells (encNum.enc (-1)).toArray 3)
          go_wp2_with (at_builtin; refine wpList_append_lies _ rfl (.tmp 42) (.tmp 43) _ rfl w3.heap.size 3 i0 _ 1 8 Try.underlying23 HI.out.1 HI.out.2.1 HI.out.2.2.1 HI.out.2.2.2 rfl (by omega) (.slice V k cv) k (encNum.flat (List.replicate k (-1))) rfl (by unfold SOwn at hVa; rw [HL9.out] at hVa; exact hVa) ⟨wr.heap.size, 0, none⟩ 1 1 (encNum.enc (-1)) rfl rfl (new_enc (E := encNum) wr (-1) _) (encNum.one _) (by omega) (by simp only [maxLen]; omega) (by omega) (by simp; omega) _ rfl ?_; intro g5 cap5 w5 hown5 hgr5 hat5 hlt5)
          have hne : ∀ j, Value.ownBlock (.slice V k cv) = some j → w3.heap.size ≤ j := fun j hj => SOwn.ge_baseK hVa j hj
          have hO5 := (hO.alloc (.cells (encNum.enc (-1)).toArray 3)).grown_far hgr5 (fun g hg e9 => by have := hne _ e9; have := HA.out.1 g hg; omega)
          have hP5 := (hP.alloc (.cells (encNum.enc (-1)).toArray 3)).grown_far hgr5 (fun g hg e9 => by have := hne _ e9; have := HA.out.2 g hg; omega)
          have hB5 := (hB.alloc hB.size (.cells (encNum.enc (-1)).toArray 3)).grown hgr5 (hB.alloc hB.size (.cells (encNum.enc (-1)).toArray 3)).size (fun j hj => by have := hne j hj; omega)
          have hs5 := hgr5.size
          have hsn := SOwn.snoc (E := encNum) (xs := List.replicate k (-1)) (x := -1) (by rw [HL9.out]; exact hown5)
          have hrs : List.replicate k (-1 : Int) ++ [-1] = List.replicate (k + 1) (-1) := List.replicate_succ'.symm
          rw [hrs] at hsn
          clear hrs hVa hV hO hP hB hown5 hgr5 hat5
          go_wp2_with fail
          go_roundw
          case rel => exact ⟨k + 1, cap5, some ⟨g5, 0, none⟩, rfl, by go_num, by omega, hsn, hO5, hP5, hB5, by simp at hs5; omega⟩
          case measure => simp [intOf]; omega
        · obtain rfl : k = m := by omega
          have hki : ¬ (k : Int) < (k : Int) := by omega
          have HL9 : Hid ((List.replicate k (-1 : Int)).length = k) := Lib.hid List.length_replicate
          have hcv9 : k ≤ cv := by have := hV.cap.1; rw [HL9.out] at this; exact this
          go_wp2_with fail
          refine (iPm_is A A2 V cp cp2 cv bs ps (List.replicate k (-1)) _ HN.out HM.out HL9.out hO.row hP.row hV.row (by omega) (by omega) (by omega) hcv9 HZ.out).mono ?_; rintro e wa ⟨rfl, hwa⟩
          have hBa := bel_next hB hwa
          go_wp2
          go_ret
          exact ⟨rfl, hBa⟩

set_option maxRecDepth 100000 in
theorem lifted (os : Os) (started : os.Started) (H : Type) (enc : TypeId × Value → H) :
    ReturnsInHanded {} Try.checked os 4 .any (Rows.fnPlantedManySpec.pre6 enc Try.prog Try.f4 Rows.fnPlantedManyRow.domain false) (Rows.fnPlantedManySpec.post enc Try.prog Try.f4 false true false false) := by
  refine returnsInHanded_of_change (C := Try.checked) own started (by kernel_rfl) Try.func4
    (ChangeSpec.witness6 (enc := enc) (C := Try.checked) false ⟨#[], #[.slice none 0 0], []⟩ 8 (by kernel_rfl) (by kernel_rfl) (by kernel_rfl) (by kernel_rfl)) ?_
  intro W base args ds gs before hval0 hW hcnd _
  have hval : ∀ (j : Nat) t v, Try.f4.params[j]? = some t → args[j]? = some v → Value.okWide Try.prog W .any base t v := hval0
  have hW' := hW
  obtain ⟨p, q, hA0, hV, rfl, hfz, hnd⟩ := hW
  have hA : DataW.TrodAll enc Try.prog W 0 (fun _ => true) true Try.f4.params.toList args.toList ds p := hA0
  rw [Try.params4] at hA hval
  obtain ⟨v0, vs0, d0, ds0, p0, q0, hargs, rfl, rfl, h0, r0⟩ := trodAll_cons hA
  obtain ⟨rfl, rfl, rfl⟩ := trodAll_nil r0
  obtain rfl : args = #[v0] := by cases args; simp_all
  obtain ⟨rfl, rfl⟩ := trodVars_none hV
  have k0 := h0
  have lt0 : ∀ x ∈ p0, x.block < W.heap.size := by obtain ⟨m, hm⟩ := k0; exact DataW.trod_lt m _ _ _ hm
  obtain ⟨a0, len0, cap0, rfl⟩ := okWide_slice Try.underlying22 (hval 0 22 v0 rfl rfl)
  have w0 : CodeOk W a0 len0 cap0 := by
    obtain ⟨fuel, hf⟩ := h0
    rcases open_ints Try.underlying22 Try.underlying5 (by kernel_rfl) hf with ⟨hcs, _⟩ | ⟨x, l, c, zs, hcs, _, hl, hm, hz, _, hcell, hwz⟩
    · simp [Value.cells] at hcs
      obtain ⟨rfl, rfl, rfl⟩ := hcs
      exact code_nil W
    · simp [Value.cells] at hcs
      obtain ⟨rfl, rfl, rfl⟩ := hcs
      exact code_ok hl hm (by simp at hz; omega) hcell hwz
  clear hA0 hval0
  refine (walk W a0 len0 cap0 w0).mono fun e W' ⟨he, bel⟩ => ?_
  subst he
  exact ⟨_, rfl, _, _, _, [], _, [], hW', trodAll_mk1 (shut_bool Try.underlying4 _), (trodAll_cons_mk (Below.trod laidOut (by kernel_rfl) (of_decide_eq_true (by kernel_rfl)) k0 bel lt0) trodAll_mk0), rfl, bel.frame _, fun h => by cases h⟩

theorem over : Rows.fnPlantedManyRow.holds Try.pinned (OpenSpec.ofChange Rows.fnPlantedManySpec) :=
  OpenClaim.holds_of_wide 4 Try.f4 rfl rfl rfl rfl rfl rfl rfl ⟨rfl, rfl, rfl, rfl, rfl⟩ rfl rfl rfl rfl rfl (by kernel_rfl) Try.func4 (by kernel_rfl)
    (of_decide_eq_true (by kernel_rfl)) (by unfold Func.isWrapper; first | (rw [if_pos (by decide +kernel)]; kernel_rfl) | (rw [if_neg (by decide +kernel)]; exact ⟨rfl, rfl⟩))
    (fun os started H enc _ => lifted os started H enc)

/-- The statement. -/
theorem proved : Rows.FnPlantedManySaid :=
  over
#print axioms proved
end Go.Proofs.Ytaikodebmkjafaa.fnPlantedMany
