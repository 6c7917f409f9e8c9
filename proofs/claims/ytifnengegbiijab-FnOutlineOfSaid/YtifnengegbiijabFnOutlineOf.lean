/- FnOutlineOf: whatever the input, the law returns true, and its arguments read as they did. No conditions beyond those of the statement's row. -/
import Derived.Test.YtifnengegbiijabDk
import Derived.Test.YtifnengegbiijabKp
import Derived.Test.YtifnengegbiijabKf
import Derived.Test.YtifnengegbiijabLp
namespace Go.Proofs.Ytifnengegbiijab.fnOutlineOf
open Go.Proofs.Ytifnengegbiijab
open Go.ChangeShapes Go.WideShapes Go.ChangeAt Go.RowKit Go.Joins
set_option linter.unusedVariables false
set_option linter.unusedSimpArgs false
set_option linter.unnecessarySimpa false

theorem own : ownKnob Try.prog.godebug = none := by kernel_rfl
theorem laidOut : laidOutB Try.prog = true := by kernel_rfl

set_option maxRecDepth 100000 in
set_option maxHeartbeats 4000000 in
theorem walk (w : World) (a0 : Option Addr) (len0 cap0 : Nat) (w0 : CodeOk w a0 len0 cap0) :
    Calls Try.prog 7 #[.slice a0 len0 cap0] w fun e w' => e = .returned (.bool true) ∧ Below w.heap.size w w' := by
  by_cases hl : 1048576 < len0
  · have w0' := w0.2.1
    unfold maxLen at w0'
    clear w0
    go_enter Try.func7, Try.ntmps7
    go_wp2
    go_ret
    exact ⟨rfl, Below.refl _ _⟩
  · have w0' := w0.2.1
    unfold maxLen at w0'
    have hle := w0.1
    have HW := Lib.hid w0
    clear w0
    go_enter Try.func7, Try.ntmps7
    obtain ⟨i0, hi0, hz0, hz1, hz2⟩ := info_parts infoHouse
    have HI := Lib.hid (And.intro hi0 (And.intro hz0 (And.intro hz1 hz2)))
    clear hi0 hz0 hz1 hz2
    go_wp2_with fail
    refine (drOutlineOf_any _ _ _ _ HW.out).mono ?_; rintro e w1 ⟨xs, A, cp, rfl, hx6, hO1, hB1⟩
    obtain ⟨m, hm⟩ : ∃ m, xs.length = m := ⟨_, rfl⟩
    rw [hm] at hx6 ⊢
    have HM := Lib.hid hm
    clear hm
    obtain ⟨l, hl9⟩ : ∃ l, ooL xs = l := ⟨_, rfl⟩
    have hll : l.length ≤ 41 := by rw [← hl9]; exact ooL_len xs
    have HL := Lib.hid hl9
    obtain ⟨q, hq⟩ : ∃ q, l.length = q := ⟨_, rfl⟩
    rw [hq] at hll
    have HQ := Lib.hid hq
    clear hq
    cases ho : hsB xs
    · obtain rfl : q = 0 := by rw [← HQ.out, ← hl9]; unfold ooL; rw [ho]; rfl
      have HY := Lib.hid ho
      clear hl9 ho
      go_wp2_with fail
      refine (iOo_is A cp xs _ HM.out hO1.row (by omega) HL.out).mono ?_; rintro e w2 ⟨V, cv, rfl, hV2, hw2⟩
      have hO2 := hO1.next hw2
      have hB2 := bel_next hB1 hw2
      rw [HQ.out]
      have hV2 := hV2.mono (base' := w.heap.size) hB1.size
      go_wp2_with fail
      refine (sOo_is A cp xs _ HM.out hO2.row (by omega) HL.out).mono ?_; rintro e w3 ⟨U, cu, rfl, hU3, hw3⟩
      have hO3 := hO2.next hw3
      have hV3 := hV2.next hw3
      have hB3 := bel_next hB2 hw3
      rw [HQ.out]
      have hU3 := hU3.mono (base' := w.heap.size) hB2.size
      go_wp2_with fail
      refine (sameEdges_is V U cv cu l HQ.out hV3.row hU3.row (by omega)).mono ?_; rintro e w4 ⟨rfl, hw4⟩
      have hO4 := hO3.next hw4
      have hV4 := hV3.next hw4
      have hB4 := bel_next hB3 hw4
      go_wp2_with fail
      refine (sHs_is A cp xs _ HM.out hO4.row (by omega) HY.out).mono ?_; rintro e w5 ⟨rfl, hw5⟩
      have hO5 := hO4.next hw5
      have hV5 := hV4.next hw5
      have hB5 := bel_next hB4 hw5
      go_wp2_with fail
      refine (alive_any _).mono ?_; rintro e w' ⟨rfl, rfl⟩
      go_wp2
      go_ret
      exact ⟨rfl, hB5⟩
    · have HOL : Hid (olB l = true) := by show _ = _; rw [← hl9]; exact ooL_ok ho
      have HY := Lib.hid ho
      clear hl9 ho
      go_wp2_with fail
      refine (iOo_is A cp xs _ HM.out hO1.row (by omega) HL.out).mono ?_; rintro e w2 ⟨V, cv, rfl, hV2, hw2⟩
      have hO2 := hO1.next hw2
      have hB2 := bel_next hB1 hw2
      rw [HQ.out]
      have hV2 := hV2.mono (base' := w.heap.size) hB1.size
      go_wp2_with fail
      refine (sOo_is A cp xs _ HM.out hO2.row (by omega) HL.out).mono ?_; rintro e w3 ⟨U, cu, rfl, hU3, hw3⟩
      have hO3 := hO2.next hw3
      have hV3 := hV2.next hw3
      have hB3 := bel_next hB2 hw3
      rw [HQ.out]
      have hU3 := hU3.mono (base' := w.heap.size) hB2.size
      go_wp2_with fail
      refine (sameEdges_is V U cv cu l HQ.out hV3.row hU3.row (by omega)).mono ?_; rintro e w4 ⟨rfl, hw4⟩
      have hO4 := hO3.next hw4
      have hV4 := hV3.next hw4
      have hB4 := bel_next hB3 hw4
      go_wp2_with fail
      refine (sHs_is A cp xs _ HM.out hO4.row (by omega) HY.out).mono ?_; rintro e w5 ⟨rfl, hw5⟩
      have hO5 := hO4.next hw5
      have hV5 := hV4.next hw5
      have hB5 := bel_next hB4 hw5
      go_wp2_with fail
      go_loopw [5] (fun i wr => ∃ p : Int, i = .int .i64 p ∧ -1 ≤ p ∧ p ≤ 41 ∧ SOwn encHouse wr w.heap.size 35 A cp xs ∧ SOwn encEdge wr w.heap.size 48 V cv l ∧ Below w.heap.size w wr) (fun i _ => (41 - intOf i).toNat)
      case atStart => exact ⟨-1, rfl, by omega, by omega, hO5.mono (by omega), hV5, hB5⟩
      case round =>
        obtain ⟨p, rfl, p0, p1, hO, hV, hB⟩ := hrel
        by_cases hlt : p ≤ 40
        · obtain ⟨x, hx⟩ : ∃ x, haI xs p = x := ⟨_, rfl⟩
          have hx2 : oaI l p = x := by rw [← HL.out, ooL_all HY.out p0 hlt]; exact hx
          have HX := Lib.hid hx
          have HX2 := Lib.hid hx2
          clear hx hx2
          go_wp2_with fail
          refine (iOa_is V cv l _ HQ.out hV.row (by omega) HX2.out).mono ?_; rintro e w6 ⟨rfl, hw6⟩
          have hO6 := hO.next hw6
          have hV6 := hV.next hw6
          have hB6 := bel_next hB hw6
          go_wp2_with fail
          refine (iHa_is A cp xs _ HM.out hO6.row (by omega) HX.out).mono ?_; rintro e w7 ⟨rfl, hw7⟩
          have hO7 := hO6.next hw7
          have hV7 := hV6.next hw7
          have hB7 := bel_next hB6 hw7
          go_wp2_with fail
          go_roundw
          case rel => exact ⟨p + 1, by go_num, by omega, by omega, hO7, hV7, hB7⟩
          case measure => simp [intOf]; omega
        · obtain rfl : p = 41 := by omega
          obtain ⟨wo, rfl⟩ : ∃ wo : World, wo = wr := ⟨_, rfl⟩
          have hO9 := hO.next (bel1 wo (.cells #[] 35 (0, 0)))
          have hV9 := hV.next (bel1 wo (.cells #[] 35 (0, 0)))
          have hB9 := hB.alloc hB.size (.cells #[] 35 (0, 0))
          have hz9 := hB.size
          go_wp2_with fail
          go_loopw [6, 7] (fun v i wr => ∃ (k c : Nat) (g : Nat), (k : Int) ≤ m ∧ i = .int .i64 ((k : Int) - 1) ∧ v = .slice (some ⟨g, 0, none⟩) (m - k) c ∧ SOwn encHouse wr wo.heap.size 35 (some ⟨g, 0, none⟩) c (xs.drop k).reverse ∧ SOwn encHouse wr w.heap.size 35 A cp xs ∧ (∀ h, A = some ⟨h, 0, none⟩ → h < wo.heap.size) ∧ (∀ h, V = some ⟨h, 0, none⟩ → h < wo.heap.size) ∧ SOwn encEdge wr w.heap.size 48 V cv l ∧ Below w.heap.size w wr) (fun _ i _ => (intOf i + 1).toNat)
          case atStart => exact ⟨m, 0, wo.heap.size, by omega, by go_num, by rw [Nat.sub_self], by have e : xs.drop m = [] := List.drop_eq_nil_iff.2 (by rw [HM.out]; omega); rw [e]; exact SOwn.empty (blk_new wo _) (Nat.le_refl _), hO9, (fun h e9 => by rcases hO.form with ⟨e1, _⟩ | ⟨g1, e1, _, h1⟩; rw [e1] at e9; cases e9; rw [e1] at e9; cases e9; exact h1), (fun h e9 => by rcases hV.form with ⟨e1, _⟩ | ⟨g1, e1, _, h1⟩; rw [e1] at e9; cases e9; rw [e1] at e9; cases e9; exact h1), hV9, hB9⟩
          case round =>
            obtain ⟨k, c, g, k1, rfl, rfl, hG, hO2, hA2, hV2, hVx, hBx⟩ := hrel
            by_cases hk0 : 0 < k
            · obtain ⟨j, rfl⟩ : ∃ j, k = j + 1 := ⟨k - 1, by omega⟩
              have hj : j < xs.length := by rw [HM.out]; omega
              have hjm : (j : Int) < (m : Int) := by omega
              have hjj : (((j + 1 : Nat) : Int) - 1) = (j : Int) := by omega
              rw [hjj]
              obtain ⟨gA, rfl, hgA, _⟩ := hO2.at_ hj
              obtain ⟨c0, c1, c2⟩ := ownHouse hO2 hj
              have HX := Lib.hid (rfl : xs[j] = xs[j])
              have hlen : (xs.drop (j + 1)).reverse.length = m - (j + 1) := by rw [List.length_reverse, List.length_drop, HM.out]
              have HLN := Lib.hid hlen
              clear hlen HX
              have hrev : (xs.drop j).reverse = (xs.drop (j + 1)).reverse ++ [xs[j]] := by rw [List.drop_eq_getElem_cons hj, List.reverse_cons]
              have HR := Lib.hid hrev
              clear hrev hjj
              have hGa := hG.alloc (.cells (encHouse.enc xs[j]).toArray 35)
              have hOa := hO2.alloc (.cells (encHouse.enc xs[j]).toArray 35)
              have hVa := hVx.alloc (.cells (encHouse.enc xs[j]).toArray 35)
              have hBa := hBx.alloc hBx.size (.cells (encHouse.enc xs[j]).toArray 35)
              have hgG : wo.heap.size ≤ g := by rcases hG.form with ⟨e, _⟩ | ⟨g9, e, h9, _⟩; cases e; cases e; exact h9
              obtain ⟨mm, hmm⟩ : ∃ mm, m - (j + 1) = mm := ⟨_, rfl⟩
              have hmx : (m : Int) - (j + 1) = mm := by omega
              have hsz := hBx.size
              have hwz : wo.heap.size ≤ wr.heap.size := by rcases hG.form with ⟨e, _⟩ | ⟨g9, e, h8, h9⟩; cases e; cases e; omega
              rw [hmm] at HLN ⊢
              have hlt2 : gA < wo.heap.size := hA2 gA rfl
              go_wp2_with (at_builtin; refine wpList_append_lies _ rfl (.tmp 48) (.tmp 53) _ rfl wo.heap.size 35 i0 _ 3 24 Try.underlying31 HI.out.1 HI.out.2.1 HI.out.2.2.1 HI.out.2.2.2 rfl (by omega) (.slice (some ⟨g, 0, none⟩) mm c) mm (encHouse.flat (xs.drop (j + 1)).reverse) rfl (by have q9 := hGa; unfold SOwn at q9; rw [HLN.out] at q9; exact q9) ⟨wr.heap.size, 0, none⟩ 1 1 (encHouse.enc xs[j]) rfl rfl (new_enc (E := encHouse) wr xs[j] _) (encHouse.one _) (by omega) (by simp only [maxLen]; omega) (by omega) (by simp; omega) _ rfl ?_; intro g5 cap5 w5 hown5 hgr5 hat5 hlt5)
              have hG5 := SOwn.snoc (E := encHouse) (xs := (xs.drop (j + 1)).reverse) (x := xs[j]) (by rw [HLN.out]; exact hown5)
              rw [← HR.out] at hG5
              have hO5 := hOa.grown_far hgr5 (fun h e9 e8 => by have := hA2 h e9; simp [Value.ownBlock] at e8; omega)
              have hV5 := hVa.grown_far hgr5 (fun h e9 e8 => by have := hV2 h e9; simp [Value.ownBlock] at e8; omega)
              have hB5 := hBa.grown hgr5 hBa.size (fun j9 h9 => by simp [Value.ownBlock] at h9; omega)
              go_wp2_with fail
              go_roundw
              case rel => exact ⟨j, cap5, g5, by omega, by go_num, by rw [show m - j = mm + 1 by omega], hG5, hO5, hA2, hV2, hV5, hB5⟩
              case measure => simp [intOf] <;> omega
            · obtain rfl : k = 0 := by omega
              have HRL : Hid ((xs.drop 0).reverse.length = m) := by show _ = _; rw [List.length_reverse, List.drop_zero, HM.out]
              have HRO : Hid (ooL (xs.drop 0).reverse = l) := by show _ = _; rw [List.drop_zero, ooL_rev]; exact HL.out
              rw [Nat.sub_zero]
              go_wp2_with fail
              refine (iOv_is V cv l _ HQ.out hVx.row (by omega) HOL.out).mono ?_; rintro e wa ⟨rfl, hwa⟩
              have hVa := hVx.next hwa
              have hGa := hG.next hwa
              have hBa := bel_next hBx hwa
              go_wp2_with fail
              refine (iOo_is _ c (xs.drop 0).reverse _ HRL.out hGa.row (by omega) HRO.out).mono ?_; rintro e wb ⟨Z, cz, rfl, hZ, hwb⟩
              rw [HQ.out]
              have hVb := hVa.next hwb
              have hBb := bel_next hBa hwb
              go_wp2_with fail
              refine (sameEdges_is Z V cz cv l HQ.out hZ.row hVb.row (by omega)).mono ?_; rintro e wc ⟨rfl, hwc⟩
              have hBc := bel_next hBb hwc
              go_wp2
              go_ret
              exact ⟨rfl, hBc⟩

set_option maxRecDepth 100000 in
theorem lifted (os : Os) (started : os.Started) (H : Type) (enc : TypeId × Value → H) :
    ReturnsInHanded {} Try.checked os 7 .any (Rows.fnOutlineOfSpec.pre6 enc Try.prog Try.f7 Rows.fnOutlineOfRow.domain false) (Rows.fnOutlineOfSpec.post enc Try.prog Try.f7 false true false false) := by
  refine returnsInHanded_of_change (C := Try.checked) own started (by kernel_rfl) Try.func7
    (ChangeSpec.witness6 (enc := enc) (C := Try.checked) false ⟨#[], #[.slice none 0 0], []⟩ 8 (by kernel_rfl) (by kernel_rfl) (by kernel_rfl) (by kernel_rfl)) ?_
  intro W base args ds gs before hval0 hW hcnd _
  have hval : ∀ (j : Nat) t v, Try.f7.params[j]? = some t → args[j]? = some v → Value.okWide Try.prog W .any base t v := hval0
  have hW' := hW
  obtain ⟨p, q, hA0, hV, rfl, hfz, hnd⟩ := hW
  have hA : DataW.TrodAll enc Try.prog W 0 (fun _ => true) true Try.f7.params.toList args.toList ds p := hA0
  rw [Try.params7] at hA hval
  obtain ⟨v0, vs0, d0, ds0, p0, q0, hargs, rfl, rfl, h0, r0⟩ := trodAll_cons hA
  obtain ⟨rfl, rfl, rfl⟩ := trodAll_nil r0
  obtain rfl : args = #[v0] := by cases args; simp_all
  obtain ⟨rfl, rfl⟩ := trodVars_none hV
  have k0 := h0
  have lt0 : ∀ x ∈ p0, x.block < W.heap.size := by obtain ⟨m, hm⟩ := k0; exact DataW.trod_lt m _ _ _ hm
  obtain ⟨a0, len0, cap0, rfl⟩ := okWide_slice Try.underlying22 (hval 0 22 v0 rfl rfl)
  have w0 : CodeOk W a0 len0 cap0 := by
    obtain ⟨fuel, hf⟩ := h0
    rcases open_ints Try.underlying22 Try.underlying5 (by kernel_rfl) hf with ⟨hcs, _⟩ | ⟨x, l, c, zs, hcs, _, hl, hm, hz, _, hcell, hwz⟩
    · simp [Value.cells] at hcs
      obtain ⟨rfl, rfl, rfl⟩ := hcs
      exact code_nil W
    · simp [Value.cells] at hcs
      obtain ⟨rfl, rfl, rfl⟩ := hcs
      exact code_ok hl hm (by simp at hz; omega) hcell hwz
  clear hA0 hval0
  refine (walk W a0 len0 cap0 w0).mono fun e W' ⟨he, bel⟩ => ?_
  subst he
  exact ⟨_, rfl, _, _, _, [], _, [], hW', trodAll_mk1 (shut_bool Try.underlying4 _), (trodAll_cons_mk (Below.trod laidOut (by kernel_rfl) (of_decide_eq_true (by kernel_rfl)) k0 bel lt0) trodAll_mk0), rfl, bel.frame _, fun h => by cases h⟩

theorem over : Rows.fnOutlineOfRow.holds Try.pinned (OpenSpec.ofChange Rows.fnOutlineOfSpec) :=
  OpenClaim.holds_of_wide 7 Try.f7 rfl rfl rfl rfl rfl rfl rfl ⟨rfl, rfl, rfl, rfl, rfl⟩ rfl rfl rfl rfl rfl (by kernel_rfl) Try.func7 (by kernel_rfl)
    (of_decide_eq_true (by kernel_rfl)) (by unfold Func.isWrapper; first | (rw [if_pos (by decide +kernel)]; kernel_rfl) | (rw [if_neg (by decide +kernel)]; exact ⟨rfl, rfl⟩))
    (fun os started H enc _ => lifted os started H enc)

/-- The statement. -/
theorem proved : Rows.FnOutlineOfSaid :=
  over
#print axioms proved
end Go.Proofs.Ytifnengegbiijab.fnOutlineOf
