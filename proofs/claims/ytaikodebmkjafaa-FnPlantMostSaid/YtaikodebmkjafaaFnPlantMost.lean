/- FnPlantMost: whatever the input, the law returns true, and its arguments read as they did. No conditions beyond those of the statement's row. -/
import Derived.Test.YtaikodebmkjafaaPd9
import Derived.Test.YtaikodebmkjafaaPpc
import Derived.Test.YtaikodebmkjafaaQk
import Derived.Test.YtaikodebmkjafaaKw
import Derived.Test.YtaikodebmkjafaaLp
namespace Go.Proofs.Ytaikodebmkjafaa.fnPlantMost
open Go.Proofs.Ytaikodebmkjafaa
open Go.ChangeShapes Go.WideShapes Go.ChangeAt Go.RowKit Go.Joins
set_option linter.unusedVariables false
set_option linter.unusedSimpArgs false
set_option linter.unnecessarySimpa false

theorem own : ownKnob Try.prog.godebug = none := by kernel_rfl
theorem laidOut : laidOutB Try.prog = true := by kernel_rfl

set_option maxRecDepth 100000 in
set_option maxHeartbeats 4000000 in
theorem walk (w : World) (a0 : Option Addr) (len0 cap0 : Nat) (w0 : CodeOk w a0 len0 cap0) :
    Calls Try.prog 6 #[.slice a0 len0 cap0] w fun e w' => e = .returned (.bool true) ∧ Below w.heap.size w w' := by
  by_cases hl : 1048576 < len0
  · have w0' := w0.2.1
    unfold maxLen at w0'
    clear w0
    go_enter Try.func6, Try.ntmps6
    go_wp2
    go_ret
    exact ⟨rfl, Below.refl _ _⟩
  · have w0' := w0.2.1
    unfold maxLen at w0'
    have hle := w0.1
    have HW := Lib.hid w0
    clear w0
    go_enter Try.func6, Try.ntmps6
    obtain ⟨i0, hi0, hz0, hz1, hz2⟩ := info_parts infoPlant
    have HI := Lib.hid (And.intro hi0 (And.intro hz0 (And.intro hz1 hz2)))
    clear hi0 hz0 hz1 hz2
    go_wp2_with fail
    refine (drPlantMost_any _ _ _ _ HW.out).mono ?_; rintro e w1 ⟨bs, A, cp, ps, A2, cp2, rfl, h7, h72, hO1, hP1, hB1⟩
    obtain ⟨n, hn⟩ : ∃ n, bs.length = n := ⟨_, rfl⟩
    obtain ⟨m, hm⟩ : ∃ m, ps.length = m := ⟨_, rfl⟩
    rw [hn] at h7 ⊢
    rw [hm] at h72 ⊢
    have HN := Lib.hid hn
    have HM := Lib.hid hm
    clear hn hm
    obtain ⟨r, hr⟩ : ∃ r, pxI bs ps = r := ⟨_, rfl⟩
    have HR := Lib.hid hr
    clear hr
    cases hvb : bsB bs
    · obtain rfl : r = -1 := by rw [← HR.out]; exact pxI_no1 hvb
      go_wp2_with fail
      refine (iPx_is A A2 cp cp2 bs ps _ HN.out HM.out hO1.row hP1.row (by omega) (by omega) HR.out).mono ?_; rintro e w2 ⟨rfl, hw2⟩
      have hO2 := hO1.next hw2
      have hP2 := hP1.next hw2
      have hB2 := bel_next hB1 hw2
      go_wp2_with fail
      refine (sPx_is A A2 cp cp2 bs ps _ HN.out HM.out hO2.row hP2.row (by omega) (by omega) HR.out).mono ?_; rintro e w3 ⟨rfl, hw3⟩
      have hO3 := hO2.next hw3
      have hP3 := hP2.next hw3
      have hB3 := bel_next hB2 hw3
      go_wp2_with fail
      refine (alive_any _).mono ?_; rintro e w' ⟨rfl, rfl⟩
      go_wp2
      go_ret
      exact ⟨rfl, hB3⟩
    · cases hvp : ptB ps
      · obtain rfl : r = -1 := by rw [← HR.out]; exact pxI_no2 hvp
        go_wp2_with fail
        refine (iPx_is A A2 cp cp2 bs ps _ HN.out HM.out hO1.row hP1.row (by omega) (by omega) HR.out).mono ?_; rintro e w2 ⟨rfl, hw2⟩
        have hO2 := hO1.next hw2
        have hP2 := hP1.next hw2
        have hB2 := bel_next hB1 hw2
        go_wp2_with fail
        refine (sPx_is A A2 cp cp2 bs ps _ HN.out HM.out hO2.row hP2.row (by omega) (by omega) HR.out).mono ?_; rintro e w3 ⟨rfl, hw3⟩
        have hO3 := hO2.next hw3
        have hP3 := hP2.next hw3
        have hB3 := bel_next hB2 hw3
        go_wp2_with fail
        refine (alive_any _).mono ?_; rintro e w' ⟨rfl, rfl⟩
        go_wp2
        go_ret
        exact ⟨rfl, hB3⟩
      · have hn6 : n ≤ 6 := by have := (bsB_iff.1 hvb).1; rw [HN.out] at this; exact this
        have hm6 : m ≤ 6 := by have := (ptB_iff.1 hvp).1; rw [HM.out] at this; exact this
        have hrr : 0 ≤ r ∧ r ≤ n := by rw [← HR.out, ← HN.out]; have := pm_bd (pbL_ok hvb hvp); unfold pxI; omega
        obtain ⟨r0, r1⟩ := hrr
        have HEZ : Hid (pxI bs (List.replicate m (0, 16)) = min (n : Int) m) := Lib.hid (by rw [px_easy m hm6 hvb, HN.out])
        have HLS : Hid (0 < n → pxI (bs.drop 1) ps = r ∨ pxI (bs.drop 1) ps = r - 1) := Lib.hid (fun h0 => by
            rw [← HR.out]
            cases bs with
            | nil => have := HN.out; simp at this; omega
            | cons x bs => exact px_less hvb hvp)
        have HVB := Lib.hid hvb
        have HVP := Lib.hid hvp
        clear hvb hvp
        go_wp2_with fail
        refine (iPx_is A A2 cp cp2 bs ps _ HN.out HM.out hO1.row hP1.row (by omega) (by omega) HR.out).mono ?_; rintro e w2 ⟨rfl, hw2⟩
        have hO2 := hO1.next hw2
        have hP2 := hP1.next hw2
        have hB2 := bel_next hB1 hw2
        go_wp2_with fail
        refine (sPx_is A A2 cp cp2 bs ps _ HN.out HM.out hO2.row hP2.row (by omega) (by omega) HR.out).mono ?_; rintro e w3 ⟨rfl, hw3⟩
        have hO3 := hO2.next hw3
        have hP3 := hP2.next hw3
        have hB3 := bel_next hB2 hw3
        have HA : Hid ((∀ g, A = some ⟨g, 0, none⟩ → g < w3.heap.size) ∧ (∀ g, A2 = some ⟨g, 0, none⟩ → g < w3.heap.size)) := Lib.hid ⟨fun g hg => by rcases hO3.form with ⟨e, _⟩ | ⟨g1, e, _, h9⟩; rw [e] at hg; cases hg; rw [e] at hg; cases hg; exact h9, fun g hg => by rcases hP3.form with ⟨e, _⟩ | ⟨g1, e, _, h9⟩; rw [e] at hg; cases hg; rw [e] at hg; cases hg; exact h9⟩
        have hzk := hB3.size
        go_wp2_with fail
        go_loopw [6, 7] (fun v6 v7 wr => ∃ (k cv : Nat) (V : Option Addr), v6 = .slice V k cv ∧ v7 = .int .i64 k ∧ k ≤ m ∧ SOwn encPlant wr w3.heap.size 39 V cv (List.replicate k ((0, 16) : Int × Int)) ∧ SOwn encNum wr w.heap.size 3 A cp bs ∧ SOwn encPlant wr w.heap.size 39 A2 cp2 ps ∧ Below w.heap.size w wr ∧ w3.heap.size ≤ wr.heap.size) (fun _ v7 _ => (m - intOf v7).toNat)
        case atStart => exact ⟨0, 0, _, rfl, rfl, by omega, SOwn.empty (blk_new w3 _) (Nat.le_refl _), hO3.alloc _, hP3.alloc _, hB3.alloc hB3.size _, by simp⟩
        case round =>
          obtain ⟨k, cv, V, rfl, rfl, k1, hV, hO, hP, hB, hzw⟩ := hrel
          by_cases hlt : k < m
          · have hki : (k : Int) < (m : Int) := by omega
            have HL9 : Hid ((List.replicate k ((0, 16) : Int × Int)).length = k) := Lib.hid List.length_replicate
            have hVa := hV.alloc (.cells (encPlant.enc (0, 16)).toArray 39)
            go_wp2_with (at_builtin; refine wpList_append_lies _ rfl (.tmp 39) (.tmp 41) _ rfl w3.heap.size 39 i0 _ 2 16 Try.underlying24 HI.out.1 HI.out.2.1 HI.out.2.2.1 HI.out.2.2.2 rfl (by omega) (.slice V k cv) k (encPlant.flat (List.replicate k ((0, 16) : Int × Int))) rfl (by unfold SOwn at hVa; rw [HL9.out] at hVa; exact hVa) ⟨wr.heap.size, 0, none⟩ 1 1 (encPlant.enc (0, 16)) rfl rfl (new_enc (E := encPlant) wr (0, 16) _) (encPlant.one _) (by omega) (by simp only [maxLen]; omega) (by omega) (by simp; omega) _ rfl ?_; intro g5 cap5 w5 hown5 hgr5 hat5 hlt5)
            have hne : ∀ j, Value.ownBlock (.slice V k cv) = some j → w3.heap.size ≤ j := fun j hj => SOwn.ge_baseK hVa j hj
            have hO5 := (hO.alloc (.cells (encPlant.enc (0, 16)).toArray 39)).grown_far hgr5 (fun g hg e9 => by have := hne _ e9; have := HA.out.1 g hg; omega)
            have hP5 := (hP.alloc (.cells (encPlant.enc (0, 16)).toArray 39)).grown_far hgr5 (fun g hg e9 => by have := hne _ e9; have := HA.out.2 g hg; omega)
            have hB5 := (hB.alloc hB.size (.cells (encPlant.enc (0, 16)).toArray 39)).grown hgr5 (hB.alloc hB.size (.cells (encPlant.enc (0, 16)).toArray 39)).size (fun j hj => by have := hne j hj; omega)
            have hs5 := hgr5.size
            have hsn := SOwn.snoc (E := encPlant) (xs := List.replicate k ((0, 16) : Int × Int)) (x := (0, 16)) (by rw [HL9.out]; exact hown5)
            have hrs : List.replicate k ((0, 16) : Int × Int) ++ [(0, 16)] = List.replicate (k + 1) (0, 16) := List.replicate_succ'.symm
            rw [hrs] at hsn
            clear hrs hVa hV hO hP hB hown5 hgr5 hat5
            go_wp2_with fail
            go_roundw
            case rel => exact ⟨k + 1, cap5, some ⟨g5, 0, none⟩, rfl, by go_num, by omega, hsn, hO5, hP5, hB5, by simp at hs5; omega⟩
            case measure => simp [intOf]; omega
          · obtain rfl : k = m := by omega
            have hki : ¬ (k : Int) < (k : Int) := by omega
            have HL9 : Hid ((List.replicate k ((0, 16) : Int × Int)).length = k) := Lib.hid List.length_replicate
            go_wp2_with fail
            refine (iPx_is A V cp cv bs (List.replicate k (0, 16)) _ HN.out HL9.out hO.row hV.row (by omega) (by omega) HEZ.out).mono ?_; rintro e wa ⟨rfl, hwa⟩
            have hBa := bel_next hB hwa
            have hOa := hO.next hwa
            have hPa := hP.next hwa
            obtain ⟨mn, hmn⟩ : ∃ x, min (n : Int) (k : Int) = x := ⟨_, rfl⟩
            rw [hmn]
            have hmx : (if (k : Int) < (n : Int) then (k : Int) else (n : Int)) = mn := by rw [← hmn]; split <;> omega
            have hmx2 : (if (k : Int) < (n : Int) then (k : Int) else (n : Int)) = min (n : Int) (k : Int) := by split <;> omega
            have hmx3 : min (n : Int) (k : Int) = mn := hmn
            clear hmx2 hmx3
            have HMN := Lib.hid hmn
            clear hmn
            by_cases hkn : (k : Int) < (n : Int)
            · obtain rfl : mn = (k : Int) := by have := HMN.out; omega
              clear hmx
              by_cases hn0 : n = 0
              · have hnb : ((n : Int) == 0) = true := by rw [beq_iff_eq]; omega
                have hr9 : r = 0 := by omega
                have hrb : (r == 0) = true := by rw [beq_iff_eq]; exact hr9
                clear hn0 hr9
                go_wp2
                go_ret
                exact ⟨rfl, hBa⟩
              · have hnb : ((n : Int) == 0) = false := by rw [beq_eq_false_iff_ne]; omega
                obtain ⟨v, hv9⟩ : ∃ v, pxI (bs.drop 1) ps = v := ⟨_, rfl⟩
                have hv8 := HLS.out (by omega)
                rw [hv9] at hv8
                have HV := Lib.hid hv9
                have HVV := Lib.hid hv8
                clear hv9 hv8
                have HDL : Hid ((bs.drop 1).length = n - 1) := Lib.hid (by rw [List.length_drop, HN.out])
                obtain ⟨gA, rfl, _, _⟩ := hOa.at_ (i := 0) (by rw [HN.out]; omega)
                obtain ⟨hcp, _⟩ := hOa.cap
                rw [HN.out] at hcp
                have hn1 : 1 ≤ n := by omega
                have hni : (1 : Int) ≤ (n : Int) := by omega
                clear hn0
                by_cases hc : cp = 1
                · obtain rfl : n = 1 := by omega
                  subst hc
                  have HNI : Hid (bs.drop 1 = []) := Lib.hid (List.length_eq_zero_iff.1 (by rw [HDL.out]))
                  go_wp2_with fail
                  refine (iPx_is _ A2 _ cp2 (bs.drop 1) ps _ HDL.out HM.out (.inl HNI.out) hPa.row (by omega) (by omega) HV.out).mono ?_; rintro e wf ⟨rfl, hwf⟩
                  have hBf := bel_next hBa hwf
                  rcases HVV.out with hu | hu
                  · subst hu
                    go_wp2
                    go_ret
                    exact ⟨rfl, hBf⟩
                  · have hw9 : IntKind.i64.wrap (r - 1) = r - 1 := IntWalk.i64_in _ (by omega)
                    have hne9 : (r - 1 == r) = false := by rw [beq_eq_false_iff_ne]; omega
                    subst hu
                    go_wp2
                    go_ret
                    exact ⟨rfl, hBf⟩
                · go_wp2_with fail
                  refine (iPx_is _ A2 _ cp2 (bs.drop 1) ps _ HDL.out HM.out (SOwn.tailW hOa) hPa.row (by omega) (by omega) HV.out).mono ?_; rintro e wf ⟨rfl, hwf⟩
                  have hBf := bel_next hBa hwf
                  rcases HVV.out with hu | hu
                  · subst hu
                    go_wp2
                    go_ret
                    exact ⟨rfl, hBf⟩
                  · have hw9 : IntKind.i64.wrap (r - 1) = r - 1 := IntWalk.i64_in _ (by omega)
                    have hne9 : (r - 1 == r) = false := by rw [beq_eq_false_iff_ne]; omega
                    subst hu
                    go_wp2
                    go_ret
                    exact ⟨rfl, hBf⟩
            · obtain rfl : mn = (n : Int) := by have := HMN.out; omega
              clear hmx
              by_cases hn0 : n = 0
              · have hnb : ((n : Int) == 0) = true := by rw [beq_iff_eq]; omega
                have hr9 : r = 0 := by omega
                have hrb : (r == 0) = true := by rw [beq_iff_eq]; exact hr9
                clear hn0 hr9
                go_wp2
                go_ret
                exact ⟨rfl, hBa⟩
              · have hnb : ((n : Int) == 0) = false := by rw [beq_eq_false_iff_ne]; omega
                obtain ⟨v, hv9⟩ : ∃ v, pxI (bs.drop 1) ps = v := ⟨_, rfl⟩
                have hv8 := HLS.out (by omega)
                rw [hv9] at hv8
                have HV := Lib.hid hv9
                have HVV := Lib.hid hv8
                clear hv9 hv8
                have HDL : Hid ((bs.drop 1).length = n - 1) := Lib.hid (by rw [List.length_drop, HN.out])
                obtain ⟨gA, rfl, _, _⟩ := hOa.at_ (i := 0) (by rw [HN.out]; omega)
                obtain ⟨hcp, _⟩ := hOa.cap
                rw [HN.out] at hcp
                have hn1 : 1 ≤ n := by omega
                have hni : (1 : Int) ≤ (n : Int) := by omega
                clear hn0
                by_cases hc : cp = 1
                · obtain rfl : n = 1 := by omega
                  subst hc
                  have HNI : Hid (bs.drop 1 = []) := Lib.hid (List.length_eq_zero_iff.1 (by rw [HDL.out]))
                  go_wp2_with fail
                  refine (iPx_is _ A2 _ cp2 (bs.drop 1) ps _ HDL.out HM.out (.inl HNI.out) hPa.row (by omega) (by omega) HV.out).mono ?_; rintro e wf ⟨rfl, hwf⟩
                  have hBf := bel_next hBa hwf
                  rcases HVV.out with hu | hu
                  · subst hu
                    go_wp2
                    go_ret
                    exact ⟨rfl, hBf⟩
                  · have hw9 : IntKind.i64.wrap (r - 1) = r - 1 := IntWalk.i64_in _ (by omega)
                    have hne9 : (r - 1 == r) = false := by rw [beq_eq_false_iff_ne]; omega
                    subst hu
                    go_wp2
                    go_ret
                    exact ⟨rfl, hBf⟩
                · go_wp2_with fail
                  refine (iPx_is _ A2 _ cp2 (bs.drop 1) ps _ HDL.out HM.out (SOwn.tailW hOa) hPa.row (by omega) (by omega) HV.out).mono ?_; rintro e wf ⟨rfl, hwf⟩
                  have hBf := bel_next hBa hwf
                  rcases HVV.out with hu | hu
                  · subst hu
                    go_wp2
                    go_ret
                    exact ⟨rfl, hBf⟩
                  · have hw9 : IntKind.i64.wrap (r - 1) = r - 1 := IntWalk.i64_in _ (by omega)
                    have hne9 : (r - 1 == r) = false := by rw [beq_eq_false_iff_ne]; omega
                    subst hu
                    go_wp2
                    go_ret
                    exact ⟨rfl, hBf⟩

set_option maxRecDepth 100000 in
theorem lifted (os : Os) (started : os.Started) (H : Type) (enc : TypeId × Value → H) :
    ReturnsInHanded {} Try.checked os 6 .any (Rows.fnPlantMostSpec.pre6 enc Try.prog Try.f6 Rows.fnPlantMostRow.domain false) (Rows.fnPlantMostSpec.post enc Try.prog Try.f6 false true false false) := by
  refine returnsInHanded_of_change (C := Try.checked) own started (by kernel_rfl) Try.func6
    (ChangeSpec.witness6 (enc := enc) (C := Try.checked) false ⟨#[], #[.slice none 0 0], []⟩ 8 (by kernel_rfl) (by kernel_rfl) (by kernel_rfl) (by kernel_rfl)) ?_
  intro W base args ds gs before hval0 hW hcnd _
  have hval : ∀ (j : Nat) t v, Try.f6.params[j]? = some t → args[j]? = some v → Value.okWide Try.prog W .any base t v := hval0
  have hW' := hW
  obtain ⟨p, q, hA0, hV, rfl, hfz, hnd⟩ := hW
  have hA : DataW.TrodAll enc Try.prog W 0 (fun _ => true) true Try.f6.params.toList args.toList ds p := hA0
  rw [Try.params6] at hA hval
  obtain ⟨v0, vs0, d0, ds0, p0, q0, hargs, rfl, rfl, h0, r0⟩ := trodAll_cons hA
  obtain ⟨rfl, rfl, rfl⟩ := trodAll_nil r0
  obtain rfl : args = #[v0] := by cases args; simp_all
  obtain ⟨rfl, rfl⟩ := trodVars_none hV
  have k0 := h0
  have lt0 : ∀ x ∈ p0, x.block < W.heap.size := by obtain ⟨m, hm⟩ := k0; exact DataW.trod_lt m _ _ _ hm
  obtain ⟨a0, len0, cap0, rfl⟩ := okWide_slice Try.underlying22 (hval 0 22 v0 rfl rfl)
  have w0 : CodeOk W a0 len0 cap0 := by
    obtain ⟨fuel, hf⟩ := h0
    rcases open_ints Try.underlying22 Try.underlying5 (by kernel_rfl) hf with ⟨hcs, _⟩ | ⟨x, l, c, zs, hcs, _, hl, hm, hz, _, hcell, hwz⟩
    · simp [Value.cells] at hcs
      obtain ⟨rfl, rfl, rfl⟩ := hcs
      exact code_nil W
    · simp [Value.cells] at hcs
      obtain ⟨rfl, rfl, rfl⟩ := hcs
      exact code_ok hl hm (by simp at hz; omega) hcell hwz
  clear hA0 hval0
  refine (walk W a0 len0 cap0 w0).mono fun e W' ⟨he, bel⟩ => ?_
  subst he
  exact ⟨_, rfl, _, _, _, [], _, [], hW', trodAll_mk1 (shut_bool Try.underlying4 _), (trodAll_cons_mk (Below.trod laidOut (by kernel_rfl) (of_decide_eq_true (by kernel_rfl)) k0 bel lt0) trodAll_mk0), rfl, bel.frame _, fun h => by cases h⟩

theorem over : Rows.fnPlantMostRow.holds Try.pinned (OpenSpec.ofChange Rows.fnPlantMostSpec) :=
  OpenClaim.holds_of_wide 6 Try.f6 rfl rfl rfl rfl rfl rfl rfl ⟨rfl, rfl, rfl, rfl, rfl⟩ rfl rfl rfl rfl rfl (by kernel_rfl) Try.func6 (by kernel_rfl)
    (of_decide_eq_true (by kernel_rfl)) (by unfold Func.isWrapper; first | (rw [if_pos (by decide +kernel)]; kernel_rfl) | (rw [if_neg (by decide +kernel)]; exact ⟨rfl, rfl⟩))
    (fun os started H enc _ => lifted os started H enc)

/-- The statement. -/
theorem proved : Rows.FnPlantMostSaid :=
  over
#print axioms proved
end Go.Proofs.Ytaikodebmkjafaa.fnPlantMost
