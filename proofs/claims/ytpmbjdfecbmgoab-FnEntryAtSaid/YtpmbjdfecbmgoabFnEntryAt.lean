/- FnEntryAt: whatever the input, the law returns true, and its arguments read as they did. No conditions beyond those of the statement's row. -/
import Derived.Test.YtpmbjdfecbmgoabBA
import Derived.Test.YtpmbjdfecbmgoabLp
namespace Go.Proofs.Ytpmbjdfecbmgoab.fnEntryAt
open Go.Proofs.Ytpmbjdfecbmgoab
open Go.ChangeShapes Go.WideShapes Go.ChangeAt Go.RowKit Go.Joins
set_option linter.unusedVariables false
set_option linter.unusedSimpArgs false
set_option linter.unnecessarySimpa false

theorem own : ownKnob Try.prog.godebug = none := by kernel_rfl
theorem laidOut : laidOutB Try.prog = true := by kernel_rfl

set_option maxRecDepth 100000 in
set_option maxHeartbeats 4000000 in
theorem walk (w : World) (a0 : Option Addr) (len0 cap0 : Nat) (w0 : CodeOk w a0 len0 cap0) :
    Calls Try.prog 7 #[.slice a0 len0 cap0] w fun e w' => e = .returned (.bool true) ∧ Below w.heap.size w w' := by
  by_cases hl : 1048576 < len0
  · have w0' := w0.2.1
    unfold maxLen at w0'
    clear w0
    go_enter Try.func7, Try.ntmps7
    go_wp2
    go_ret
    exact ⟨rfl, Below.refl _ _⟩
  · have w0' := w0.2.1
    unfold maxLen at w0'
    have hle := w0.1
    have HW := Lib.hid w0
    clear w0
    go_enter Try.func7, Try.ntmps7
    go_wp2_with fail
    refine (drEntryAt_any _ _ _ _ HW.out).mono ?_; rintro e w1 ⟨xs, A, cp, mi, rfl, hx6, hs0, ⟨v0, v1⟩, hO0, hB0⟩
    obtain ⟨m, hm⟩ : ∃ m, xs.length = m := ⟨_, rfl⟩
    rw [hm] at hx6 ⊢
    have HM := Lib.hid hm
    clear hm
    have HQ := Lib.hid hs0.q
    clear hs0
    have hR := hO0.row
    obtain ⟨t, ht⟩ : ∃ t, eaT xs mi = t := ⟨_, rfl⟩
    have HT := Lib.hid ht
    have hBB := Below.refl w1.heap.size w1
    go_wp2_with fail
    refine (iEa_is A cp xs _ _ HM.out (hR.next hBB) HQ.out (by omega) HT.out).mono ?_; rintro e' w2 ⟨rfl, hw2⟩
    have hB2 := bel_next hBB hw2
    go_wp2_with fail
    refine (sEa_is A cp xs _ _ HM.out (hR.next hB2) HQ.out (by omega) HT.out).mono ?_; rintro e' w3 ⟨rfl, hw3⟩
    have hB3 := bel_next hB2 hw3
    cases hE : t.toList.isEmpty
    · obtain ⟨he, hi, hl0⟩ := eaT_ok ht hE
      have hmb : 0 ≤ mi ∧ mi ≤ 1439 := by unfold inV at hi; simpa using hi
      obtain ⟨m0, m1⟩ := hmb
      have hnb := nx_bd mi xs
      obtain ⟨n, hn⟩ : ∃ n, nxF mi 1440 xs = n := ⟨_, rfl⟩
      rw [hn] at hnb
      obtain ⟨n0, n1⟩ := hnb
      have HX : Hid (nxN xs mi = n) := Lib.hid ((nxN_yes hl0 he hi).trans hn)
      have HSTAY : Hid (∀ j : Int, 0 ≤ j → j < n → eaT xs ((mi + j) % 1440) = t) := Lib.hid (fun j j0 j1 => (eaT_stay he hl0 m0 m1 j0 (by rw [hn]; exact j1)).trans ht)
      have HE := Lib.hid he
      clear he hi hl0 hn ht
      have hnl : ¬ n < 1 := by omega
      have hng : ¬ n > 1440 := by omega
      go_wp2_with fail
      go_loopw [6] (fun iv wr => ∃ (k : Nat), iv = .int .i64 k ∧ k ≤ m ∧ Below w1.heap.size w1 wr) (fun iv _ => (m - intOf iv).toNat)
      case atStart => exact ⟨0, rfl, by omega, hB3⟩
      case round =>
        clear hB2 hB3
        obtain ⟨k, rfl, k1, hB⟩ := hrel
        by_cases hlt : k < m
        · have hk : k < xs.length := by rw [HM.out]; exact hlt
          have hki : (k : Int) < (m : Int) := by omega
          obtain ⟨b9, off, rfl, hb, _, _⟩ := rowEntry hR hk
          have HC : Hid (∀ wv, Below w1.heap.size w1 wv → wv.cell? ⟨b9, off + k * 2, none⟩ = some (.int .i64 xs[k].1) ∧ wv.cell? ⟨b9, off + k * 2 + 1, none⟩ = some (.string xs[k].2)) := by
            refine Lib.hid (fun wv hwv => ?_)
            obtain ⟨_, _, e, _, d0, d1⟩ := rowEntry (hR.next hwv) hk
            simp only [Option.some.injEq, Addr.mk.injEq, and_true] at e
            obtain ⟨rfl, rfl⟩ := e
            exact ⟨d0, d1⟩
          have HK := Lib.hid (eaT_at HE.out hk)
          generalize xs[k].1 = mt at HC HK
          generalize xs[k].2 = tx at HC HK
          go_wp2_with fail
          refine wp_region_held_drew (S := (fun w' => Below w1.heap.size w1 w')) (by kernel_rfl) (hB.drew) (fun hHeld => ?_)
          have hB_0 := id hHeld
          refine wpAnyH_take (i := 0) (oi := _) (v := ?_) rfl (by kernel_rfl) (by kernel_rfl) (by kernel_rfl) (fun _ _ _ h => h) (Or.inl ⟨by rfl, ?_⟩) (by assumption) ?_
          (rotate_left); (focus (intro wv hSw; (have qB := hSw);  go_simp; (try with_reducible rfl)))
          try simp only [Act.put, List.getElem_toArray, List.getElem_cons_succ, List.getElem_cons_zero, List.setIfInBounds_toArray, List.set_cons_zero, List.set_cons_succ]
          refine wpAnyH_take (i := 1) (oi := _) (v := ?_) rfl (by kernel_rfl) (by kernel_rfl) (by kernel_rfl) (fun _ _ _ h => h) (Or.inl ⟨by rfl, ?_⟩) (by assumption) ?_
          (rotate_left); (focus (intro wv hSw; (have qB := hSw);  go_simp; (try with_reducible rfl)))
          try simp only [Act.put, List.getElem_toArray, List.getElem_cons_succ, List.getElem_cons_zero, List.setIfInBounds_toArray, List.set_cons_zero, List.set_cons_succ]
          refine wpAnyH_take (i := 2) (oi := _) (v := ?_) rfl (by kernel_rfl) (by kernel_rfl) (by kernel_rfl) (fun _ _ _ h => h) (Or.inl ⟨by rfl, ?_⟩) (by assumption) ?_
          (rotate_left); (focus (intro wv hSw; (have qB := hSw);  go_simp; (try with_reducible rfl)))
          try simp only [Act.put, List.getElem_toArray, List.getElem_cons_succ, List.getElem_cons_zero, List.setIfInBounds_toArray, List.set_cons_zero, List.set_cons_succ]
          refine wpAnyH_take (i := 3) (oi := _) (v := ?_) rfl (by kernel_rfl) (by kernel_rfl) (by kernel_rfl) (fun _ _ _ h => h) (Or.inl ⟨by rfl, ?_⟩) (by assumption) ?_
          (rotate_left); (focus (intro wv hSw; (have qB := hSw);  go_simp; (try with_reducible rfl)))
          try simp only [Act.put, List.getElem_toArray, List.getElem_cons_succ, List.getElem_cons_zero, List.setIfInBounds_toArray, List.set_cons_zero, List.set_cons_succ]
          refine wpAnyH_take (i := 4) (oi := _) (v := ?_) rfl (by kernel_rfl) (by kernel_rfl) (by kernel_rfl) (fun _ _ _ h => h) (Or.inl ⟨by rfl, ?_⟩) (by assumption) ?_
          (rotate_left); (focus (intro wv hSw; (have qB := hSw);  go_simp; (try with_reducible rfl)))
          try simp only [Act.put, List.getElem_toArray, List.getElem_cons_succ, List.getElem_cons_zero, List.setIfInBounds_toArray, List.set_cons_zero, List.set_cons_succ]
          refine wpAnyH_take (i := 5) (oi := _) (v := ?_) rfl (by kernel_rfl) (by kernel_rfl) (by kernel_rfl) (fun _ _ _ h => h) (Or.inl ⟨by rfl, ?_⟩) (by assumption) ?_
          (rotate_left); (focus (intro wv hSw; (have qB := hSw); obtain ⟨u0, u1⟩ := HC.out wv qB; go_simp; (try with_reducible rfl)))
          try simp only [Act.put, List.getElem_toArray, List.getElem_cons_succ, List.getElem_cons_zero, List.setIfInBounds_toArray, List.set_cons_zero, List.set_cons_succ]
          refine wpAnyH_take (i := 7) (oi := _) (v := ?_) rfl (by kernel_rfl) (by kernel_rfl) (by kernel_rfl) (fun _ _ _ h => h) (Or.inl ⟨by rfl, ?_⟩) (by assumption) ?_
          (rotate_left); (focus (intro wv hSw; (have qB := hSw);  go_simp; (try with_reducible rfl)))
          try simp only [Act.put, List.getElem_toArray, List.getElem_cons_succ, List.getElem_cons_zero, List.setIfInBounds_toArray, List.set_cons_zero, List.set_cons_succ]
          refine wpAnyH_take (i := 8) (oi := _) (v := ?_) rfl (by kernel_rfl) (by kernel_rfl) (by kernel_rfl) (fun _ _ _ h => h) (Or.inl ⟨by rfl, ?_⟩) (by assumption) ?_
          (rotate_left); (focus (intro wv hSw; (have qB := hSw);  go_simp; (try with_reducible rfl)))
          try simp only [Act.put, List.getElem_toArray, List.getElem_cons_succ, List.getElem_cons_zero, List.setIfInBounds_toArray, List.set_cons_zero, List.set_cons_succ]
          refine wpAnyH_take (i := 9) (oi := _) (v := ?_) rfl (by kernel_rfl) (by kernel_rfl) (by kernel_rfl) (fun _ _ _ h => h) (Or.inl ⟨by rfl, ?_⟩) (by assumption) ?_
          (rotate_left); (focus (intro wv hSw; (have qB := hSw);  go_simp; (try with_reducible rfl)))
          try simp only [Act.put, List.getElem_toArray, List.getElem_cons_succ, List.getElem_cons_zero, List.setIfInBounds_toArray, List.set_cons_zero, List.set_cons_succ]
          refine wpAnyH_take (i := 10) (oi := _) (v := ?_) rfl (by kernel_rfl) (by kernel_rfl) (by kernel_rfl) (fun _ _ _ h => h) (Or.inl ⟨by rfl, ?_⟩) (by assumption) ?_
          (rotate_left); (focus (intro wv hSw; (have qB := hSw);  go_simp; (try with_reducible rfl)))
          try simp only [Act.put, List.getElem_toArray, List.getElem_cons_succ, List.getElem_cons_zero, List.setIfInBounds_toArray, List.set_cons_zero, List.set_cons_succ]
          refine wpAnyH_take (i := 11) (oi := _) (v := ?_) rfl (by kernel_rfl) (by kernel_rfl) (by kernel_rfl) (fun _ _ _ h => h) (Or.inl ⟨by rfl, ?_⟩) (by assumption) ?_
          (rotate_left); (focus (intro wv hSw; (have qB := hSw); obtain ⟨u0, u1⟩ := HC.out wv qB; go_simp; (try with_reducible rfl)))
          try simp only [Act.put, List.getElem_toArray, List.getElem_cons_succ, List.getElem_cons_zero, List.setIfInBounds_toArray, List.set_cons_zero, List.set_cons_succ]
          refine wpAnyH_ready (rs := [6]) (by kernel_rfl) (by simp) ?_
          refine AllReadyH.cons (o := _) rfl (fun K hK => ?_) AllReadyH.nil
          go_simp
          (go_at_call 23; refine (iEa_is _ cp xs _ _ HM.out (hR.next hB_0) HQ.out (by omega) HK.out).mono ?_; rintro e x0c ⟨rfl, hw_0c⟩)
          refine hK.out _ _ (bel_next hB_0 hw_0c) (fun hHeld => ?_)
          clear hK K
          try simp only [Act.put, List.getElem_toArray, List.getElem_cons_succ, List.getElem_cons_zero, List.setIfInBounds_toArray, List.set_cons_zero, List.set_cons_succ]
          have hB_0c := id hHeld
          refine wpAnyH_take (i := 12) (oi := _) (v := ?_) rfl (by kernel_rfl) (by kernel_rfl) (by kernel_rfl) (fun _ _ _ h => h) (Or.inl ⟨by rfl, ?_⟩) (by assumption) ?_
          (rotate_left); (focus (intro wv hSw; (have qB := hSw);  go_simp; (try with_reducible rfl)))
          try simp only [Act.put, List.getElem_toArray, List.getElem_cons_succ, List.getElem_cons_zero, List.setIfInBounds_toArray, List.set_cons_zero, List.set_cons_succ]
          refine wpAnyH_done (by kernel_rfl) ?_ _
          go_wp2_with fail
          go_roundw
          case rel => exact ⟨k + 1, by go_num, by omega, hB_0c⟩
          case measure => simp [intOf]; omega
        · have hki : ¬ (k : Int) < (m : Int) := by omega
          go_wp2_with fail
          refine (iEx_is A cp xs _ _ HM.out (hR.next hB) HQ.out (by omega) HX.out).mono ?_; rintro e' w5 ⟨rfl, hw5⟩
          have hB5 := bel_next hB hw5
          go_wp2_with fail
          go_loopw [8] (fun iv wr => ∃ (j : Int), iv = .int .i64 j ∧ 1 ≤ j ∧ j ≤ 3000 ∧ Below w1.heap.size w1 wr) (fun iv _ => (n - intOf iv).toNat)
          case atStart => exact ⟨1, rfl, by omega, by omega, hB5⟩
          case round =>
            clear hB5
            obtain ⟨j, rfl, j0, j1, hBj⟩ := hrel
            by_cases hj : j < n
            · have z1 : IntKind.i64.wrap (mi + j) = mi + j := IntWalk.i64_in _ (by omega)
              have z2 : (mi + j).tmod 1440 = (mi + j) % 1440 := Int.tmod_eq_emod_of_nonneg (by omega)
              have z3 : IntKind.i64.wrap ((mi + j) % 1440) = (mi + j) % 1440 := IntWalk.i64_in _ (by omega)
              have HJ := Lib.hid (HSTAY.out j (by omega) hj)
              have hd : n.tdiv 30 = n / 30 := Int.tdiv_eq_ediv_of_nonneg (by omega)
              have hdb : 0 ≤ n / 30 ∧ n / 30 ≤ 48 := by omega
              generalize n / 30 = d at hd hdb
              obtain ⟨d0, d1⟩ := hdb
              have z4 : IntKind.i64.wrap d = d := IntWalk.i64_in _ (by omega)
              have z5 : IntKind.i64.wrap (j + 1) = j + 1 := IntWalk.i64_in _ (by omega)
              have z6 : IntKind.i64.wrap (j + 1 + d) = j + 1 + d := IntWalk.i64_in _ (by omega)
              go_wp2_with fail
              refine (iEa_is A cp xs _ _ HM.out (hR.next hBj) HQ.out (by omega) HJ.out).mono ?_; rintro e' w6 ⟨rfl, hw6⟩
              have hB6 := bel_next hBj hw6
              go_wp2_with fail
              go_roundw
              case rel => exact ⟨j + 1 + d, rfl, by omega, by omega, hB6⟩
              case measure => simp [intOf]; omega
            · have z1 : IntKind.i64.wrap (mi + n) = mi + n := IntWalk.i64_in _ (by omega)
              have z0 : IntKind.i64.wrap (mi + n - 1) = mi + n - 1 := IntWalk.i64_in _ (by omega)
              have z2 : (mi + n - 1).tmod 1440 = (mi + n - 1) % 1440 := Int.tmod_eq_emod_of_nonneg (by omega)
              have z3 : IntKind.i64.wrap ((mi + n - 1) % 1440) = (mi + n - 1) % 1440 := IntWalk.i64_in _ (by omega)
              have HJ : Hid (eaT xs ((mi + n - 1) % 1440) = t) := Lib.hid (by have := HSTAY.out (n - 1) (by omega) (by omega); rwa [show mi + (n - 1) = mi + n - 1 by omega] at this)
              go_wp2_with fail
              refine (iEa_is A cp xs _ _ HM.out (hR.next hBj) HQ.out (by omega) HJ.out).mono ?_; rintro e' w6 ⟨rfl, hw6⟩
              have hB6 := bel_next hBj hw6
              go_wp2
              go_ret
              exact ⟨rfl, bel_next hB0 hB6⟩
    · go_wp2_with fail
      refine (alive_bel _).mono ?_; rintro e' w4 ⟨rfl, hw4⟩
      go_wp2
      go_ret
      exact ⟨rfl, bel_next hB0 (bel_next hB3 hw4)⟩

set_option maxRecDepth 100000 in
theorem lifted (os : Os) (started : os.Started) (H : Type) (enc : TypeId × Value → H) :
    ReturnsInHanded {} Try.checked os 7 .any (Rows.fnEntryAtSpec.pre6 enc Try.prog Try.f7 Rows.fnEntryAtRow.domain false) (Rows.fnEntryAtSpec.post enc Try.prog Try.f7 false true false false) := by
  refine returnsInHanded_of_change (C := Try.checked) own started (by kernel_rfl) Try.func7
    (ChangeSpec.witness6 (enc := enc) (C := Try.checked) false ⟨#[], #[.slice none 0 0], []⟩ 8 (by kernel_rfl) (by kernel_rfl) (by kernel_rfl) (by kernel_rfl)) ?_
  intro W base args ds gs before hval0 hW hcnd _
  have hval : ∀ (j : Nat) t v, Try.f7.params[j]? = some t → args[j]? = some v → Value.okWide Try.prog W .any base t v := hval0
  have hW' := hW
  obtain ⟨p, q, hA0, hV, rfl, hfz, hnd⟩ := hW
  have hA : DataW.TrodAll enc Try.prog W 0 (fun _ => true) true Try.f7.params.toList args.toList ds p := hA0
  rw [Try.params7] at hA hval
  obtain ⟨v0, vs0, d0, ds0, p0, q0, hargs, rfl, rfl, h0, r0⟩ := trodAll_cons hA
  obtain ⟨rfl, rfl, rfl⟩ := trodAll_nil r0
  obtain rfl : args = #[v0] := by cases args; simp_all
  obtain ⟨rfl, rfl⟩ := trodVars_none hV
  have k0 := h0
  have lt0 : ∀ x ∈ p0, x.block < W.heap.size := by obtain ⟨m, hm⟩ := k0; exact DataW.trod_lt m _ _ _ hm
  obtain ⟨a0, len0, cap0, rfl⟩ := okWide_slice Try.underlying22 (hval 0 22 v0 rfl rfl)
  have w0 : CodeOk W a0 len0 cap0 := by
    obtain ⟨fuel, hf⟩ := h0
    rcases open_ints Try.underlying22 Try.underlying5 (by kernel_rfl) hf with ⟨hcs, _⟩ | ⟨x, l, c, zs, hcs, _, hl, hm, hz, _, hcell, hwz⟩
    · simp [Value.cells] at hcs
      obtain ⟨rfl, rfl, rfl⟩ := hcs
      exact code_nil W
    · simp [Value.cells] at hcs
      obtain ⟨rfl, rfl, rfl⟩ := hcs
      exact code_ok hl hm (by simp at hz; omega) hcell hwz
  clear hA0 hval0
  refine (walk W a0 len0 cap0 w0).mono fun e W' ⟨he, bel⟩ => ?_
  subst he
  exact ⟨_, rfl, _, _, _, [], _, [], hW', trodAll_mk1 (shut_bool Try.underlying4 _), (trodAll_cons_mk (Below.trod laidOut (by kernel_rfl) (of_decide_eq_true (by kernel_rfl)) k0 bel lt0) trodAll_mk0), rfl, bel.frame _, fun h => by cases h⟩

theorem over : Rows.fnEntryAtRow.holds Try.pinned (OpenSpec.ofChange Rows.fnEntryAtSpec) :=
  OpenClaim.holds_of_wide 7 Try.f7 rfl rfl rfl rfl rfl rfl rfl ⟨rfl, rfl, rfl, rfl, rfl⟩ rfl rfl rfl rfl rfl (by kernel_rfl) Try.func7 (by kernel_rfl)
    (of_decide_eq_true (by kernel_rfl)) (by unfold Func.isWrapper; first | (rw [if_pos (by decide +kernel)]; kernel_rfl) | (rw [if_neg (by decide +kernel)]; exact ⟨rfl, rfl⟩))
    (fun os started H enc _ => lifted os started H enc)

/-- The statement. -/
theorem proved : Rows.FnEntryAtSaid :=
  over
#print axioms proved
end Go.Proofs.Ytpmbjdfecbmgoab.fnEntryAt
