/- FnDateText: whatever the input, the law returns true, and its arguments read as they did. No conditions beyond those of the statement's row. -/
import Derived.Test.YtpkjgepchincjaaDoorDt
import Derived.Test.YtpkjgepchincjaaDoorLp
import Derived.Test.YtpkjgepchincjaaDoorCd
import Derived.Test.YtpkjgepchincjaaDoorTx
import Derived.Test.YtpkjgepchincjaaDoorCards
import Derived.Test.YtpkjgepchincjaaDoorTie
import Derived.LaidMore
import Derived.LaidHandle
import Derived.LaidLaws
import Derived.Stop.LaidErr
import Derived.Lib.LaidTab
namespace Go.Proofs.YtpkjgepchincjaaDoor.fnDateText
open Go.Proofs.YtpkjgepchincjaaDoor
open Go.ChangeShapes Go.WideShapes Go.ChangeAt Go.RowKit Go.Joins
set_option linter.unusedVariables false
set_option linter.unusedSimpArgs false
set_option linter.unnecessarySimpa false

theorem own : ownKnob Tryd.prog.godebug = none := by kernel_rfl
theorem laidOut : laidOutB Tryd.prog = true := by kernel_rfl

set_option maxRecDepth 100000 in
set_option maxHeartbeats 4000000 in
theorem walk (w : World) (a0 : Option Addr) (len0 cap0 : Nat) (w0 : CodeOk w a0 len0 cap0) (ht : Tab w) :
    Calls Tryd.prog 3 #[.slice a0 len0 cap0] w fun e w' => e = .returned (.bool true) ∧ Below w.heap.size w w' := by
  have HT := Lib.hid ht
  clear ht
  by_cases hl : 1048576 < len0
  · have w0' := w0.2.1
    unfold maxLen at w0'
    clear w0
    go_enter Tryd.func3, Tryd.ntmps3
    go_wp2
    go_ret
    exact ⟨rfl, Below.refl _ _⟩
  · have w0' := w0.2.1
    unfold maxLen at w0'
    have hle := w0.1
    have HW := Lib.hid w0
    clear w0
    go_enter Tryd.func3, Tryd.ntmps3
    go_wp2_with fail
    refine (drDateText_any _ _ _ _ HW.out).mono ?_; rintro e w1 ⟨y, m, d, rfl, y0, y1, m0, m1, d0, d1, hB1⟩
    clear y0 y1 m0 m1 d0 d1
    go_wp2_with fail
    refine (iDT_any _ _ _ _ (HT.out.next (hB1.alloc hB1.size _))).mono ?_; rintro e w2 ⟨rfl, hw2⟩
    obtain ⟨hP2, hC2⟩ := ownb hw2
    have hB2 := bel_next hB1 hC2
    obtain ⟨c0, c1, c2, f0, f1, f2, hz⟩ := blk3 hP2
    go_wp2_with fail
    refine (sDT_any _ _ _ _).mono ?_; rintro e w3 ⟨rfl, hw3⟩
    have hP3 := blk_next hP2 hw3
    have hB3 := bel_next hB2 hw3
    clear c0 c1 c2 f0 f1 f2 hz hP2 hw2 hw3
    obtain ⟨c0, c1, c2, f0, f1, f2, hz⟩ := blk3 hP3
    cases hv : valB y m d
    · have HV := Lib.hid hv
      have hL : bs (dateL y m d) = { data := #[] } := by rw [dateL_f hv]; rfl
      rw [hL]
      clear hv hL
      go_wp2_with fail
      refine (iDV_any _ _ _ _).mono ?_; rintro e w4 ⟨rfl, hw4⟩
      rw [HV.out]
      have hB4 := bel_next hB3 hw4
      go_wp2_with fail
      refine (alive_any _).mono ?_; rintro e w5 ⟨rfl, rfl⟩
      go_wp2
      go_ret
      exact ⟨rfl, hB4⟩
    · have HV := Lib.hid hv
      have hsz : (bs (dateL y m d)).size = 10 := by rw [bs_size]; exact dateL_len hv
      have HS : Hid ((bs (dateL y m d)).size ≤ maxLen) := by show _ ≤ _; unfold maxLen; omega
      have hne : (bs (dateL y m d)).toList.isEmpty = false := by rw [bs_toList, dateL_t hv]; rfl
      clear hv
      go_wp2_with fail
      refine (iRD_any _ _ HS.out (HT.out.next hB3)).mono ?_; rintro e w4 ⟨y', m', d', ok', rfl, R, hw4⟩
      rw [← show (bs (dateL y m d)).data.toList = dateL y m d by simp [bs]] at hne
      obtain ⟨rfl, rfl, rfl, rfl⟩ := R.unique (.inl ⟨rfl, HV.out, by simp [bs]⟩)
      clear R hne
      have hP4 := blk_next hP3 hw4
      have hB4 := bel_next hB3 hw4
      obtain ⟨c0', c1', c2', f0', f1', f2', hz'⟩ := blk3 hP4
      clear c0 c1 c2 f0 f1 f2 hz
      have hb := num_bd HV.out
      by_cases hn : num y' m' d' + 1 ≤ 1460969
      · go_wp2_with fail
        refine (iDA_t _ _ _ _ _ HV.out (by omega) hn).mono ?_; rintro e w5 ⟨a, b, c, rfl, v5, n5, hw5⟩
        obtain ⟨hX5, hC5⟩ := ownb hw5
        have hD5 := blk_next hP4 hC5
        have hB5 := bel_next hB4 hC5
        obtain ⟨d0, d1, d2, g0, g1, g2, hz5⟩ := blk3 hD5
        obtain ⟨x0, x1, x2, k0, k1, k2, hx5⟩ := blk3 hX5
        clear c0' c1' c2' f0' f1' f2' hz' hP3 hP4 hw4 hw5 hC5
        go_wp2_with fail
        refine (iDT_any _ _ _ _ (HT.out.next (hB5.alloc hB5.size _))).mono ?_; rintro e w6 ⟨rfl, hw6⟩
        have HX := Lib.hid (text_next HV.out v5 n5)
        clear v5 n5
        go_wp2_with fail
        go_ret
        refine ⟨?_, bel_next (hB5.alloc hB5.size _) hw6⟩
        simp only [Array.getD, List.size_toArray, List.getElem_toArray, List.length_cons, List.length_nil]
        simp
        rw [bs_toList, bs_toList]
        exact HX.out
      · have HN := Lib.hid (fun h : valB y' m' d' = true ∧ 0 ≤ num y' m' d' + 1 ∧ num y' m' d' + 1 ≤ 1460969 => hn h.2.2)
        clear hn
        go_wp2_with fail
        refine (iDA_f _ _ _ _ _ HN.out).mono ?_; rintro e w5 ⟨rfl, hw5⟩
        obtain ⟨hX5, hC5⟩ := ownb hw5
        have hD5 := blk_next hP4 hC5
        have hB5 := bel_next hB4 hC5
        obtain ⟨d0, d1, d2, g0, g1, g2, hz5⟩ := blk3 hD5
        obtain ⟨x0, x1, x2, k0, k1, k2, hx5⟩ := blk3 hX5
        clear c0' c1' c2' f0' f1' f2' hz' hP3 hP4 hw4 hw5 hC5
        go_wp2_with fail
        go_ret
        exact ⟨rfl, hB5.alloc hB5.size _⟩

theorem table {W : World} (h : laidMetH Tryd.prog Rows.fnDateTextRow.laid W) : Tab W := by
  have h' : laidMet Tryd.prog Rows.fnDateTextRow.laid W := h
  exact Lib.tabIs_of_head (rest := []) (g := 0) (t := 89) (e := 76) (n := 20) (by kernel_rfl) (by kernel_rfl) Tryd.underlying89 Tryd.underlying76 (by kernel_rfl) (by kernel_rfl) (laidMet.tail (laidMet.tail h'))
theorem door_met (os : Os) (args : Array Value) : laidMetH Tryd.prog Rows.fnDateTextRow.laid ((World.doorLaid Tryd.prog 400 os).forCall (fun _ _ => 0) ⟨#[], args, []⟩).memory :=
  laidMetH_of_parts3 (fuel := 8) (laidMet_of_run' 8 (by kernel_rfl) (by kernel_rfl)) (by kernel_rfl) (by kernel_rfl)
set_option maxRecDepth 100000 in
theorem lifted (os : Os) (started : os.Started) (H : Type) (enc : TypeId × Value → H) :
    ReturnsInHanded {} Tryd.checked os 3 .any (fun w args => (Rows.fnDateTextSpec.pre enc Tryd.prog Tryd.f3 Rows.fnDateTextRow.domain false w args ∧ laidMetH Tryd.prog Rows.fnDateTextRow.laid w) ∧ sizedMet enc Tryd.prog Tryd.f3 (OpenSpec.ofChange Rows.fnDateTextSpec) false w args) (Rows.fnDateTextSpec.post enc Tryd.prog Tryd.f3 false true false false) := by
  refine returnsInHanded_of_change_and (C := Tryd.checked) (X := fun w _ => laidMetH Tryd.prog Rows.fnDateTextRow.laid w) (fun _ _ _ hh h => h.of_heap hh) own started (by kernel_rfl) Tryd.func3
    (ChangeSpec.witness_shaped (enc := enc) (C := Tryd.checked) (os := os) (X := fun w _ => laidMetH Tryd.prog Rows.fnDateTextRow.laid w) false (World.doorLaid Tryd.prog 400 os) #[.slice none 0 0] 8 rfl (World.shaped_of_RefB (by kernel_rfl) (by kernel_rfl)) (by kernel_rfl) (by kernel_rfl) (by kernel_rfl) (door_met os _)) ?_
  intro W base args ds gs before hval0 hW _ _ hL _
  have hval : ∀ (j : Nat) t v, Tryd.f3.params[j]? = some t → args[j]? = some v → Value.okWide Tryd.prog W .any base t v := hval0
  have hW' := hW
  obtain ⟨p, q, hA0, hV, rfl, hfz, hnd⟩ := hW
  have hA : DataW.TrodAll enc Tryd.prog W 0 (fun _ => true) true Tryd.f3.params.toList args.toList ds p := hA0
  rw [Tryd.params3] at hA hval
  obtain ⟨v0, vs0, d0, ds0, p0, q0, hargs, rfl, rfl, h0, r0⟩ := trodAll_cons hA
  obtain ⟨rfl, rfl, rfl⟩ := trodAll_nil r0
  obtain rfl : args = #[v0] := by cases args; simp_all
  obtain ⟨rfl, rfl⟩ := trodVars_none hV
  have k0 := h0
  have lt0 : ∀ x ∈ p0, x.block < W.heap.size := by obtain ⟨m, hm⟩ := k0; exact DataW.trod_lt m _ _ _ hm
  obtain ⟨a0, len0, cap0, rfl⟩ := okWide_slice Tryd.underlying22 (hval 0 22 v0 rfl rfl)
  have w0 : CodeOk W a0 len0 cap0 := by
    obtain ⟨fuel, hf⟩ := h0
    rcases open_ints Tryd.underlying22 Tryd.underlying5 (by kernel_rfl) hf with ⟨hcs, _⟩ | ⟨x, l, c, zs, hcs, _, hl, hm, hz, _, hcell, hwz⟩
    · simp [Value.cells] at hcs
      obtain ⟨rfl, rfl, rfl⟩ := hcs
      exact code_nil W
    · simp [Value.cells] at hcs
      obtain ⟨rfl, rfl, rfl⟩ := hcs
      exact code_ok hl hm (by simp at hz; omega) hcell hwz
  clear hA0 hval0
  have ht := table hL
  refine (walk W a0 len0 cap0 w0 ht).mono fun e W' ⟨he, bel⟩ => ?_
  subst he
  exact ⟨_, rfl, _, _, _, [], _, [], hW', trodAll_mk1 (shut_bool Tryd.underlying4 _), (trodAll_cons_mk (Below.trod laidOut (by kernel_rfl) (of_decide_eq_true (by kernel_rfl)) k0 bel lt0) trodAll_mk0), rfl, bel.frame _, fun h => by cases h⟩

theorem over : Rows.fnDateTextRow.holds Tryd.pinned (OpenSpec.ofChange Rows.fnDateTextSpec) :=
  OpenClaim.holds_of_wide 3 Tryd.f3 rfl rfl rfl rfl rfl rfl rfl ⟨rfl, rfl, rfl, rfl, rfl⟩ rfl rfl rfl rfl rfl (by kernel_rfl) Tryd.func3 (by kernel_rfl)
    (of_decide_eq_true (by kernel_rfl)) (by unfold Func.isWrapper; first | (rw [if_pos (by decide +kernel)]; kernel_rfl) | (rw [if_neg (by decide +kernel)]; exact ⟨rfl, rfl⟩))
    (fun os started H enc _ => lifted os started H enc)

theorem said : Rows.FnDateTextSaid :=
  over
theorem plain (f : FuncId) (fn : Func) (hf : Tryd.pinned.checked.prog.funcNamed "loop.example/sundials/laws.FnDateText" = some f) (hfn : Tryd.pinned.checked.prog.funcs[f]? = some fn) :
    false = Tryd.pinned.checked.prog.looks [] ∧ ∀ (j : Nat) t, fn.params[j]? = some t → Tryd.pinned.checked.prog.wantsStandIn t = false := by
  obtain rfl : f = 3 := Option.some.inj ((show Tryd.prog.funcNamed "loop.example/sundials/laws.FnDateText" = some 3 by kernel_rfl).symm.trans hf) |>.symm
  obtain rfl : fn = Tryd.f3 := (Option.some.inj (Tryd.func3.symm.trans hfn)).symm
  refine ⟨by kernel_rfl, fun j t ht => ?_⟩
  have hm : t ∈ Tryd.f3.params.toList := by simpa using Array.mem_of_getElem? ht
  have hall : (Tryd.f3.params.toList.all fun u => !Tryd.prog.wantsStandIn u) = true := by kernel_rfl
  exact (show Tryd.prog.wantsStandIn t = false by simpa using List.all_eq_true.1 hall t hm)

/-- The statement: the card. -/
theorem card : Rows.FnDateTextCardSaid :=
  Claim7.holds_tied_plain_at .later [] _ _ _ _ said (fun _ h => by cases h) (by kernel_rfl) (fun _ h => by cases h) fnDateText_row_tie rfl ⟨rfl, rfl⟩ (by kernel_rfl) rfl plain (by kernel_rfl)
#print axioms card
end Go.Proofs.YtpkjgepchincjaaDoor.fnDateText
