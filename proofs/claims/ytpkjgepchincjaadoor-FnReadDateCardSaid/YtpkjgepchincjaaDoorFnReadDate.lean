/- FnReadDate: whatever the input, the law returns true, and its arguments read as they did. No conditions beyond those of the statement's row. -/
import Derived.Test.YtpkjgepchincjaaDoorDt
import Derived.Test.YtpkjgepchincjaaDoorLp
import Derived.Test.YtpkjgepchincjaaDoorCards
import Derived.Test.YtpkjgepchincjaaDoorTie
import Derived.LaidMore
import Derived.LaidHandle
import Derived.LaidLaws
import Derived.Stop.LaidErr
import Derived.Lib.LaidTab
namespace Go.Proofs.YtpkjgepchincjaaDoor.fnReadDate
open Go.Proofs.YtpkjgepchincjaaDoor
open Go.ChangeShapes Go.WideShapes Go.ChangeAt Go.RowKit Go.Joins
set_option linter.unusedVariables false
set_option linter.unusedSimpArgs false
set_option linter.unnecessarySimpa false

theorem own : ownKnob Tryd.prog.godebug = none := by kernel_rfl
theorem laidOut : laidOutB Tryd.prog = true := by kernel_rfl

set_option maxRecDepth 100000 in
set_option maxHeartbeats 4000000 in
theorem walk (w : World) (a0 : Option Addr) (len0 cap0 : Nat) (w0 : CodeOk w a0 len0 cap0) (ht : Tab w) :
    Calls Tryd.prog 4 #[.slice a0 len0 cap0] w fun e w' => e = .returned (.bool true) ∧ Below w.heap.size w w' := by
  have HT := Lib.hid ht
  clear ht
  by_cases hl : 1048576 < len0
  · have w0' := w0.2.1
    unfold maxLen at w0'
    clear w0
    go_enter Tryd.func4, Tryd.ntmps4
    go_wp2
    go_ret
    exact ⟨rfl, Below.refl _ _⟩
  · have w0' := w0.2.1
    unfold maxLen at w0'
    have hle := w0.1
    have HW := Lib.hid w0
    clear w0
    go_enter Tryd.func4, Tryd.ntmps4
    go_wp2_with fail
    refine (drReadDate_any _ _ _ _ HW.out).mono ?_; rintro e w1 ⟨s, rfl, hs, hB1⟩
    have hs1 : s.size ≤ maxLen := by unfold maxLen; omega
    have HS := Lib.hid hs1
    clear hs1
    go_wp2_with fail
    refine (iRD_any _ _ HS.out (HT.out.next hB1)).mono ?_; rintro e w2 ⟨y, m, d, ok, rfl, R1, hw2⟩
    have hB2 := bel_next hB1 hw2
    have hP2 := blk_new w2 (.cells #[.int .i64 y, .int .i64 m, .int .i64 d] 24)
    go_wp2_with fail
    refine (sRD_any _ _ HS.out).mono ?_; rintro e w3 ⟨y', m', d', ok', rfl, R2, hw3⟩
    obtain ⟨rfl, rfl, rfl, rfl⟩ := R1.unique R2
    clear R2
    obtain ⟨hP3, hC3⟩ := ownb hw3
    have hB3 := bel_next hB2 hC3
    have hP4 := blk_old hP3 (.cells #[.int .i64 y, .int .i64 m, .int .i64 d] 24)
    obtain ⟨c0, c1, c2, f0, f1, f2, hz⟩ := blk3 hP3
    cases ok
    · obtain ⟨rfl, rfl, rfl⟩ : y = 0 ∧ m = 0 ∧ d = 0 := by
        rcases R1 with ⟨h, _⟩ | ⟨_, h0, h1, h2, _⟩
        · cases h
        · exact ⟨h0, h1, h2⟩
      clear R1
      go_wp2_with fail
      refine (alive_any _).mono ?_; rintro e w4 ⟨rfl, rfl⟩
      go_wp2
      go_ret
      exact ⟨rfl, hB3.alloc hB3.size _⟩
    · obtain ⟨hv, hl⟩ : valB y m d = true ∧ s.data.toList = dateL y m d := by
        rcases R1 with ⟨_, h1, h2⟩ | ⟨h, _⟩
        · exact ⟨h1, h2⟩
        · cases h
      have hsz : s.size = 10 := by have := dateL_len hv; rw [← hl] at this; simpa using this
      have HSL : Hid (bs (dateL y m d) = s) := by show _ = _; rw [← hl]; exact bs_list s
      have HN : Hid (∀ y' m' d' ok, ReadIs (s ++ { data := #[48] }).data.toList y' m' d' ok → ok = false) := by
        intro y' m' d' ok h
        rcases h with ⟨_, h1, h2⟩ | ⟨h, _⟩
        · exfalso
          have h3 := dateL_len h1
          rw [← h2] at h3
          have h4 : (s ++ { data := #[48] }).data.toList.length = 11 := by simp [ByteArray.data_append]; omega
          omega
        · exact h
      have HZ : Hid ((s ++ { data := #[48] }).size ≤ maxLen) := by
        show _ ≤ _
        have : (s ++ { data := #[48] }).size = 11 := by simp [ByteArray.size_append, hsz]; rfl
        unfold maxLen; omega
      clear R1 hv hl
      go_wp2_with fail
      refine (iRD_any _ _ HZ.out (HT.out.next (hB3.alloc hB3.size _))).mono ?_; rintro e w4 ⟨y', m', d', ok, rfl, R3, hw4⟩
      obtain rfl := HN.out _ _ _ _ R3
      clear R3
      have hP5 := blk_next hP4 hw4
      have hB5 := bel_next (hB3.alloc hB3.size _) hw4
      have hP6 := blk_old hP5 (.cells #[.int .i64 y', .int .i64 m', .int .i64 d'] 24)
      obtain ⟨c0', c1', c2', f0', f1', f2', hz'⟩ := blk3 hP6
      go_wp2_with fail
      refine (iDT_any _ _ _ _ (HT.out.next (hB5.alloc hB5.size _))).mono ?_; rintro e w6 ⟨rfl, hw6⟩
      rw [HSL.out]
      go_wp2
      go_ret
      exact ⟨rfl, bel_next (hB5.alloc hB5.size _) hw6⟩

theorem table {W : World} (h : laidMetH Tryd.prog Rows.fnReadDateRow.laid W) : Tab W := by
  have h' : laidMet Tryd.prog Rows.fnReadDateRow.laid W := h
  exact Lib.tabIs_of_head (rest := []) (g := 0) (t := 89) (e := 76) (n := 20) (by kernel_rfl) (by kernel_rfl) Tryd.underlying89 Tryd.underlying76 (by kernel_rfl) (by kernel_rfl) (laidMet.tail (laidMet.tail h'))
theorem door_met (os : Os) (args : Array Value) : laidMetH Tryd.prog Rows.fnReadDateRow.laid ((World.doorLaid Tryd.prog 400 os).forCall (fun _ _ => 0) ⟨#[], args, []⟩).memory :=
  laidMetH_of_parts3 (fuel := 8) (laidMet_of_run' 8 (by kernel_rfl) (by kernel_rfl)) (by kernel_rfl) (by kernel_rfl)
set_option maxRecDepth 100000 in
theorem lifted (os : Os) (started : os.Started) (H : Type) (enc : TypeId × Value → H) :
    ReturnsInHanded {} Tryd.checked os 4 .any (fun w args => (Rows.fnReadDateSpec.pre enc Tryd.prog Tryd.f4 Rows.fnReadDateRow.domain false w args ∧ laidMetH Tryd.prog Rows.fnReadDateRow.laid w) ∧ sizedMet enc Tryd.prog Tryd.f4 (OpenSpec.ofChange Rows.fnReadDateSpec) false w args) (Rows.fnReadDateSpec.post enc Tryd.prog Tryd.f4 false true false false) := by
  refine returnsInHanded_of_change_and (C := Tryd.checked) (X := fun w _ => laidMetH Tryd.prog Rows.fnReadDateRow.laid w) (fun _ _ _ hh h => h.of_heap hh) own started (by kernel_rfl) Tryd.func4
    (ChangeSpec.witness_shaped (enc := enc) (C := Tryd.checked) (os := os) (X := fun w _ => laidMetH Tryd.prog Rows.fnReadDateRow.laid w) false (World.doorLaid Tryd.prog 400 os) #[.slice none 0 0] 8 rfl (World.shaped_of_RefB (by kernel_rfl) (by kernel_rfl)) (by kernel_rfl) (by kernel_rfl) (by kernel_rfl) (door_met os _)) ?_
  intro W base args ds gs before hval0 hW _ _ hL _
  have hval : ∀ (j : Nat) t v, Tryd.f4.params[j]? = some t → args[j]? = some v → Value.okWide Tryd.prog W .any base t v := hval0
  have hW' := hW
  obtain ⟨p, q, hA0, hV, rfl, hfz, hnd⟩ := hW
  have hA : DataW.TrodAll enc Tryd.prog W 0 (fun _ => true) true Tryd.f4.params.toList args.toList ds p := hA0
  rw [Tryd.params4] at hA hval
  obtain ⟨v0, vs0, d0, ds0, p0, q0, hargs, rfl, rfl, h0, r0⟩ := trodAll_cons hA
  obtain ⟨rfl, rfl, rfl⟩ := trodAll_nil r0
  obtain rfl : args = #[v0] := by cases args; simp_all
  obtain ⟨rfl, rfl⟩ := trodVars_none hV
  have k0 := h0
  have lt0 : ∀ x ∈ p0, x.block < W.heap.size := by obtain ⟨m, hm⟩ := k0; exact DataW.trod_lt m _ _ _ hm
  obtain ⟨a0, len0, cap0, rfl⟩ := okWide_slice Tryd.underlying22 (hval 0 22 v0 rfl rfl)
  have w0 : CodeOk W a0 len0 cap0 := by
    obtain ⟨fuel, hf⟩ := h0
    rcases open_ints Tryd.underlying22 Tryd.underlying5 (by kernel_rfl) hf with ⟨hcs, _⟩ | ⟨x, l, c, zs, hcs, _, hl, hm, hz, _, hcell, hwz⟩
    · simp [Value.cells] at hcs
      obtain ⟨rfl, rfl, rfl⟩ := hcs
      exact code_nil W
    · simp [Value.cells] at hcs
      obtain ⟨rfl, rfl, rfl⟩ := hcs
      exact code_ok hl hm (by simp at hz; omega) hcell hwz
  clear hA0 hval0
  have ht := table hL
  refine (walk W a0 len0 cap0 w0 ht).mono fun e W' ⟨he, bel⟩ => ?_
  subst he
  exact ⟨_, rfl, _, _, _, [], _, [], hW', trodAll_mk1 (shut_bool Tryd.underlying4 _), (trodAll_cons_mk (Below.trod laidOut (by kernel_rfl) (of_decide_eq_true (by kernel_rfl)) k0 bel lt0) trodAll_mk0), rfl, bel.frame _, fun h => by cases h⟩

theorem over : Rows.fnReadDateRow.holds Tryd.pinned (OpenSpec.ofChange Rows.fnReadDateSpec) :=
  OpenClaim.holds_of_wide 4 Tryd.f4 rfl rfl rfl rfl rfl rfl rfl ⟨rfl, rfl, rfl, rfl, rfl⟩ rfl rfl rfl rfl rfl (by kernel_rfl) Tryd.func4 (by kernel_rfl)
    (of_decide_eq_true (by kernel_rfl)) (by unfold Func.isWrapper; first | (rw [if_pos (by decide +kernel)]; kernel_rfl) | (rw [if_neg (by decide +kernel)]; exact ⟨rfl, rfl⟩))
    (fun os started H enc _ => lifted os started H enc)

theorem said : Rows.FnReadDateSaid :=
  over
theorem plain (f : FuncId) (fn : Func) (hf : Tryd.pinned.checked.prog.funcNamed "loop.example/sundials/laws.FnReadDate" = some f) (hfn : Tryd.pinned.checked.prog.funcs[f]? = some fn) :
    false = Tryd.pinned.checked.prog.looks [] ∧ ∀ (j : Nat) t, fn.params[j]? = some t → Tryd.pinned.checked.prog.wantsStandIn t = false := by
  obtain rfl : f = 4 := Option.some.inj ((show Tryd.prog.funcNamed "loop.example/sundials/laws.FnReadDate" = some 4 by kernel_rfl).symm.trans hf) |>.symm
  obtain rfl : fn = Tryd.f4 := (Option.some.inj (Tryd.func4.symm.trans hfn)).symm
  refine ⟨by kernel_rfl, fun j t ht => ?_⟩
  have hm : t ∈ Tryd.f4.params.toList := by simpa using Array.mem_of_getElem? ht
  have hall : (Tryd.f4.params.toList.all fun u => !Tryd.prog.wantsStandIn u) = true := by kernel_rfl
  exact (show Tryd.prog.wantsStandIn t = false by simpa using List.all_eq_true.1 hall t hm)

/-- The statement: the card. -/
theorem card : Rows.FnReadDateCardSaid :=
  Claim7.holds_tied_plain_at .later [] _ _ _ _ said (fun _ h => by cases h) (by kernel_rfl) (fun _ h => by cases h) fnReadDate_row_tie rfl ⟨rfl, rfl⟩ (by kernel_rfl) rfl plain (by kernel_rfl)
#print axioms card
end Go.Proofs.YtpkjgepchincjaaDoor.fnReadDate
