/- FnWaterOk: whatever the input, the law returns true, and its arguments read as they did. No conditions beyond those of the statement's row. -/
import Derived.Test.YtoeblgfaemhbjaaQe
import Derived.Test.YtoeblgfaemhbjaaQw
import Derived.Test.YtoeblgfaemhbjaaQn
import Derived.Test.YtoeblgfaemhbjaaLp
namespace Go.Proofs.Ytoeblgfaemhbjaa.fnWaterOk
open Go.Proofs.Ytoeblgfaemhbjaa
open Go.ChangeShapes Go.WideShapes Go.ChangeAt Go.RowKit Go.Joins
set_option linter.unusedVariables false
set_option linter.unusedSimpArgs false
set_option linter.unnecessarySimpa false

theorem own : ownKnob Try.prog.godebug = none := by kernel_rfl
theorem laidOut : laidOutB Try.prog = true := by kernel_rfl

set_option maxRecDepth 100000 in
set_option maxHeartbeats 4000000 in
theorem walk (w : World) (a0 : Option Addr) (len0 cap0 : Nat) (w0 : CodeOk w a0 len0 cap0) :
    Calls Try.prog 7 #[.slice a0 len0 cap0] w fun e w' => e = .returned (.bool true) ∧ Below w.heap.size w w' := by
  by_cases hl : 1048576 < len0
  · have w0' := w0.2.1
    unfold maxLen at w0'
    clear w0
    go_enter Try.func7, Try.ntmps7
    go_wp2
    go_ret
    exact ⟨rfl, Below.refl _ _⟩
  · have w0' := w0.2.1
    unfold maxLen at w0'
    have hle := w0.1
    have HW := Lib.hid w0
    clear w0
    go_enter Try.func7, Try.ntmps7
    obtain ⟨i0, hi0, hz0, hz1, hz2⟩ := info_parts infoBool
    have HI := Lib.hid (And.intro hi0 (And.intro hz0 (And.intro hz1 hz2)))
    clear hi0 hz0 hz1 hz2
    go_wp2_with fail
    refine (drWaterOk_any _ _ _ _ HW.out).mono ?_; rintro e w1 ⟨wet, full, xs, ds, A, C, ca, cc, rfl, ⟨wa0, wa1⟩, ⟨fa0, fa1⟩, hx6, hd6, hO0, hQ0, hB0⟩
    obtain ⟨m, hm⟩ : ∃ m, xs.length = m := ⟨_, rfl⟩
    obtain ⟨q, hq⟩ : ∃ q, ds.length = q := ⟨_, rfl⟩
    rw [hm] at hx6 ⊢
    rw [hq] at hd6 ⊢
    have HM := Lib.hid hm
    have HQ := Lib.hid hq
    clear hm hq
    obtain ⟨v, hv⟩ : ∃ v, woB wet full xs ds = v := ⟨_, rfl⟩
    have HV := Lib.hid hv
    clear hv
    cases v
    · go_wp2_with fail
      refine (iWo_is _ _ _ _ xs ds _ HM.out HQ.out hO0.row hQ0.row (by omega) (by omega) HV.out).mono ?_; rintro e' w1 ⟨rfl, hw1⟩
      have hO1 := hO0.next hw1
      have hQ1 := hQ0.next hw1
      have hB1 := bel_next hB0 hw1
      go_wp2_with fail
      refine (sWo_is _ _ _ _ xs ds _ HM.out HQ.out hO1.row hQ1.row (by omega) (by omega) HV.out).mono ?_; rintro e' w2 ⟨rfl, hw2⟩
      have hO2 := hO1.next hw2
      have hQ2 := hQ1.next hw2
      have hB2 := bel_next hB1 hw2
      go_wp2_with fail
      refine (alive_any _).mono ?_; rintro e' w' ⟨rfl, rfl⟩
      go_wp2
      go_ret
      exact ⟨rfl, hB2⟩
    · obtain ⟨hb9, hqm, _⟩ := woB_iff.1 HV.out
      rw [HM.out, HQ.out] at hqm
      subst hqm
      have hle := water_le HV.out
      have hev := water_every HV.out
      rw [HQ.out] at hev
      have HEV := Lib.hid hev
      obtain ⟨l, hl9⟩ : ∃ l, wrL wet full xs = l := ⟨_, rfl⟩
      obtain ⟨c9, hc9⟩ : ∃ c, wrC wet full xs = c := ⟨_, rfl⟩
      rw [hc9] at hle
      obtain ⟨hc0, hcl⟩ := hle
      have HL := Lib.hid hl9
      have HC := Lib.hid hc9
      obtain ⟨dy, hdy⟩ : ∃ d, dyC ds = d := ⟨_, rfl⟩
      rw [hdy] at hcl
      have HDY := Lib.hid hdy
      have HRL : ∀ k : Nat, Hid ((List.replicate k true).length = k) := fun k => Lib.hid (by simp)
      clear hb9 hev hl9 hc9 hdy
      go_wp2_with fail
      refine (iWo_is _ _ _ _ xs ds _ HM.out HQ.out hO0.row hQ0.row (by omega) (by omega) HV.out).mono ?_; rintro e' w1 ⟨rfl, hw1⟩
      have hO1 := hO0.next hw1
      have hQ1 := hQ0.next hw1
      have hB1 := bel_next hB0 hw1
      go_wp2_with fail
      refine (sWo_is _ _ _ _ xs ds _ HM.out HQ.out hO1.row hQ1.row (by omega) (by omega) HV.out).mono ?_; rintro e' w2 ⟨rfl, hw2⟩
      have hO2 := hO1.next hw2
      have hQ2 := hQ1.next hw2
      have hB2 := bel_next hB1 hw2
      go_wp2_with fail
      have hzn := hB2.size
      have HCL : Hid (∀ g, C = some ⟨g, 0, none⟩ → g < w2.heap.size) := Lib.hid (fun g hg => by rcases hQ2.form with ⟨e, _⟩ | ⟨g1, e, _, h9⟩; rw [e] at hg; cases hg; rw [e] at hg; cases hg; exact h9)
      have HAL : Hid (∀ g, A = some ⟨g, 0, none⟩ → g < w2.heap.size) := Lib.hid (fun g hg => by rcases hO2.form with ⟨e, _⟩ | ⟨g1, e, _, h9⟩; rw [e] at hg; cases hg; rw [e] at hg; cases hg; exact h9)
      go_loopw [8, 9, 10] (fun cv av iv wr => ∃ (k q2 g cq : Nat) (c : Int), iv = .int .i64 k ∧ k ≤ q ∧ q2 = k ∧ cv = .int .i64 c ∧ av = .slice (some ⟨g, 0, none⟩) q2 cq ∧ 0 ≤ c ∧ c ≤ k ∧ Hid (c + dyC (ds.drop k) = dy) ∧ SOwn encBool wr w2.heap.size 4 (some ⟨g, 0, none⟩) cq (List.replicate k true) ∧ SOwn encNum wr w.heap.size 3 A ca xs ∧ SOwn encBool wr w.heap.size 4 C cc ds ∧ Below w.heap.size w wr) (fun _ _ iv _ => (q - intOf iv).toNat)
      case atStart => exact ⟨0, 0, _, 0, 0, rfl, by omega, rfl, rfl, rfl, by omega, by omega, Lib.hid (by rw [List.drop_zero, HDY.out]; omega), SOwn.empty (blk_new w2 _) (Nat.le_refl _), hO2.alloc _, hQ2.alloc _, hB2.alloc hB2.size _⟩
      case round =>
        clear hO2 hQ2
        obtain ⟨k, q2, g, cq, c, rfl, k1, qk, rfl, rfl, c0, c1, HE, hR, hO, hQ, hB⟩ := hrel
        have QK := Lib.hid qk
        obtain ⟨hg0, hg1⟩ : w2.heap.size ≤ g ∧ g < wr.heap.size := by rcases hR.form with ⟨e, _⟩ | ⟨g1, e, h8, h9⟩; cases e; cases e; exact ⟨h8, h9⟩
        have hq14 : q2 ≤ 15 := by omega
        have HR2 : Hid ((List.replicate k true).length = q2) := Lib.hid (by rw [List.length_replicate, qk])
        clear qk
        by_cases hlt : k < q
        · have hk : k < ds.length := by rw [HQ.out]; exact hlt
          have hki : (k : Int) < (q : Int) := by omega
          have hzr := hB.size
          have hRa := hR.alloc (.cells (encBool.enc true).toArray 4)
          go_wp2_with (at_builtin; refine wpList_append_lies _ rfl (.tmp 45) (.tmp 46) _ rfl w2.heap.size 4 i0 _ 1 1 Try.underlying41 HI.out.1 HI.out.2.1 HI.out.2.2.1 HI.out.2.2.2 rfl (by omega) (.slice (some ⟨g, 0, none⟩) q2 cq) q2 (encBool.flat (List.replicate k true)) rfl (by unfold SOwn at hRa; rw [HR2.out] at hRa; exact hRa) ⟨wr.heap.size, 0, none⟩ 1 1 (encBool.enc true) rfl rfl (new_enc (E := encBool) wr true _) (encBool.one _) (by omega) (by simp only [maxLen]; omega) (by omega) (by simp; omega) _ rfl ?_; intro g5 cap5 w5 hown5 hgr5 hat5 hlt5)
          have hgz : ∀ j, Value.ownBlock (.slice (some ⟨g, 0, none⟩) q2 cq) = some j → w2.heap.size ≤ j := fun j hj => by simp [Value.ownBlock] at hj; rcases hRa.form with ⟨e, _⟩ | ⟨g1, e, h9, _⟩; cases e; cases e; omega
          have hB5 := SOwn.below_grown (n := q2) (hRa.mono hzn) (hB.alloc hzr _) hgr5
          have hsn := SOwn.snoc (E := encBool) (xs := List.replicate k true) (x := true) (by rw [HR2.out]; exact hown5)
          rw [rep_snoc] at hsn
          have hO5 := (hO.alloc (.cells (encBool.enc true).toArray 4)).grown_far hgr5 (fun g1 hg1 e => by have h8 := hgz g1 e; have := HAL.out g1 hg1; omega)
          have hQ5 := (hQ.alloc (.cells (encBool.enc true).toArray 4)).grown_far hgr5 (fun g1 hg1 e => by have h8 := hgz g1 e; have := HCL.out g1 hg1; omega)
          obtain ⟨b2, off2, rfl, hb2, d0⟩ := rowBool hQ5.row hk
          obtain ⟨v, hv⟩ : ∃ v, ds[k] = v := ⟨_, rfl⟩
          have D1 : Hid (ds[k] = true → dyC (ds.drop k) = 1 + dyC (ds.drop (k + 1))) := Lib.hid (dyC_yes hk)
          have D2 : Hid (ds[k] = false → dyC (ds.drop k) = dyC (ds.drop (k + 1))) := Lib.hid (dyC_no hk)
          rw [hv] at d0
          have HV9 := Lib.hid hv
          clear hv
          cases v
          · have HE2 : Hid (c + dyC (ds.drop (k + 1)) = dy) := Lib.hid (by rw [← HE.out, D2.out HV9.out])
            clear D1 D2 HE
            have hix : Sem.run Try.prog (Instr.indexAt 41 (.slice (some ⟨b2, off2, none⟩) q cc) (.int .i64 (k : Int))) w5 = .ok (.pointer (some ⟨b2, off2 + k, none⟩)) w5 := by
              rw [run_indexAt_slice (P := Try.prog) (w := w5) 41 ⟨b2, off2, none⟩ q cc .i64 (k : Int) (by kernel_rfl)]
              go_simp
            go_wp2_with fail
            rw [hix]
            go_simp
            go_wp2_with fail
            clear hix
            go_roundw
            case rel => exact ⟨k + 1, q2 + 1, g5, cap5, c, by go_num, by omega, by rw [QK.out], rfl, rfl, by omega, by push_cast; omega, HE2, hsn, hO5, hQ5, hB5⟩
            case measure => simp [intOf]; omega
          · have HE2 : Hid (c + 1 + dyC (ds.drop (k + 1)) = dy) := Lib.hid (by rw [← HE.out, D1.out HV9.out]; omega)
            clear D1 D2 HE
            have hix : Sem.run Try.prog (Instr.indexAt 41 (.slice (some ⟨b2, off2, none⟩) q cc) (.int .i64 (k : Int))) w5 = .ok (.pointer (some ⟨b2, off2 + k, none⟩)) w5 := by
              rw [run_indexAt_slice (P := Try.prog) (w := w5) 41 ⟨b2, off2, none⟩ q cc .i64 (k : Int) (by kernel_rfl)]
              go_simp
            go_wp2_with fail
            rw [hix]
            go_simp
            go_wp2_with fail
            clear hix
            go_roundw
            case rel => exact ⟨k + 1, q2 + 1, g5, cap5, c + 1, by go_num, by omega, by rw [QK.out], by go_num, rfl, by omega, by push_cast; omega, HE2, hsn, hO5, hQ5, hB5⟩
            case measure => simp [intOf]; omega
        · have hki : ¬ (k : Int) < (q : Int) := by omega
          obtain rfl : k = q := by omega
          have hcd : c = dy := by have := HE.out; rw [List.drop_eq_nil_of_le (by rw [HQ.out]; omega)] at this; simpa [dyC] using this
          subst hcd
          have hq2 : q2 = k := QK.out
          subst hq2
          go_wp2_with fail
          refine (iWr_is _ _ xs _ HM.out hO.row (by omega) HL.out HC.out).mono ?_; rintro e w8 ⟨V, cv, rfl, _, hw8⟩
          have hB8 := bel_next hB hw8
          have hO8 := hO.next hw8
          have hR8 := hR.next hw8
          go_wp2_with fail
          refine (iWo_is _ _ _ _ xs (List.replicate q2 true) _ HM.out (HRL q2).out hO8.row hR8.row (by omega) (by omega) HEV.out).mono ?_; rintro e w9 ⟨rfl, hw9⟩
          have hB9 := bel_next hB8 hw9
          go_wp2
          go_ret
          exact ⟨rfl, hB9⟩

set_option maxRecDepth 100000 in
theorem lifted (os : Os) (started : os.Started) (H : Type) (enc : TypeId × Value → H) :
    ReturnsInHanded {} Try.checked os 7 .any (Rows.fnWaterOkSpec.pre6 enc Try.prog Try.f7 Rows.fnWaterOkRow.domain false) (Rows.fnWaterOkSpec.post enc Try.prog Try.f7 false true false false) := by
  refine returnsInHanded_of_change (C := Try.checked) own started (by kernel_rfl) Try.func7
    (ChangeSpec.witness6 (enc := enc) (C := Try.checked) false ⟨#[], #[.slice none 0 0], []⟩ 8 (by kernel_rfl) (by kernel_rfl) (by kernel_rfl) (by kernel_rfl)) ?_
  intro W base args ds gs before hval0 hW hcnd _
  have hval : ∀ (j : Nat) t v, Try.f7.params[j]? = some t → args[j]? = some v → Value.okWide Try.prog W .any base t v := hval0
  have hW' := hW
  obtain ⟨p, q, hA0, hV, rfl, hfz, hnd⟩ := hW
  have hA : DataW.TrodAll enc Try.prog W 0 (fun _ => true) true Try.f7.params.toList args.toList ds p := hA0
  rw [Try.params7] at hA hval
  obtain ⟨v0, vs0, d0, ds0, p0, q0, hargs, rfl, rfl, h0, r0⟩ := trodAll_cons hA
  obtain ⟨rfl, rfl, rfl⟩ := trodAll_nil r0
  obtain rfl : args = #[v0] := by cases args; simp_all
  obtain ⟨rfl, rfl⟩ := trodVars_none hV
  have k0 := h0
  have lt0 : ∀ x ∈ p0, x.block < W.heap.size := by obtain ⟨m, hm⟩ := k0; exact DataW.trod_lt m _ _ _ hm
  obtain ⟨a0, len0, cap0, rfl⟩ := okWide_slice Try.underlying22 (hval 0 22 v0 rfl rfl)
  have w0 : CodeOk W a0 len0 cap0 := by
    obtain ⟨fuel, hf⟩ := h0
    rcases open_ints Try.underlying22 Try.underlying5 (by kernel_rfl) hf with ⟨hcs, _⟩ | ⟨x, l, c, zs, hcs, _, hl, hm, hz, _, hcell, hwz⟩
    · simp [Value.cells] at hcs
      obtain ⟨rfl, rfl, rfl⟩ := hcs
      exact code_nil W
    · simp [Value.cells] at hcs
      obtain ⟨rfl, rfl, rfl⟩ := hcs
      exact code_ok hl hm (by simp at hz; omega) hcell hwz
  clear hA0 hval0
  refine (walk W a0 len0 cap0 w0).mono fun e W' ⟨he, bel⟩ => ?_
  subst he
  exact ⟨_, rfl, _, _, _, [], _, [], hW', trodAll_mk1 (shut_bool Try.underlying4 _), (trodAll_cons_mk (Below.trod laidOut (by kernel_rfl) (of_decide_eq_true (by kernel_rfl)) k0 bel lt0) trodAll_mk0), rfl, bel.frame _, fun h => by cases h⟩

theorem over : Rows.fnWaterOkRow.holds Try.pinned (OpenSpec.ofChange Rows.fnWaterOkSpec) :=
  OpenClaim.holds_of_wide 7 Try.f7 rfl rfl rfl rfl rfl rfl rfl ⟨rfl, rfl, rfl, rfl, rfl⟩ rfl rfl rfl rfl rfl (by kernel_rfl) Try.func7 (by kernel_rfl)
    (of_decide_eq_true (by kernel_rfl)) (by unfold Func.isWrapper; first | (rw [if_pos (by decide +kernel)]; kernel_rfl) | (rw [if_neg (by decide +kernel)]; exact ⟨rfl, rfl⟩))
    (fun os started H enc _ => lifted os started H enc)

/-- The statement. -/
theorem proved : Rows.FnWaterOkSaid :=
  over
#print axioms proved
end Go.Proofs.Ytoeblgfaemhbjaa.fnWaterOk
