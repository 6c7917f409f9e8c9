/- FnPlantedOk: whatever the input, the law returns true, and its arguments read as they did. No conditions beyond those of the statement's row. -/
import Derived.Test.YtaikodebmkjafaaPd9
import Derived.Test.YtaikodebmkjafaaPpc
import Derived.Test.YtaikodebmkjafaaQk
import Derived.Test.YtaikodebmkjafaaKw
import Derived.Test.YtaikodebmkjafaaLp
namespace Go.Proofs.Ytaikodebmkjafaa.fnPlantedOk
open Go.Proofs.Ytaikodebmkjafaa
open Go.ChangeShapes Go.WideShapes Go.ChangeAt Go.RowKit Go.Joins
set_option linter.unusedVariables false
set_option linter.unusedSimpArgs false
set_option linter.unnecessarySimpa false

theorem own : ownKnob Try.prog.godebug = none := by kernel_rfl
theorem laidOut : laidOutB Try.prog = true := by kernel_rfl

set_option maxRecDepth 100000 in
set_option maxHeartbeats 4000000 in
theorem walk (w : World) (a0 : Option Addr) (len0 cap0 : Nat) (w0 : CodeOk w a0 len0 cap0) :
    Calls Try.prog 3 #[.slice a0 len0 cap0] w fun e w' => e = .returned (.bool true) ∧ Below w.heap.size w w' := by
  by_cases hl : 1048576 < len0
  · have w0' := w0.2.1
    unfold maxLen at w0'
    clear w0
    go_enter Try.func3, Try.ntmps3
    go_wp2
    go_ret
    exact ⟨rfl, Below.refl _ _⟩
  · have w0' := w0.2.1
    unfold maxLen at w0'
    have hle := w0.1
    have HW := Lib.hid w0
    clear w0
    go_enter Try.func3, Try.ntmps3
    obtain ⟨i0, hi0, hz0, hz1, hz2⟩ := info_parts infoNum
    have HI := Lib.hid (And.intro hi0 (And.intro hz0 (And.intro hz1 hz2)))
    clear hi0 hz0 hz1 hz2
    go_wp2_with fail
    refine (drPlantedOk_any _ _ _ _ HW.out).mono ?_; rintro e w1 ⟨bs, A, cp, ps, A2, cp2, us, A3, cp3, rfl, h7, h72, h73, hO1, hP1, hU1, hB1⟩
    obtain ⟨n, hn⟩ : ∃ n, bs.length = n := ⟨_, rfl⟩
    obtain ⟨m, hm⟩ : ∃ m, ps.length = m := ⟨_, rfl⟩
    rw [hn] at h7 ⊢
    rw [hm] at h72 ⊢
    have HN := Lib.hid hn
    have HM := Lib.hid hm
    clear hn hm
    obtain ⟨q, hq⟩ : ∃ q, us.length = q := ⟨_, rfl⟩
    rw [hq] at h73 ⊢
    have HQ := Lib.hid hq
    clear hq
    have hcv : q ≤ cp3 := by have := hU1.cap.1; rw [HQ.out] at this; exact this
    cases hv : poB bs ps us
    · have HV := Lib.hid hv
      clear hv
      go_wp2_with fail
      refine (iPo_is A A2 A3 cp cp2 cp3 bs ps us _ HN.out HM.out HQ.out hO1.row hP1.row hU1.row (by omega) (by omega) (by omega) hcv HV.out).mono ?_; rintro e w2 ⟨rfl, hw2⟩
      have hO2 := hO1.next hw2
      have hP2 := hP1.next hw2
      have hU2 := hU1.next hw2
      have hB2 := bel_next hB1 hw2
      go_wp2_with fail
      refine (sPo_is A A2 A3 cp cp2 cp3 bs ps us _ HN.out HM.out HQ.out hO2.row hP2.row hU2.row (by omega) (by omega) (by omega) hcv HV.out).mono ?_; rintro e w3 ⟨rfl, hw3⟩
      have hO3 := hO2.next hw3
      have hP3 := hP2.next hw3
      have hU3 := hU2.next hw3
      have hB3 := bel_next hB2 hw3
      go_wp2_with fail
      refine (alive_any _).mono ?_; rintro e w' ⟨rfl, rfl⟩
      go_wp2
      go_ret
      exact ⟨rfl, hB3⟩
    · have HLE : Hid (∀ k, k < us.length → poB bs ps (us.set k (-1)) = true) := Lib.hid (fun k hk => po_less hv hk)
      obtain ⟨r, hr⟩ : ∃ r, pmI bs ps us = r := ⟨_, rfl⟩
      have HR := Lib.hid hr
      obtain ⟨x, hx⟩ : ∃ x, pxI bs ps = x := ⟨_, rfl⟩
      have HX := Lib.hid hx
      have hrx : r ≤ x := by rw [← hr, ← hx]; exact pm_le_px hv
      have HV := Lib.hid hv
      clear hv hr hx
      go_wp2_with fail
      refine (iPo_is A A2 A3 cp cp2 cp3 bs ps us _ HN.out HM.out HQ.out hO1.row hP1.row hU1.row (by omega) (by omega) (by omega) hcv HV.out).mono ?_; rintro e w2 ⟨rfl, hw2⟩
      have hO2 := hO1.next hw2
      have hP2 := hP1.next hw2
      have hU2 := hU1.next hw2
      have hB2 := bel_next hB1 hw2
      go_wp2_with fail
      refine (sPo_is A A2 A3 cp cp2 cp3 bs ps us _ HN.out HM.out HQ.out hO2.row hP2.row hU2.row (by omega) (by omega) (by omega) hcv HV.out).mono ?_; rintro e w3 ⟨rfl, hw3⟩
      have hO3 := hO2.next hw3
      have hP3 := hP2.next hw3
      have hU3 := hU2.next hw3
      have hB3 := bel_next hB2 hw3
      go_wp2_with fail
      go_loopw [7] (fun vk wr => ∃ k : Nat, vk = .int .i64 k ∧ k ≤ q ∧ SOwn encNum wr w.heap.size 3 A cp bs ∧ SOwn encPlant wr w.heap.size 39 A2 cp2 ps ∧ SOwn encNum wr w.heap.size 3 A3 cp3 us ∧ Below w.heap.size w wr) (fun vk _ => (q - intOf vk).toNat)
      case atStart => exact ⟨0, rfl, by omega, hO3, hP3, hU3, hB3⟩
      case round =>
        clear hO3 hP3 hU3 hB3
        obtain ⟨k, rfl, k1, hO, hP, hU, hB⟩ := hrel
        by_cases hlt : k < q
        · have hk : k < us.length := by rw [HQ.out]; exact hlt
          have hki : (k : Int) < (q : Int) := by omega
          have hzr := hB.size
          have HA : Hid ((∀ g, A = some ⟨g, 0, none⟩ → g < wr.heap.size) ∧ (∀ g, A2 = some ⟨g, 0, none⟩ → g < wr.heap.size)) := Lib.hid ⟨fun g hg => by rcases hO.form with ⟨e, _⟩ | ⟨g1, e, _, h9⟩; rw [e] at hg; cases hg; rw [e] at hg; cases hg; exact h9, fun g hg => by rcases hP.form with ⟨e, _⟩ | ⟨g1, e, _, h9⟩; rw [e] at hg; cases hg; rw [e] at hg; cases hg; exact h9⟩
          obtain ⟨g3, rfl, hg3, hgl3⟩ := hU.at_ hk
          have hL : SOwn encNum (wr.alloc (.cells #[] 3)) wr.heap.size 3 (some ⟨wr.heap.size, 0, none⟩) 0 [] := SOwn.empty (blk_new wr _) (Nat.le_refl _)
          have hUd := hU.alloc (.cells #[] 3)
          go_wp2_with (at_builtin; refine wpList_append_own _ rfl (.tmp 37) (.tmp 38) _ rfl wr.heap.size 3 i0 _ 1 8 Try.underlying23 HI.out.1 HI.out.2.1 HI.out.2.2.1 HI.out.2.2.2 rfl (by omega) (.slice (some ⟨wr.heap.size, 0, none⟩) 0 0) 0 (encNum.flat []) rfl hL ⟨g3, 0, none⟩ q cp3 (encNum.flat us) rfl (by rw [encNum.flat_len, HQ.out]; rfl) (SRow.newsK hUd.row) (encNum.flat_one _) (by simp only [maxLen]; omega) (by omega) (by simp) ?_; intro v9 w9 hown9 hgr9 hnil9)
          rw [Nat.zero_add] at hown9
          obtain ⟨A9, cap9, rfl⟩ := own_valK hown9
          have hMo : SOwn encNum w9 wr.heap.size 3 A9 cap9 us := SOwn.of_raw (E := encNum) hown9 (by simp [Enc.flat]) HQ.out
          have hO9 := (hO.alloc (.cells #[] 3)).grown_far hgr9 (fun g hg e => by have h8 := HA.out.1 g hg; simp [Value.ownBlock] at e; omega)
          have hP9 := (hP.alloc (.cells #[] 3)).grown_far hgr9 (fun g hg e => by have h8 := HA.out.2 g hg; simp [Value.ownBlock] at e; omega)
          have hU9 := hUd.grown_far hgr9 (fun g hg e => by simp at hg; simp [Value.ownBlock] at e; omega)
          have hB9 := (hB.alloc hB.size (.cells #[] 3)).grown hgr9 (by simp; omega) (fun j hj => by simp [Value.ownBlock] at hj; omega)
          obtain ⟨g9, rfl, hgb9, hgl9⟩ := hMo.at_ hk
          have c0 := ownNum hMo hk
          have f0 := hMo.frozen k
          have hix : Sem.run Try.prog (Instr.indexAt 23 (.slice (some ⟨g9, 0, none⟩) q cap9) (.int .i64 (k : Int))) w9 = .ok (.pointer (some ⟨g9, k, none⟩)) w9 := by
            rw [run_indexAt_slice (P := Try.prog) (w := w9) 23 ⟨g9, 0, none⟩ q cap9 .i64 (k : Int) (by kernel_rfl)]
            go_simp
          go_wp2_with fail
          rw [hix]
          go_simp
          go_wp2_with fail
          clear hix
          have hMs := setNumO hMo k hk (-1)
          have hgS : w9.grownBy (w9.setCell ⟨g9, k, none⟩ (.int .i64 (-1))) (some g9) := grown_cellS ⟨rfl, rfl, rfl, Nat.le_refl _, fun _ _ _ => rfl⟩ _
          have hO10 := hO9.grown_far hgS (fun g hg e => by have h8 := HA.out.1 g hg; simp at e; omega)
          have hP10 := hP9.grown_far hgS (fun g hg e => by have h8 := HA.out.2 g hg; simp at e; omega)
          have hU10 := hU9.grown_far hgS (fun g hg e => by simp at hg e; omega)
          have hB10 := hB9.setCell (p := ⟨g9, k, none⟩) (by show w.heap.size ≤ g9; omega) (.int .i64 (-1))
          have HQ2 : Hid ((us.set k (-1)).length = q) := Lib.hid (by rw [List.length_set, HQ.out])
          have HLK := Lib.hid (HLE.out k hk)
          have hc9 : q ≤ cap9 := by have := hMs.cap.1; rw [HQ2.out] at this; exact this
          clear hown9 hgr9 hnil9 hL hUd
          refine (iPo_is A A2 _ cp cp2 cap9 bs ps (us.set k (-1)) _ HN.out HM.out HQ2.out hO10.row hP10.row hMs.row (by omega) (by omega) (by omega) hc9 HLK.out).mono ?_; rintro e wf ⟨rfl, hwf⟩
          have hO11 := hO10.next hwf
          have hP11 := hP10.next hwf
          have hU11 := hU10.next hwf
          have hB11 := bel_next hB10 hwf
          go_wp2_with fail
          go_roundw
          case rel => exact ⟨k + 1, by go_num, by omega, hO11, hP11, hU11, hB11⟩
          case measure => simp [intOf]; omega
        · obtain rfl : k = q := by omega
          have hki : ¬ (k : Int) < (k : Int) := by omega
          have hO20 := hO
          have hP20 := hP
          have hU20 := hU
          have hB20 := hB
          clear hO hP hU hB
          go_wp2_with fail
          refine (iPm_is A A2 A3 cp cp2 cp3 bs ps us _ HN.out HM.out HQ.out hO20.row hP20.row hU20.row (by omega) (by omega) (by omega) hcv HR.out).mono ?_; rintro e w21 ⟨rfl, hw21⟩
          have hO21 := hO20.next hw21
          have hP21 := hP20.next hw21
          have hU21 := hU20.next hw21
          have hB21 := bel_next hB20 hw21
          go_wp2_with fail
          refine (iPx_is A A2 cp cp2 bs ps _ HN.out HM.out hO21.row hP21.row (by omega) (by omega) HX.out).mono ?_; rintro e w22 ⟨rfl, hw22⟩
          have hO22 := hO21.next hw22
          have hP22 := hP21.next hw22
          have hU22 := hU21.next hw22
          have hB22 := bel_next hB21 hw22
          go_wp2
          go_ret
          exact ⟨rfl, hB22⟩

set_option maxRecDepth 100000 in
theorem lifted (os : Os) (started : os.Started) (H : Type) (enc : TypeId × Value → H) :
    ReturnsInHanded {} Try.checked os 3 .any (Rows.fnPlantedOkSpec.pre6 enc Try.prog Try.f3 Rows.fnPlantedOkRow.domain false) (Rows.fnPlantedOkSpec.post enc Try.prog Try.f3 false true false false) := by
  refine returnsInHanded_of_change (C := Try.checked) own started (by kernel_rfl) Try.func3
    (ChangeSpec.witness6 (enc := enc) (C := Try.checked) false ⟨#[], #[.slice none 0 0], []⟩ 8 (by kernel_rfl) (by kernel_rfl) (by kernel_rfl) (by kernel_rfl)) ?_
  intro W base args ds gs before hval0 hW hcnd _
  have hval : ∀ (j : Nat) t v, Try.f3.params[j]? = some t → args[j]? = some v → Value.okWide Try.prog W .any base t v := hval0
  have hW' := hW
  obtain ⟨p, q, hA0, hV, rfl, hfz, hnd⟩ := hW
  have hA : DataW.TrodAll enc Try.prog W 0 (fun _ => true) true Try.f3.params.toList args.toList ds p := hA0
  rw [Try.params3] at hA hval
  obtain ⟨v0, vs0, d0, ds0, p0, q0, hargs, rfl, rfl, h0, r0⟩ := trodAll_cons hA
  obtain ⟨rfl, rfl, rfl⟩ := trodAll_nil r0
  obtain rfl : args = #[v0] := by cases args; simp_all
  obtain ⟨rfl, rfl⟩ := trodVars_none hV
  have k0 := h0
  have lt0 : ∀ x ∈ p0, x.block < W.heap.size := by obtain ⟨m, hm⟩ := k0; exact DataW.trod_lt m _ _ _ hm
  obtain ⟨a0, len0, cap0, rfl⟩ := okWide_slice Try.underlying22 (hval 0 22 v0 rfl rfl)
  have w0 : CodeOk W a0 len0 cap0 := by
    obtain ⟨fuel, hf⟩ := h0
    rcases open_ints Try.underlying22 Try.underlying5 (by kernel_rfl) hf with ⟨hcs, _⟩ | ⟨x, l, c, zs, hcs, _, hl, hm, hz, _, hcell, hwz⟩
    · simp [Value.cells] at hcs
      obtain ⟨rfl, rfl, rfl⟩ := hcs
      exact code_nil W
    · simp [Value.cells] at hcs
      obtain ⟨rfl, rfl, rfl⟩ := hcs
      exact code_ok hl hm (by simp at hz; omega) hcell hwz
  clear hA0 hval0
  refine (walk W a0 len0 cap0 w0).mono fun e W' ⟨he, bel⟩ => ?_
  subst he
  exact ⟨_, rfl, _, _, _, [], _, [], hW', trodAll_mk1 (shut_bool Try.underlying4 _), (trodAll_cons_mk (Below.trod laidOut (by kernel_rfl) (of_decide_eq_true (by kernel_rfl)) k0 bel lt0) trodAll_mk0), rfl, bel.frame _, fun h => by cases h⟩

theorem over : Rows.fnPlantedOkRow.holds Try.pinned (OpenSpec.ofChange Rows.fnPlantedOkSpec) :=
  OpenClaim.holds_of_wide 3 Try.f3 rfl rfl rfl rfl rfl rfl rfl ⟨rfl, rfl, rfl, rfl, rfl⟩ rfl rfl rfl rfl rfl (by kernel_rfl) Try.func3 (by kernel_rfl)
    (of_decide_eq_true (by kernel_rfl)) (by unfold Func.isWrapper; first | (rw [if_pos (by decide +kernel)]; kernel_rfl) | (rw [if_neg (by decide +kernel)]; exact ⟨rfl, rfl⟩))
    (fun os started H enc _ => lifted os started H enc)

/-- The statement. -/
theorem proved : Rows.FnPlantedOkSaid :=
  over
#print axioms proved
end Go.Proofs.Ytaikodebmkjafaa.fnPlantedOk
