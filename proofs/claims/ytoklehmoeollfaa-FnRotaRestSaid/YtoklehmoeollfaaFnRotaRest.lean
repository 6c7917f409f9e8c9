/- FnRotaRest: whatever the input, the law returns true, and its arguments read as they did. No conditions beyond those of the statement's row. -/
import Derived.Test.YtoklehmoeollfaaNt
import Derived.Test.YtoklehmoeollfaaNm
import Derived.Test.YtoklehmoeollfaaNv
import Derived.Test.YtoklehmoeollfaaLp
namespace Go.Proofs.Ytoklehmoeollfaa.fnRotaRest
open Go.Proofs.Ytoklehmoeollfaa
open Go.ChangeShapes Go.WideShapes Go.ChangeAt Go.RowKit Go.Joins
set_option linter.unusedVariables false
set_option linter.unusedSimpArgs false
set_option linter.unnecessarySimpa false

theorem own : ownKnob Try.prog.godebug = none := by kernel_rfl
theorem laidOut : laidOutB Try.prog = true := by kernel_rfl

set_option maxRecDepth 100000 in
set_option maxHeartbeats 4000000 in
theorem walk (w : World) (a0 : Option Addr) (len0 cap0 : Nat) (w0 : CodeOk w a0 len0 cap0) :
    Calls Try.prog 4 #[.slice a0 len0 cap0] w fun e w' => e = .returned (.bool true) ∧ Below w.heap.size w w' := by
  by_cases hl : 1048576 < len0
  · have w0' := w0.2.1
    unfold maxLen at w0'
    clear w0
    go_enter Try.func4, Try.ntmps4
    go_wp2
    go_ret
    exact ⟨rfl, Below.refl _ _⟩
  · have w0' := w0.2.1
    unfold maxLen at w0'
    have hle := w0.1
    have HW := Lib.hid w0
    clear w0
    go_enter Try.func4, Try.ntmps4
    go_wp2_with fail
    refine (drRotaRest_any _ _ _ _ HW.out).mono ?_; rintro e w1 ⟨A, cp, hs, rows, rfl, h9, hl7, hN0, hB0⟩
    obtain ⟨m, hm⟩ : ∃ m, rows.length = m := ⟨_, rfl⟩
    rw [hm] at h9 ⊢
    have HN := Lib.hid hm
    clear hm
    have HJ : Hid (∀ j (hj : j < rows.length), rows[j].length ≤ 2000000) := Lib.hid (fun j hj => by have := hl7 j; rw [rwK_at hj] at this; omega)
    have hcap : m ≤ cp := by have := hN0.hd.cap.1; rw [hN0.len, HN.out] at this; exact this
    have hI := hN0.nrow
    obtain ⟨r, hr⟩ := rr_ex rows
    have HR := Lib.hid hr
    rcases hr with ⟨hv, rfl⟩ | ⟨hv, hr⟩
    · clear hv
      go_wp2_with fail
      refine (iRr_is A cp hs rows _ HN.out hI (by omega) HJ.out HR.out).mono ?_; rintro e w2 ⟨rfl, hw2⟩
      have hI2 := hI.next hw2
      have hB2 := bel_next hB0 hw2
      go_wp2_with fail
      refine (sRr_is A cp hs rows _ HN.out hI2 (by omega) HJ.out HR.out).mono ?_; rintro e w3 ⟨rfl, hw3⟩
      have hI3 := hI2.next hw3
      have hB3 := bel_next hB2 hw3
      go_wp2_with fail
      refine (alive_any _).mono ?_; rintro e' w' ⟨rfl, rfl⟩
      go_wp2
      go_ret
      exact ⟨rfl, hB3⟩
    · have hr1 := hr.lo
      have hr8 := hr.hi
      have hrn : ¬ r < 0 := by omega
      have HRS := Lib.hid hr
      have HV := Lib.hid hv
      have hlen : ∀ j, j < m → (rwK rows j).length = (rwK rows 0).length ∧ (rwK rows j).length ≤ 6 := fun j hj => by have := (rvB_iff.1 hv).2 j (by rw [HN.out]; exact hj); exact ⟨this.2.1, this.1⟩
      have HLN := Lib.hid hlen
      clear hr hv hlen
      go_wp2_with fail
      refine (iRr_is A cp hs rows _ HN.out hI (by omega) HJ.out HR.out).mono ?_; rintro e w2 ⟨rfl, hw2⟩
      have hI2 := hI.next hw2
      have hB2 := bel_next hB0 hw2
      go_wp2_with fail
      refine (sRr_is A cp hs rows _ HN.out hI2 (by omega) HJ.out HR.out).mono ?_; rintro e w3 ⟨rfl, hw3⟩
      have hI3 := hI2.next hw3
      have hB3 := bel_next hB2 hw3
      go_wp2_with fail
      go_loopw [5] (fun i wr => ∃ k : Nat, k ≤ m ∧ i = .int .i64 k ∧ NRow wr A hs rows ∧ Below w.heap.size w wr) (fun i _ => (m - intOf i).toNat)
      case atStart => exact ⟨0, by omega, rfl, hI3, hB3⟩
      case round =>
        obtain ⟨k, k1, rfl, hI, hB⟩ := hrel
        by_cases hlt : k < m
        · have hki : (k : Int) < (m : Int) := by omega
          have hk : k < rows.length := by rw [HN.out]; exact hlt
          go_wp2_with fail
          go_loopw [6] (fun i wr => ∃ j : Nat, k < j ∧ j ≤ m ∧ i = .int .i64 j ∧ NRow wr A hs rows ∧ Below w.heap.size w wr) (fun i _ => (m - intOf i).toNat)
          case atStart => exact ⟨k + 1, by omega, by omega, by go_num, hI, hB⟩
          case round =>
            clear hI hB
            obtain ⟨j, j0, j1, rfl, hI, hB⟩ := hrel
            by_cases hjt : j < m
            · have hji : (j : Int) < (m : Int) := by omega
              have hjd : decide ((j : Int) < (m : Int)) = true := by simpa using hji
              have hjd2 : decide (j < m) = true := by simpa using hjt
              by_cases hjr : (j : Int) - (k : Int) < r
              · have hjrd : decide ((j : Int) - (k : Int) < r) = true := by simpa using hjr
                have hj : j < rows.length := by rw [HN.out]; exact hjt
                go_wp2_with fail
                go_loopw [7] (fun i wr => ∃ c : Nat, i = .int .i64 c ∧ c ≤ 6 ∧ NRow wr A hs rows ∧ Below w.heap.size w wr) (fun i _ => (7 - intOf i).toNat)
                case atStart => exact ⟨0, rfl, by omega, hI, hB⟩
                case round =>
                  clear hI hB
                  obtain ⟨c, rfl, c1, hI, hB⟩ := hrel
                  obtain ⟨b, off, rfl, hb, hget⟩ := hI.get hk
                  obtain ⟨H, q, cc, hq, d, hrow⟩ := hget k hk
                  obtain ⟨H2, q2, cc2, hq2, e, hrow2⟩ := hget j hj
                  have hqq : q2 = q := by have := (HLN.out j hjt).1; have h2 := (HLN.out k hlt).1; rw [rwK_at hj, hq2] at this; rw [rwK_at hk, hq] at h2; omega
                  subst hqq
                  have hq6 : q2 ≤ 6 := by have := (HLN.out k hlt).2; rw [rwK_at hk, hq] at this; exact this
                  have HQ := Lib.hid hq
                  have HQ2 := Lib.hid hq2
                  clear hget hq hq2
                  by_cases hct : c < q2
                  · have hci : (c : Int) < (q2 : Int) := by omega
                    have hc : c < rows[k].length := by rw [HQ.out]; exact hct
                    have hc2 : c < rows[j].length := by rw [HQ2.out]; exact hct
                    obtain ⟨g1, o1, rfl, hg1, x0⟩ := rowNum hrow hc
                    obtain ⟨g2, o2, rfl, hg2, z0⟩ := rowNum hrow2 hc2
                    have hne : rows[k][c] ≠ rows[j][c] := fun e9 => by have := HRS.out.le k j c trivial (hit_at j0 hk hj hc hc2 e9); omega
                    generalize rows[k][c] = a at x0 hne
                    generalize rows[j][c] = a2 at z0 hne
                    have hb1 : (a == a2) = false := by simpa using hne
                    have HNE := Lib.hid hne
                    clear hne
                    go_wp2_with fail
                    refine wp_region_held_drew (S := (fun w' => w'.cell? ⟨b, off + k, none⟩ = some (.slice (some ⟨g1, o1, none⟩) q2 cc) ∧ w'.cell? ⟨b, off + j, none⟩ = some (.slice (some ⟨g2, o2, none⟩) q2 cc2) ∧ w'.cell? ⟨g1, o1 + c, none⟩ = some (.int .i64 a) ∧ w'.cell? ⟨g2, o2 + c, none⟩ = some (.int .i64 a2) ∧ NRow w' (some ⟨b, off, none⟩) hs rows ∧ Below w.heap.size w w')) (by kernel_rfl) ⟨d, e, x0, z0, hI.next (Below.refl _ _).drew, hB.drew⟩ (fun hHeld => ?_)
                    obtain ⟨hD_0, hE_0, hX_0, hZ_0, hI_0, hB_0⟩ := id hHeld
                    refine wpAnyH_take (i := 0) (oi := _) (v := ?_) rfl (by kernel_rfl) (by kernel_rfl) (by kernel_rfl) (fun _ _ _ h => h) (Or.inl ⟨by rfl, ?_⟩) (by assumption) ?_
                    (rotate_left); (focus (intro wv hSw; (obtain ⟨qD, qE, qX, qZ, qI, qB⟩ := hSw);  go_simp; (try with_reducible rfl)))
                    try simp only [Act.put, List.getElem_toArray, List.getElem_cons_succ, List.getElem_cons_zero, List.setIfInBounds_toArray, List.set_cons_zero, List.set_cons_succ]
                    refine wpAnyH_take (i := 1) (oi := _) (v := ?_) rfl (by kernel_rfl) (by kernel_rfl) (by kernel_rfl) (fun _ _ _ h => h) (Or.inl ⟨by rfl, ?_⟩) (by assumption) ?_
                    (rotate_left); (focus (intro wv hSw; (obtain ⟨qD, qE, qX, qZ, qI, qB⟩ := hSw);  go_simp; (try with_reducible rfl)))
                    try simp only [Act.put, List.getElem_toArray, List.getElem_cons_succ, List.getElem_cons_zero, List.setIfInBounds_toArray, List.set_cons_zero, List.set_cons_succ]
                    refine wpAnyH_take (i := 2) (oi := _) (v := ?_) rfl (by kernel_rfl) (by kernel_rfl) (by kernel_rfl) (fun _ _ _ h => h) (Or.inl ⟨by rfl, ?_⟩) (by assumption) ?_
                    (rotate_left); (focus (intro wv hSw; (obtain ⟨qD, qE, qX, qZ, qI, qB⟩ := hSw);  go_simp; (try with_reducible rfl)))
                    try simp only [Act.put, List.getElem_toArray, List.getElem_cons_succ, List.getElem_cons_zero, List.setIfInBounds_toArray, List.set_cons_zero, List.set_cons_succ]
                    refine wpAnyH_take (i := 3) (oi := _) (v := ?_) rfl (by kernel_rfl) (by kernel_rfl) (by kernel_rfl) (fun _ _ _ h => h) (Or.inl ⟨by rfl, ?_⟩) (by assumption) ?_
                    (rotate_left); (focus (intro wv hSw; (obtain ⟨qD, qE, qX, qZ, qI, qB⟩ := hSw);  go_simp; (try with_reducible rfl)))
                    try simp only [Act.put, List.getElem_toArray, List.getElem_cons_succ, List.getElem_cons_zero, List.setIfInBounds_toArray, List.set_cons_zero, List.set_cons_succ]
                    refine wpAnyH_take (i := 4) (oi := _) (v := ?_) rfl (by kernel_rfl) (by kernel_rfl) (by kernel_rfl) (fun _ _ _ h => h) (Or.inl ⟨by rfl, ?_⟩) (by assumption) ?_
                    (rotate_left); (focus (intro wv hSw; (obtain ⟨qD, qE, qX, qZ, qI, qB⟩ := hSw);  go_simp; (try with_reducible rfl)))
                    try simp only [Act.put, List.getElem_toArray, List.getElem_cons_succ, List.getElem_cons_zero, List.setIfInBounds_toArray, List.set_cons_zero, List.set_cons_succ]
                    refine wpAnyH_take (i := 5) (oi := _) (v := ?_) rfl (by kernel_rfl) (by kernel_rfl) (by kernel_rfl) (fun _ _ _ h => h) (Or.inl ⟨by rfl, ?_⟩) (by assumption) ?_
                    (rotate_left); (focus (intro wv hSw; (obtain ⟨qD, qE, qX, qZ, qI, qB⟩ := hSw);  go_simp; (try with_reducible rfl)))
                    try simp only [Act.put, List.getElem_toArray, List.getElem_cons_succ, List.getElem_cons_zero, List.setIfInBounds_toArray, List.set_cons_zero, List.set_cons_succ]
                    refine wpAnyH_take (i := 6) (oi := _) (v := ?_) rfl (by kernel_rfl) (by kernel_rfl) (by kernel_rfl) (fun _ _ _ h => h) (Or.inl ⟨by rfl, ?_⟩) (by assumption) ?_
                    (rotate_left); (focus (intro wv hSw; (obtain ⟨qD, qE, qX, qZ, qI, qB⟩ := hSw);  go_simp; (try with_reducible rfl)))
                    try simp only [Act.put, List.getElem_toArray, List.getElem_cons_succ, List.getElem_cons_zero, List.setIfInBounds_toArray, List.set_cons_zero, List.set_cons_succ]
                    refine wpAnyH_take (i := 7) (oi := _) (v := ?_) rfl (by kernel_rfl) (by kernel_rfl) (by kernel_rfl) (fun _ _ _ h => h) (Or.inl ⟨by rfl, ?_⟩) (by assumption) ?_
                    (rotate_left); (focus (intro wv hSw; (obtain ⟨qD, qE, qX, qZ, qI, qB⟩ := hSw);  go_simp; (try with_reducible rfl)))
                    try simp only [Act.put, List.getElem_toArray, List.getElem_cons_succ, List.getElem_cons_zero, List.setIfInBounds_toArray, List.set_cons_zero, List.set_cons_succ]
                    refine wpAnyH_take (i := 8) (oi := _) (v := ?_) rfl (by kernel_rfl) (by kernel_rfl) (by kernel_rfl) (fun _ _ _ h => h) (Or.inl ⟨by rfl, ?_⟩) (by assumption) ?_
                    (rotate_left); (focus (intro wv hSw; (obtain ⟨qD, qE, qX, qZ, qI, qB⟩ := hSw);  go_simp; (try with_reducible rfl)))
                    try simp only [Act.put, List.getElem_toArray, List.getElem_cons_succ, List.getElem_cons_zero, List.setIfInBounds_toArray, List.set_cons_zero, List.set_cons_succ]
                    refine wpAnyH_take (i := 9) (oi := _) (v := ?_) rfl (by kernel_rfl) (by kernel_rfl) (by kernel_rfl) (fun _ _ _ h => h) (Or.inl ⟨by rfl, ?_⟩) (by assumption) ?_
                    (rotate_left); (focus (intro wv hSw; (obtain ⟨qD, qE, qX, qZ, qI, qB⟩ := hSw);  go_simp; (try with_reducible rfl)))
                    try simp only [Act.put, List.getElem_toArray, List.getElem_cons_succ, List.getElem_cons_zero, List.setIfInBounds_toArray, List.set_cons_zero, List.set_cons_succ]
                    refine wpAnyH_take (i := 10) (oi := _) (v := ?_) rfl (by kernel_rfl) (by kernel_rfl) (by kernel_rfl) (fun _ _ _ h => h) (Or.inl ⟨by rfl, ?_⟩) (by assumption) ?_
                    (rotate_left); (focus (intro wv hSw; (obtain ⟨qD, qE, qX, qZ, qI, qB⟩ := hSw);  go_simp; (try with_reducible rfl)))
                    try simp only [Act.put, List.getElem_toArray, List.getElem_cons_succ, List.getElem_cons_zero, List.setIfInBounds_toArray, List.set_cons_zero, List.set_cons_succ]
                    refine wpAnyH_take (i := 11) (oi := _) (v := ?_) rfl (by kernel_rfl) (by kernel_rfl) (by kernel_rfl) (fun _ _ _ h => h) (Or.inl ⟨by rfl, ?_⟩) (by assumption) ?_
                    (rotate_left); (focus (intro wv hSw; (obtain ⟨qD, qE, qX, qZ, qI, qB⟩ := hSw);  go_simp; (try with_reducible rfl)))
                    try simp only [Act.put, List.getElem_toArray, List.getElem_cons_succ, List.getElem_cons_zero, List.setIfInBounds_toArray, List.set_cons_zero, List.set_cons_succ]
                    refine wpAnyH_take (i := 12) (oi := _) (v := ?_) rfl (by kernel_rfl) (by kernel_rfl) (by kernel_rfl) (fun _ _ _ h => h) (Or.inl ⟨by rfl, ?_⟩) (by assumption) ?_
                    (rotate_left); (focus (intro wv hSw; (obtain ⟨qD, qE, qX, qZ, qI, qB⟩ := hSw);  go_simp; (try with_reducible rfl)))
                    try simp only [Act.put, List.getElem_toArray, List.getElem_cons_succ, List.getElem_cons_zero, List.setIfInBounds_toArray, List.set_cons_zero, List.set_cons_succ]
                    refine wpAnyH_take (i := 13) (oi := _) (v := ?_) rfl (by kernel_rfl) (by kernel_rfl) (by kernel_rfl) (fun _ _ _ h => h) (Or.inl ⟨by rfl, ?_⟩) (by assumption) ?_
                    (rotate_left); (focus (intro wv hSw; (obtain ⟨qD, qE, qX, qZ, qI, qB⟩ := hSw);  go_simp; (try with_reducible rfl)))
                    try simp only [Act.put, List.getElem_toArray, List.getElem_cons_succ, List.getElem_cons_zero, List.setIfInBounds_toArray, List.set_cons_zero, List.set_cons_succ]
                    refine wpAnyH_take (i := 14) (oi := _) (v := ?_) rfl (by kernel_rfl) (by kernel_rfl) (by kernel_rfl) (fun _ _ _ h => h) (Or.inl ⟨by rfl, ?_⟩) (by assumption) ?_
                    (rotate_left); (focus (intro wv hSw; (obtain ⟨qD, qE, qX, qZ, qI, qB⟩ := hSw);  go_simp; (try with_reducible rfl)))
                    try simp only [Act.put, List.getElem_toArray, List.getElem_cons_succ, List.getElem_cons_zero, List.setIfInBounds_toArray, List.set_cons_zero, List.set_cons_succ]
                    refine wpAnyH_done (by kernel_rfl) ?_ _
                    clear hb1
                    go_wp2_with fail
                    go_roundw
                    case rel => exact ⟨c + 1, by go_num, by omega, hI_0, hB_0⟩
                    case measure => simp [intOf]; omega
                  · have hci : ¬ (c : Int) < (q2 : Int) := by omega
                    go_wp2_with fail
                    go_roundw
                    case rel => exact ⟨j + 1, by omega, by omega, by go_num, hI, hB⟩
                    case measure => simp [intOf]; omega
              · have hjrd : decide ((j : Int) - (k : Int) < r) = false := by simpa using hjr
                go_wp2_with fail
                go_roundw
                case rel => exact ⟨k + 1, by omega, by go_num, hI, hB⟩
                case measure => simp [intOf]; omega
            · have hji : ¬ (j : Int) < (m : Int) := by omega
              have hjd : decide ((j : Int) < (m : Int)) = false := by simpa using hji
              have hjd2 : decide (j < m) = false := by simpa using hjt
              go_wp2_with fail
              go_roundw
              case rel => exact ⟨k + 1, by omega, by go_num, hI, hB⟩
              case measure => simp [intOf]; omega
        · have hki : ¬ (k : Int) < (m : Int) := by omega
          have hr1i : (1 : Int) ≤ r := hr1
          by_cases hm0 : m = 0
          · subst hm0
            go_wp2_with fail
            go_ret
            exact ⟨rfl, hB⟩
          · have hmb : ((m : Int) == 0) = false := by rw [beq_eq_false_iff_ne]; omega
            obtain ⟨r2, hr2⟩ := rest_ex (rows.take (m - 1))
            have hle := rest_take HRS.out hr2
            have HR2 : Hid (RrI (rows.take (m - 1)) r2) := Lib.hid (Or.inr ⟨rv_take HV.out _, hr2⟩)
            have HN2 : Hid ((rows.take (m - 1)).length = m - 1) := Lib.hid (by rw [List.length_take, HN.out]; omega)
            have HJ2 : Hid (∀ j (hj : j < (rows.take (m - 1)).length), (rows.take (m - 1))[j].length ≤ 2000000) := Lib.hid (fun j hj => by rw [List.getElem_take]; exact HJ.out j (by simp at hj; omega))
            clear hr2
            have hm1 : (m : Int) - 1 = ((m - 1 : Nat) : Int) := by omega
            have hm2 : ((m - 1 : Nat) : Int) ≤ (cp : Int) := by omega
            have hm3 : m - 1 ≤ cp := by omega
            have hm4 : (0 : Int) ≤ ((m - 1 : Nat) : Int) := by omega
            have hT := hI.take (m - 1)
            go_wp2_with fail
            refine (iRr_is A cp (hs.take (m - 1)) (rows.take (m - 1)) _ HN2.out hT (by omega) HJ2.out HR2.out).mono ?_; rintro e w5 ⟨rfl, hw5⟩
            have hB5 := bel_next hB hw5
            go_wp2
            go_ret
            exact ⟨rfl, hB5⟩

set_option maxRecDepth 100000 in
theorem lifted (os : Os) (started : os.Started) (H : Type) (enc : TypeId × Value → H) :
    ReturnsInHanded {} Try.checked os 4 .any (Rows.fnRotaRestSpec.pre6 enc Try.prog Try.f4 Rows.fnRotaRestRow.domain false) (Rows.fnRotaRestSpec.post enc Try.prog Try.f4 false true false false) := by
  refine returnsInHanded_of_change (C := Try.checked) own started (by kernel_rfl) Try.func4
    (ChangeSpec.witness6 (enc := enc) (C := Try.checked) false ⟨#[], #[.slice none 0 0], []⟩ 8 (by kernel_rfl) (by kernel_rfl) (by kernel_rfl) (by kernel_rfl)) ?_
  intro W base args ds gs before hval0 hW hcnd _
  have hval : ∀ (j : Nat) t v, Try.f4.params[j]? = some t → args[j]? = some v → Value.okWide Try.prog W .any base t v := hval0
  have hW' := hW
  obtain ⟨p, q, hA0, hV, rfl, hfz, hnd⟩ := hW
  have hA : DataW.TrodAll enc Try.prog W 0 (fun _ => true) true Try.f4.params.toList args.toList ds p := hA0
  rw [Try.params4] at hA hval
  obtain ⟨v0, vs0, d0, ds0, p0, q0, hargs, rfl, rfl, h0, r0⟩ := trodAll_cons hA
  obtain ⟨rfl, rfl, rfl⟩ := trodAll_nil r0
  obtain rfl : args = #[v0] := by cases args; simp_all
  obtain ⟨rfl, rfl⟩ := trodVars_none hV
  have k0 := h0
  have lt0 : ∀ x ∈ p0, x.block < W.heap.size := by obtain ⟨m, hm⟩ := k0; exact DataW.trod_lt m _ _ _ hm
  obtain ⟨a0, len0, cap0, rfl⟩ := okWide_slice Try.underlying22 (hval 0 22 v0 rfl rfl)
  have w0 : CodeOk W a0 len0 cap0 := by
    obtain ⟨fuel, hf⟩ := h0
    rcases open_ints Try.underlying22 Try.underlying5 (by kernel_rfl) hf with ⟨hcs, _⟩ | ⟨x, l, c, zs, hcs, _, hl, hm, hz, _, hcell, hwz⟩
    · simp [Value.cells] at hcs
      obtain ⟨rfl, rfl, rfl⟩ := hcs
      exact code_nil W
    · simp [Value.cells] at hcs
      obtain ⟨rfl, rfl, rfl⟩ := hcs
      exact code_ok hl hm (by simp at hz; omega) hcell hwz
  clear hA0 hval0
  refine (walk W a0 len0 cap0 w0).mono fun e W' ⟨he, bel⟩ => ?_
  subst he
  exact ⟨_, rfl, _, _, _, [], _, [], hW', trodAll_mk1 (shut_bool Try.underlying4 _), (trodAll_cons_mk (Below.trod laidOut (by kernel_rfl) (of_decide_eq_true (by kernel_rfl)) k0 bel lt0) trodAll_mk0), rfl, bel.frame _, fun h => by cases h⟩

theorem over : Rows.fnRotaRestRow.holds Try.pinned (OpenSpec.ofChange Rows.fnRotaRestSpec) :=
  OpenClaim.holds_of_wide 4 Try.f4 rfl rfl rfl rfl rfl rfl rfl ⟨rfl, rfl, rfl, rfl, rfl⟩ rfl rfl rfl rfl rfl (by kernel_rfl) Try.func4 (by kernel_rfl)
    (of_decide_eq_true (by kernel_rfl)) (by unfold Func.isWrapper; first | (rw [if_pos (by decide +kernel)]; kernel_rfl) | (rw [if_neg (by decide +kernel)]; exact ⟨rfl, rfl⟩))
    (fun os started H enc _ => lifted os started H enc)

/-- The statement. -/
theorem proved : Rows.FnRotaRestSaid :=
  over
#print axioms proved
end Go.Proofs.Ytoklehmoeollfaa.fnRotaRest
