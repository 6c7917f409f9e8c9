/- Contracts of chapter 9: lines, the program (rows of six). -/
import Derived.Test.YtoklehmoeollfaaQb
import Derived.Test.YtoklehmoeollfaaNb
namespace Go.Proofs.Ytoklehmoeollfaa
open Go Go.ChangeShapes Go.WideShapes Go.ChangeAt Go.RowKit
set_option linter.unusedSimpArgs false
set_option linter.unusedVariables false

def aQ (a0 a1 a2 a3 a4 a5 : Int) : Nat → Int
  | 0 => a0
  | 1 => a1
  | 2 => a2
  | 3 => a3
  | 4 => a4
  | _ => a5
def hQ (F a0 a1 a2 a3 a4 a5 : Int) (q : Nat) : Int := if isB F q = true then aQ a0 a1 a2 a3 a4 a5 q else 0
def pQ (F a0 a1 a2 a3 a4 a5 : Int) (q : Nat) : Bool := decide (0 < aQ a0 a1 a2 a3 a4 a5 q) && isB F q
theorem smK_step {h : Nat → Int} {k : Nat} {c v : Int} (h1 : smK h k = c) (h2 : h k = v) : smK h (k + 1) = c + v := by rw [smK, h1, h2]
theorem smK_keep {h : Nat → Int} {k : Nat} {c : Int} (h1 : smK h k = c) (h2 : h k = 0) : smK h (k + 1) = c := by rw [smK, h1, h2]; omega
def foI (n : Nat) : Int := if n = 6 then -1 else n
theorem iWo_bl {x r : Int} {j : Nat} (w : World) (h0 : 0 ≤ x) (h1 : x < 64) (hj : j < 6) (hr : woI x j = r) : Calls Try.prog 50 #[.int .i64 x, .int .i64 j] w fun E w' => E = .returned (.int .i64 r) ∧ Below w.heap.size w w' := (iWo_q w h0 h1 hj hr).mono fun _ _ h => ⟨h.1, h.2 ▸ Below.refl _ _⟩
set_option maxHeartbeats 4000000 in
theorem iLb_zero {g N cap : Nat} {F : Int} (w : World) :
    Calls Try.prog 55 #[.slice (some ⟨g, 0, none⟩) N cap, .int .i64 0, .int .i64 F] w fun E w' => E = .returned (.int .i64 1) ∧ w = w' := by
  go_enter Try.func55, Try.ntmps55
  go_wp2_with fail
  go_ret
  exact ⟨rfl, rfl⟩
set_option maxHeartbeats 4000000 in
theorem iLb_is {g N cap s : Nat} {F a0 a1 a2 a3 a4 a5 r : Int} (w : World) (hs0 : 0 < s) (hsN : s < N) (hN : N ≤ 64) (c0 : w.cell? ⟨g, s * 6 + 0, none⟩ = some (.int .i64 a0)) (c1 : w.cell? ⟨g, s * 6 + 1, none⟩ = some (.int .i64 a1)) (c2 : w.cell? ⟨g, s * 6 + 2, none⟩ = some (.int .i64 a2)) (c3 : w.cell? ⟨g, s * 6 + 3, none⟩ = some (.int .i64 a3)) (c4 : w.cell? ⟨g, s * 6 + 4, none⟩ = some (.int .i64 a4)) (c5 : w.cell? ⟨g, s * 6 + 5, none⟩ = some (.int .i64 a5)) (b0 : 0 ≤ a0 ∧ a0 ≤ 50000) (b1 : 0 ≤ a1 ∧ a1 ≤ 50000) (b2 : 0 ≤ a2 ∧ a2 ≤ 50000) (b3 : 0 ≤ a3 ∧ a3 ≤ 50000) (b4 : 0 ≤ a4 ∧ a4 ≤ 50000) (b5 : 0 ≤ a5 ∧ a5 ≤ 50000) (hr : sm (hQ F a0 a1 a2 a3 a4 a5) = r) :
    Calls Try.prog 55 #[.slice (some ⟨g, 0, none⟩) N cap, .int .i64 s, .int .i64 F] w fun E w' => E = .returned (.int .i64 r) ∧ w = w' := by
  have HR := Lib.hid hr
  clear hr
  have hsi : (s : Int) < (N : Int) := by omega
  have hs0i : ¬ (s : Int) = 0 := by omega
  have hse : ((s : Int) == 0) = false := by simp; omega
  rw [Nat.add_zero] at c0
  obtain ⟨p0, q0⟩ := b0
  obtain ⟨p1, q1⟩ := b1
  obtain ⟨p2, q2⟩ := b2
  obtain ⟨p3, q3⟩ := b3
  obtain ⟨p4, q4⟩ := b4
  obtain ⟨p5, q5⟩ := b5
  go_enter Try.func55, Try.ntmps55
  go_wp2_with fail
  go_loop [7, 16] (fun v7 v16 => ∃ (k : Nat) (c : Int), v16 = .int .i64 k ∧ v7 = .int .i64 c ∧ k ≤ 6 ∧ 0 ≤ c ∧ c ≤ 50000 * k ∧ Hid (smK (hQ F a0 a1 a2 a3 a4 a5) k = c)) (fun _ v16 => (6 - intOf v16).toNat)
  case atStart => exact ⟨0, 0, rfl, rfl, by omega, by omega, by omega, (by show _ = _; rfl)⟩
  case round =>
    obtain ⟨k, c, rfl, rfl, k6, d0, d1, HK⟩ := hrel
    have hk : k = 0 ∨ k = 1 ∨ k = 2 ∨ k = 3 ∨ k = 4 ∨ k = 5 ∨ k = 6 := by omega
    rcases hk with rfl | rfl | rfl | rfl | rfl | rfl | rfl
    · obtain ⟨v, hv⟩ : ∃ v, isB F 0 = v := ⟨_, rfl⟩
      have HV := Lib.hid hv
      clear hv
      have ix : ∀ w, (Instr.index 62 (.agg #[.int .i64 a0, .int .i64 a1, .int .i64 a2, .int .i64 a3, .int .i64 a4, .int .i64 a5]) (.int .i64 0)).run Try.prog w = .ok (.int .i64 a0) w := fun _ => by kernel_rfl
      go_wp2_with fail
      refine (iIs_q (j := 0) _ (by omega) HV.out).mono ?_; rintro E w' ⟨rfl, rfl⟩
      cases v
      · go_wp2_with fail
        go_round
        case rel => exact ⟨1, c, rfl, rfl, by omega, by omega, by omega, Lib.hid (smK_keep HK.out (by unfold hQ; rw [HV.out]; rfl))⟩
        case measure => simp [intOf]
      · go_wp2_with fail
        go_round
        case rel => exact ⟨1, c + a0, rfl, rfl, by omega, by omega, by omega, Lib.hid (smK_step HK.out (by unfold hQ; rw [HV.out]; rfl))⟩
        case measure => simp [intOf]
    · obtain ⟨v, hv⟩ : ∃ v, isB F 1 = v := ⟨_, rfl⟩
      have HV := Lib.hid hv
      clear hv
      have ix : ∀ w, (Instr.index 62 (.agg #[.int .i64 a0, .int .i64 a1, .int .i64 a2, .int .i64 a3, .int .i64 a4, .int .i64 a5]) (.int .i64 1)).run Try.prog w = .ok (.int .i64 a1) w := fun _ => by kernel_rfl
      go_wp2_with fail
      refine (iIs_q (j := 1) _ (by omega) HV.out).mono ?_; rintro E w' ⟨rfl, rfl⟩
      cases v
      · go_wp2_with fail
        go_round
        case rel => exact ⟨2, c, rfl, rfl, by omega, by omega, by omega, Lib.hid (smK_keep HK.out (by unfold hQ; rw [HV.out]; rfl))⟩
        case measure => simp [intOf]
      · go_wp2_with fail
        go_round
        case rel => exact ⟨2, c + a1, rfl, rfl, by omega, by omega, by omega, Lib.hid (smK_step HK.out (by unfold hQ; rw [HV.out]; rfl))⟩
        case measure => simp [intOf]
    · obtain ⟨v, hv⟩ : ∃ v, isB F 2 = v := ⟨_, rfl⟩
      have HV := Lib.hid hv
      clear hv
      have ix : ∀ w, (Instr.index 62 (.agg #[.int .i64 a0, .int .i64 a1, .int .i64 a2, .int .i64 a3, .int .i64 a4, .int .i64 a5]) (.int .i64 2)).run Try.prog w = .ok (.int .i64 a2) w := fun _ => by kernel_rfl
      go_wp2_with fail
      refine (iIs_q (j := 2) _ (by omega) HV.out).mono ?_; rintro E w' ⟨rfl, rfl⟩
      cases v
      · go_wp2_with fail
        go_round
        case rel => exact ⟨3, c, rfl, rfl, by omega, by omega, by omega, Lib.hid (smK_keep HK.out (by unfold hQ; rw [HV.out]; rfl))⟩
        case measure => simp [intOf]
      · go_wp2_with fail
        go_round
        case rel => exact ⟨3, c + a2, rfl, rfl, by omega, by omega, by omega, Lib.hid (smK_step HK.out (by unfold hQ; rw [HV.out]; rfl))⟩
        case measure => simp [intOf]
    · obtain ⟨v, hv⟩ : ∃ v, isB F 3 = v := ⟨_, rfl⟩
      have HV := Lib.hid hv
      clear hv
      have ix : ∀ w, (Instr.index 62 (.agg #[.int .i64 a0, .int .i64 a1, .int .i64 a2, .int .i64 a3, .int .i64 a4, .int .i64 a5]) (.int .i64 3)).run Try.prog w = .ok (.int .i64 a3) w := fun _ => by kernel_rfl
      go_wp2_with fail
      refine (iIs_q (j := 3) _ (by omega) HV.out).mono ?_; rintro E w' ⟨rfl, rfl⟩
      cases v
      · go_wp2_with fail
        go_round
        case rel => exact ⟨4, c, rfl, rfl, by omega, by omega, by omega, Lib.hid (smK_keep HK.out (by unfold hQ; rw [HV.out]; rfl))⟩
        case measure => simp [intOf]
      · go_wp2_with fail
        go_round
        case rel => exact ⟨4, c + a3, rfl, rfl, by omega, by omega, by omega, Lib.hid (smK_step HK.out (by unfold hQ; rw [HV.out]; rfl))⟩
        case measure => simp [intOf]
    · obtain ⟨v, hv⟩ : ∃ v, isB F 4 = v := ⟨_, rfl⟩
      have HV := Lib.hid hv
      clear hv
      have ix : ∀ w, (Instr.index 62 (.agg #[.int .i64 a0, .int .i64 a1, .int .i64 a2, .int .i64 a3, .int .i64 a4, .int .i64 a5]) (.int .i64 4)).run Try.prog w = .ok (.int .i64 a4) w := fun _ => by kernel_rfl
      go_wp2_with fail
      refine (iIs_q (j := 4) _ (by omega) HV.out).mono ?_; rintro E w' ⟨rfl, rfl⟩
      cases v
      · go_wp2_with fail
        go_round
        case rel => exact ⟨5, c, rfl, rfl, by omega, by omega, by omega, Lib.hid (smK_keep HK.out (by unfold hQ; rw [HV.out]; rfl))⟩
        case measure => simp [intOf]
      · go_wp2_with fail
        go_round
        case rel => exact ⟨5, c + a4, rfl, rfl, by omega, by omega, by omega, Lib.hid (smK_step HK.out (by unfold hQ; rw [HV.out]; rfl))⟩
        case measure => simp [intOf]
    · obtain ⟨v, hv⟩ : ∃ v, isB F 5 = v := ⟨_, rfl⟩
      have HV := Lib.hid hv
      clear hv
      have ix : ∀ w, (Instr.index 62 (.agg #[.int .i64 a0, .int .i64 a1, .int .i64 a2, .int .i64 a3, .int .i64 a4, .int .i64 a5]) (.int .i64 5)).run Try.prog w = .ok (.int .i64 a5) w := fun _ => by kernel_rfl
      go_wp2_with fail
      refine (iIs_q (j := 5) _ (by omega) HV.out).mono ?_; rintro E w' ⟨rfl, rfl⟩
      cases v
      · go_wp2_with fail
        go_round
        case rel => exact ⟨6, c, rfl, rfl, by omega, by omega, by omega, Lib.hid (smK_keep HK.out (by unfold hQ; rw [HV.out]; rfl))⟩
        case measure => simp [intOf]
      · go_wp2_with fail
        go_round
        case rel => exact ⟨6, c + a5, rfl, rfl, by omega, by omega, by omega, Lib.hid (smK_step HK.out (by unfold hQ; rw [HV.out]; rfl))⟩
        case measure => simp [intOf]
    · go_wp2_with fail
      go_ret
      exact ⟨ret_int (by rw [← HR.out, ← smK_six]; exact HK.out.symm), rfl⟩
set_option maxHeartbeats 4000000 in
theorem iFo_is {F a0 a1 a2 a3 a4 a5 r : Int} (w : World) (hr : foI (fst6 (pQ F a0 a1 a2 a3 a4 a5)) = r) :
    Calls Try.prog 54 #[.agg #[.int .i64 a0, .int .i64 a1, .int .i64 a2, .int .i64 a3, .int .i64 a4, .int .i64 a5], .int .i64 F] w fun E w' => E = .returned (.int .i64 r) ∧ Below w.heap.size w w' := by
  have HR := Lib.hid hr
  clear hr
  go_enter Try.func54, Try.ntmps54
  go_wp2_with fail
  go_loopw [8] (fun v8 wr => ∃ k : Nat, v8 = .int .i64 k ∧ k ≤ 6 ∧ Hid (∀ j, j < k → pQ F a0 a1 a2 a3 a4 a5 j = false) ∧ Below w.heap.size w wr) (fun v8 _ => (6 - intOf v8).toNat)
  case atStart => exact ⟨0, rfl, by omega, Lib.hid (fun j hj => absurd hj (Nat.not_lt_zero _)), bel1 _ _⟩
  case round =>
    obtain ⟨k, rfl, k6, HK, hB⟩ := hrel
    have hk : k = 0 ∨ k = 1 ∨ k = 2 ∨ k = 3 ∨ k = 4 ∨ k = 5 ∨ k = 6 := by omega
    rcases hk with rfl | rfl | rfl | rfl | rfl | rfl | rfl
    · have ix : ∀ w, (Instr.index 62 (.agg #[.int .i64 a0, .int .i64 a1, .int .i64 a2, .int .i64 a3, .int .i64 a4, .int .i64 a5]) (.int .i64 0)).run Try.prog w = .ok (.int .i64 a0) w := fun _ => by kernel_rfl
      by_cases hp : 0 < a0
      · have hd : decide (0 < a0) = true := by simpa using hp
        obtain ⟨v, hv⟩ : ∃ v, isB F 0 = v := ⟨_, rfl⟩
        have HV := Lib.hid hv
        clear hv
        cases v
        · have HK2 : Hid (∀ j, j < 1 → pQ F a0 a1 a2 a3 a4 a5 j = false) := Lib.hid (fun j hj => by
          by_cases e : j = 0
          · rw [e]; unfold pQ; rw [HV.out, Bool.and_false]
          · exact HK.out j (by omega))
          clear HK
          go_wp2_with fail
          refine (iIs_q (j := 0) _ (by omega) HV.out).mono ?_; rintro E w' ⟨rfl, rfl⟩
          go_wp2_with fail
          go_roundw
          case rel => exact ⟨1, rfl, by omega, HK2, by first | exact hB | exact hB.drew⟩
          case measure => simp [intOf]
        · have HF := Lib.hid (fst6_at (P := pQ F a0 a1 a2 a3 a4 a5) (by omega) HK.out (by unfold pQ; rw [HV.out, Bool.and_true]; exact hd))
          go_wp2_with fail
          refine (iIs_q (j := 0) _ (by omega) HV.out).mono ?_; rintro E w' ⟨rfl, rfl⟩
          go_wp2_with fail
          go_ret
          exact ⟨ret_int (by rw [← HR.out, HF.out]; rfl), by first | exact hB | exact hB.drew⟩
      · have hd : decide (0 < a0) = false := by simpa using hp
        have HK2 : Hid (∀ j, j < 1 → pQ F a0 a1 a2 a3 a4 a5 j = false) := Lib.hid (fun j hj => by
          by_cases e : j = 0
          · rw [e]; unfold pQ; rw [show aQ a0 a1 a2 a3 a4 a5 0 = a0 from rfl, hd]; rfl
          · exact HK.out j (by omega))
        clear HK
        go_wp2_with fail
        go_roundw
        case rel => exact ⟨1, rfl, by omega, HK2, by first | exact hB | exact hB.drew⟩
        case measure => simp [intOf]
    · have ix : ∀ w, (Instr.index 62 (.agg #[.int .i64 a0, .int .i64 a1, .int .i64 a2, .int .i64 a3, .int .i64 a4, .int .i64 a5]) (.int .i64 1)).run Try.prog w = .ok (.int .i64 a1) w := fun _ => by kernel_rfl
      by_cases hp : 0 < a1
      · have hd : decide (0 < a1) = true := by simpa using hp
        obtain ⟨v, hv⟩ : ∃ v, isB F 1 = v := ⟨_, rfl⟩
        have HV := Lib.hid hv
        clear hv
        cases v
        · have HK2 : Hid (∀ j, j < 2 → pQ F a0 a1 a2 a3 a4 a5 j = false) := Lib.hid (fun j hj => by
          by_cases e : j = 1
          · rw [e]; unfold pQ; rw [HV.out, Bool.and_false]
          · exact HK.out j (by omega))
          clear HK
          go_wp2_with fail
          refine (iIs_q (j := 1) _ (by omega) HV.out).mono ?_; rintro E w' ⟨rfl, rfl⟩
          go_wp2_with fail
          go_roundw
          case rel => exact ⟨2, rfl, by omega, HK2, by first | exact hB | exact hB.drew⟩
          case measure => simp [intOf]
        · have HF := Lib.hid (fst6_at (P := pQ F a0 a1 a2 a3 a4 a5) (by omega) HK.out (by unfold pQ; rw [HV.out, Bool.and_true]; exact hd))
          go_wp2_with fail
          refine (iIs_q (j := 1) _ (by omega) HV.out).mono ?_; rintro E w' ⟨rfl, rfl⟩
          go_wp2_with fail
          go_ret
          exact ⟨ret_int (by rw [← HR.out, HF.out]; rfl), by first | exact hB | exact hB.drew⟩
      · have hd : decide (0 < a1) = false := by simpa using hp
        have HK2 : Hid (∀ j, j < 2 → pQ F a0 a1 a2 a3 a4 a5 j = false) := Lib.hid (fun j hj => by
          by_cases e : j = 1
          · rw [e]; unfold pQ; rw [show aQ a0 a1 a2 a3 a4 a5 1 = a1 from rfl, hd]; rfl
          · exact HK.out j (by omega))
        clear HK
        go_wp2_with fail
        go_roundw
        case rel => exact ⟨2, rfl, by omega, HK2, by first | exact hB | exact hB.drew⟩
        case measure => simp [intOf]
    · have ix : ∀ w, (Instr.index 62 (.agg #[.int .i64 a0, .int .i64 a1, .int .i64 a2, .int .i64 a3, .int .i64 a4, .int .i64 a5]) (.int .i64 2)).run Try.prog w = .ok (.int .i64 a2) w := fun _ => by kernel_rfl
      by_cases hp : 0 < a2
      · have hd : decide (0 < a2) = true := by simpa using hp
        obtain ⟨v, hv⟩ : ∃ v, isB F 2 = v := ⟨_, rfl⟩
        have HV := Lib.hid hv
        clear hv
        cases v
        · have HK2 : Hid (∀ j, j < 3 → pQ F a0 a1 a2 a3 a4 a5 j = false) := Lib.hid (fun j hj => by
          by_cases e : j = 2
          · rw [e]; unfold pQ; rw [HV.out, Bool.and_false]
          · exact HK.out j (by omega))
          clear HK
          go_wp2_with fail
          refine (iIs_q (j := 2) _ (by omega) HV.out).mono ?_; rintro E w' ⟨rfl, rfl⟩
          go_wp2_with fail
          go_roundw
          case rel => exact ⟨3, rfl, by omega, HK2, by first | exact hB | exact hB.drew⟩
          case measure => simp [intOf]
        · have HF := Lib.hid (fst6_at (P := pQ F a0 a1 a2 a3 a4 a5) (by omega) HK.out (by unfold pQ; rw [HV.out, Bool.and_true]; exact hd))
          go_wp2_with fail
          refine (iIs_q (j := 2) _ (by omega) HV.out).mono ?_; rintro E w' ⟨rfl, rfl⟩
          go_wp2_with fail
          go_ret
          exact ⟨ret_int (by rw [← HR.out, HF.out]; rfl), by first | exact hB | exact hB.drew⟩
      · have hd : decide (0 < a2) = false := by simpa using hp
        have HK2 : Hid (∀ j, j < 3 → pQ F a0 a1 a2 a3 a4 a5 j = false) := Lib.hid (fun j hj => by
          by_cases e : j = 2
          · rw [e]; unfold pQ; rw [show aQ a0 a1 a2 a3 a4 a5 2 = a2 from rfl, hd]; rfl
          · exact HK.out j (by omega))
        clear HK
        go_wp2_with fail
        go_roundw
        case rel => exact ⟨3, rfl, by omega, HK2, by first | exact hB | exact hB.drew⟩
        case measure => simp [intOf]
    · have ix : ∀ w, (Instr.index 62 (.agg #[.int .i64 a0, .int .i64 a1, .int .i64 a2, .int .i64 a3, .int .i64 a4, .int .i64 a5]) (.int .i64 3)).run Try.prog w = .ok (.int .i64 a3) w := fun _ => by kernel_rfl
      by_cases hp : 0 < a3
      · have hd : decide (0 < a3) = true := by simpa using hp
        obtain ⟨v, hv⟩ : ∃ v, isB F 3 = v := ⟨_, rfl⟩
        have HV := Lib.hid hv
        clear hv
        cases v
        · have HK2 : Hid (∀ j, j < 4 → pQ F a0 a1 a2 a3 a4 a5 j = false) := Lib.hid (fun j hj => by
          by_cases e : j = 3
          · rw [e]; unfold pQ; rw [HV.out, Bool.and_false]
          · exact HK.out j (by omega))
          clear HK
          go_wp2_with fail
          refine (iIs_q (j := 3) _ (by omega) HV.out).mono ?_; rintro E w' ⟨rfl, rfl⟩
          go_wp2_with fail
          go_roundw
          case rel => exact ⟨4, rfl, by omega, HK2, by first | exact hB | exact hB.drew⟩
          case measure => simp [intOf]
        · have HF := Lib.hid (fst6_at (P := pQ F a0 a1 a2 a3 a4 a5) (by omega) HK.out (by unfold pQ; rw [HV.out, Bool.and_true]; exact hd))
          go_wp2_with fail
          refine (iIs_q (j := 3) _ (by omega) HV.out).mono ?_; rintro E w' ⟨rfl, rfl⟩
          go_wp2_with fail
          go_ret
          exact ⟨ret_int (by rw [← HR.out, HF.out]; rfl), by first | exact hB | exact hB.drew⟩
      · have hd : decide (0 < a3) = false := by simpa using hp
        have HK2 : Hid (∀ j, j < 4 → pQ F a0 a1 a2 a3 a4 a5 j = false) := Lib.hid (fun j hj => by
          by_cases e : j = 3
          · rw [e]; unfold pQ; rw [show aQ a0 a1 a2 a3 a4 a5 3 = a3 from rfl, hd]; rfl
          · exact HK.out j (by omega))
        clear HK
        go_wp2_with fail
        go_roundw
        case rel => exact ⟨4, rfl, by omega, HK2, by first | exact hB | exact hB.drew⟩
        case measure => simp [intOf]
    · have ix : ∀ w, (Instr.index 62 (.agg #[.int .i64 a0, .int .i64 a1, .int .i64 a2, .int .i64 a3, .int .i64 a4, .int .i64 a5]) (.int .i64 4)).run Try.prog w = .ok (.int .i64 a4) w := fun _ => by kernel_rfl
      by_cases hp : 0 < a4
      · have hd : decide (0 < a4) = true := by simpa using hp
        obtain ⟨v, hv⟩ : ∃ v, isB F 4 = v := ⟨_, rfl⟩
        have HV := Lib.hid hv
        clear hv
        cases v
        · have HK2 : Hid (∀ j, j < 5 → pQ F a0 a1 a2 a3 a4 a5 j = false) := Lib.hid (fun j hj => by
          by_cases e : j = 4
          · rw [e]; unfold pQ; rw [HV.out, Bool.and_false]
          · exact HK.out j (by omega))
          clear HK
          go_wp2_with fail
          refine (iIs_q (j := 4) _ (by omega) HV.out).mono ?_; rintro E w' ⟨rfl, rfl⟩
          go_wp2_with fail
          go_roundw
          case rel => exact ⟨5, rfl, by omega, HK2, by first | exact hB | exact hB.drew⟩
          case measure => simp [intOf]
        · have HF := Lib.hid (fst6_at (P := pQ F a0 a1 a2 a3 a4 a5) (by omega) HK.out (by unfold pQ; rw [HV.out, Bool.and_true]; exact hd))
          go_wp2_with fail
          refine (iIs_q (j := 4) _ (by omega) HV.out).mono ?_; rintro E w' ⟨rfl, rfl⟩
          go_wp2_with fail
          go_ret
          exact ⟨ret_int (by rw [← HR.out, HF.out]; rfl), by first | exact hB | exact hB.drew⟩
      · have hd : decide (0 < a4) = false := by simpa using hp
        have HK2 : Hid (∀ j, j < 5 → pQ F a0 a1 a2 a3 a4 a5 j = false) := Lib.hid (fun j hj => by
          by_cases e : j = 4
          · rw [e]; unfold pQ; rw [show aQ a0 a1 a2 a3 a4 a5 4 = a4 from rfl, hd]; rfl
          · exact HK.out j (by omega))
        clear HK
        go_wp2_with fail
        go_roundw
        case rel => exact ⟨5, rfl, by omega, HK2, by first | exact hB | exact hB.drew⟩
        case measure => simp [intOf]
    · have ix : ∀ w, (Instr.index 62 (.agg #[.int .i64 a0, .int .i64 a1, .int .i64 a2, .int .i64 a3, .int .i64 a4, .int .i64 a5]) (.int .i64 5)).run Try.prog w = .ok (.int .i64 a5) w := fun _ => by kernel_rfl
      by_cases hp : 0 < a5
      · have hd : decide (0 < a5) = true := by simpa using hp
        obtain ⟨v, hv⟩ : ∃ v, isB F 5 = v := ⟨_, rfl⟩
        have HV := Lib.hid hv
        clear hv
        cases v
        · have HK2 : Hid (∀ j, j < 6 → pQ F a0 a1 a2 a3 a4 a5 j = false) := Lib.hid (fun j hj => by
          by_cases e : j = 5
          · rw [e]; unfold pQ; rw [HV.out, Bool.and_false]
          · exact HK.out j (by omega))
          clear HK
          go_wp2_with fail
          refine (iIs_q (j := 5) _ (by omega) HV.out).mono ?_; rintro E w' ⟨rfl, rfl⟩
          go_wp2_with fail
          go_roundw
          case rel => exact ⟨6, rfl, by omega, HK2, by first | exact hB | exact hB.drew⟩
          case measure => simp [intOf]
        · have HF := Lib.hid (fst6_at (P := pQ F a0 a1 a2 a3 a4 a5) (by omega) HK.out (by unfold pQ; rw [HV.out, Bool.and_true]; exact hd))
          go_wp2_with fail
          refine (iIs_q (j := 5) _ (by omega) HV.out).mono ?_; rintro E w' ⟨rfl, rfl⟩
          go_wp2_with fail
          go_ret
          exact ⟨ret_int (by rw [← HR.out, HF.out]; rfl), by first | exact hB | exact hB.drew⟩
      · have hd : decide (0 < a5) = false := by simpa using hp
        have HK2 : Hid (∀ j, j < 6 → pQ F a0 a1 a2 a3 a4 a5 j = false) := Lib.hid (fun j hj => by
          by_cases e : j = 5
          · rw [e]; unfold pQ; rw [show aQ a0 a1 a2 a3 a4 a5 5 = a5 from rfl, hd]; rfl
          · exact HK.out j (by omega))
        clear HK
        go_wp2_with fail
        go_roundw
        case rel => exact ⟨6, rfl, by omega, HK2, by first | exact hB | exact hB.drew⟩
        case measure => simp [intOf]
    · have HF := Lib.hid (fst6_none HK.out)
      go_wp2_with fail
      go_ret
      exact ⟨ret_int (by rw [← HR.out, HF.out]; rfl), hB⟩
end Go.Proofs.Ytoklehmoeollfaa
