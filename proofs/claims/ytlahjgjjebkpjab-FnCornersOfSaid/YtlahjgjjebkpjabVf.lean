/- Contracts of chapter 5: what casts onto what. -/
import Derived.Test.YtlahjgjjebkpjabVa
import Derived.Test.YtlahjgjjebkpjabVd
namespace Go.Proofs.Ytlahjgjjebkpjab
open Go Go.ChangeShapes Go.WideShapes Go.ChangeAt Go.RowKit
set_option linter.unusedSimpArgs false
set_option linter.unusedVariables false

def corE (x y : Int) (k : Nat) : Int := if k = 0 ∨ k = 3 then x else y
def corN (x y : Int) (k : Nat) : Int := if k = 0 ∨ k = 1 then x else y
def csB (a b c d h a2 b2 c2 d2 h2 re rn ru : Int) : Bool := blB a2 b2 c2 d2 h2 && (shB a2 c2 a b c d h re rn ru || (shB b2 c2 a b c d h re rn ru || (shB b2 d2 a b c d h re rn ru || shB a2 d2 a b c d h re rn ru)))
set_option maxHeartbeats 4000000 in
theorem foot_any (a b c d h : Int) (w : World) :
    Calls Try.prog 58 #[.agg #[.int .i64 a, .int .i64 b, .int .i64 c, .int .i64 d, .int .i64 h]] w fun E w' => E = .returned (.agg #[.int .i64 a, .int .i64 c, .int .i64 b, .int .i64 c, .int .i64 b, .int .i64 d, .int .i64 a, .int .i64 d]) ∧ Below w.heap.size w w' := by
  go_enter Try.func58, Try.ntmps58
  go_wp2
  exact bodyPost_ret (v := .agg #[.int .i64 a, .int .i64 c, .int .i64 b, .int .i64 c, .int .i64 b, .int .i64 d, .int .i64 a, .int .i64 d]) (by simp [results, Try.results58, go_sem]) rfl ⟨rfl, by
    repeat (first | exact Below.refl _ _ | refine Below.setCell ?_ (by simp <;> omega) _ | refine Below.alloc ?_ (by simp <;> omega) _)⟩
set_option maxRecDepth 100000 in
set_option maxHeartbeats 4000000 in
theorem iCs_any (a b c d h a2 b2 c2 d2 h2 re rn ru : Int) (w : World) :
    Calls Try.prog 24 #[.agg #[.int .i64 a, .int .i64 b, .int .i64 c, .int .i64 d, .int .i64 h], .agg #[.int .i64 a2, .int .i64 b2, .int .i64 c2, .int .i64 d2, .int .i64 h2], .agg #[.int .i64 re, .int .i64 rn, .int .i64 ru]] w fun E w' => E = .returned (.bool (csB a b c d h a2 b2 c2 d2 h2 re rn ru)) ∧ Below w.heap.size w w' := by
  cases hb : blB a2 b2 c2 d2 h2
  · have hv : csB a b c d h a2 b2 c2 d2 h2 re rn ru = false := by unfold csB; rw [hb]; rfl
    rw [hv]
    have HB := Lib.hid hb
    clear hb hv
    go_enter Try.func24, Try.ntmps24
    go_wp2_with fail
    refine (iBV_is _ HB.out).mono ?_; rintro E w1 ⟨rfl, hw1⟩
    obtain ⟨hP1, hQ1, hR1, hB1⟩ := ownb3 hw1
    obtain ⟨cP1_0, cP1_1, cP1_2, cP1_3, cP1_4, fP1_0, fP1_1, fP1_2, fP1_3, fP1_4, zP1⟩ := blk5 hP1
    obtain ⟨cQ1_0, cQ1_1, cQ1_2, cQ1_3, cQ1_4, fQ1_0, fQ1_1, fQ1_2, fQ1_3, fQ1_4, zQ1⟩ := blk5 hQ1
    obtain ⟨cR1_0, cR1_1, cR1_2, fR1_0, fR1_1, fR1_2, zR1⟩ := blk3 hR1
    go_wp2
    go_ret
    exact ⟨rfl, hB1⟩
  · have HB := Lib.hid hb
    clear hb
    go_enter Try.func24, Try.ntmps24
    go_wp2_with fail
    refine (iBV_is _ HB.out).mono ?_; rintro E w1 ⟨rfl, hw1⟩
    obtain ⟨hP1, hQ1, hR1, hB1⟩ := ownb3 hw1
    obtain ⟨cP1_0, cP1_1, cP1_2, cP1_3, cP1_4, fP1_0, fP1_1, fP1_2, fP1_3, fP1_4, zP1⟩ := blk5 hP1
    obtain ⟨cQ1_0, cQ1_1, cQ1_2, cQ1_3, cQ1_4, fQ1_0, fQ1_1, fQ1_2, fQ1_3, fQ1_4, zQ1⟩ := blk5 hQ1
    obtain ⟨cR1_0, cR1_1, cR1_2, fR1_0, fR1_1, fR1_2, zR1⟩ := blk3 hR1
    go_wp2_with fail
    refine (foot_any _ _ _ _ _ _).mono ?_; rintro E w2 ⟨rfl, hw2⟩
    have hP2 := blk_next hP1 hw2
    have hQ2 := blk_next hQ1 hw2
    have hR2 := blk_next hR1 hw2
    have hB2 := bel_next hB1 hw2
    obtain ⟨cP2_0, cP2_1, cP2_2, cP2_3, cP2_4, fP2_0, fP2_1, fP2_2, fP2_3, fP2_4, zP2⟩ := blk5 hP2
    obtain ⟨cQ2_0, cQ2_1, cQ2_2, cQ2_3, cQ2_4, fQ2_0, fQ2_1, fQ2_2, fQ2_3, fQ2_4, zQ2⟩ := blk5 hQ2
    obtain ⟨cR2_0, cR2_1, cR2_2, fR2_0, fR2_1, fR2_2, zR2⟩ := blk3 hR2
    go_wp2_with fail
    go_loopw [14] (fun s14 wr => ∃ k : Nat, k ≤ 4 ∧ s14 = .int .i64 k ∧ Hid (∀ j : Nat, j < k → shB (corE a2 b2 j) (corN c2 d2 j) a b c d h re rn ru = false) ∧ wr.heap[w.heap.size]? = some (.cells #[.int .i64 a, .int .i64 b, .int .i64 c, .int .i64 d, .int .i64 h] 26 (0, 0)) ∧ wr.heap[w.heap.size + 1]? = some (.cells #[.int .i64 a2, .int .i64 b2, .int .i64 c2, .int .i64 d2, .int .i64 h2] 26 (0, 0)) ∧ wr.heap[w.heap.size + 1 + 1]? = some (.cells #[.int .i64 re, .int .i64 rn, .int .i64 ru] 28 (0, 0)) ∧ Below w.heap.size w wr) (fun s14 _ => (4 - intOf s14).toNat)
    case atStart => exact ⟨0, by omega, rfl, Lib.hid (fun j hj => by omega), hP2, hQ2, hR2, hB2⟩
    case round =>
      obtain ⟨k, k1, rfl, HC, hP, hQ, hR, hB⟩ := hrel
      have kk : k = 0 ∨ k = 1 ∨ k = 2 ∨ k = 3 ∨ k = 4 := by omega
      clear k1
      rcases kk with rfl | rfl | rfl | rfl | rfl
      · have ix : ∀ w, (Instr.index 79 (.agg #[.int .i64 a2, .int .i64 c2, .int .i64 b2, .int .i64 c2, .int .i64 b2, .int .i64 d2, .int .i64 a2, .int .i64 d2]) (.int .i64 0)).run Try.prog w = .ok (.agg #[.int .i64 a2, .int .i64 c2]) w := fun _ => by kernel_rfl
        obtain ⟨p0, p1, p2, p3, p4, _, _, _, _, _, zp⟩ := blk5 hP
        obtain ⟨r0, r1, r2, _, _, _, zr⟩ := blk3 hR
        obtain ⟨v, hv⟩ : ∃ v, shB a2 c2 a b c d h re rn ru = v := ⟨_, rfl⟩
        have HV := Lib.hid hv
        clear hv
        go_wp2_with fail
        refine (iSh_is _ HV.out).mono ?_; rintro E w7 ⟨rfl, hw7⟩
        have hP7 := blk_next (blk_old hP _) hw7
        have hQ7 := blk_next (blk_old hQ _) hw7
        have hR7 := blk_next (blk_old hR _) hw7
        have hB7 := bel_next (hB.alloc hB.size _) hw7
        cases v
        · go_wp2_with fail
          go_roundw
          case rel => exact ⟨1, by omega, by go_num, Lib.hid (fun j hj => by rcases Nat.lt_or_ge j 0 with e | e; exact HC.out j e; obtain rfl : j = 0 := (by omega); exact HV.out), hP7, hQ7, hR7, hB7⟩
          case measure => simp [intOf]
        · go_wp2_with fail
          go_ret
          exact ⟨ret_bool (by unfold csB; rw [HB.out, HV.out]; simp), hB7⟩
      · have ix : ∀ w, (Instr.index 79 (.agg #[.int .i64 a2, .int .i64 c2, .int .i64 b2, .int .i64 c2, .int .i64 b2, .int .i64 d2, .int .i64 a2, .int .i64 d2]) (.int .i64 1)).run Try.prog w = .ok (.agg #[.int .i64 b2, .int .i64 c2]) w := fun _ => by kernel_rfl
        obtain ⟨p0, p1, p2, p3, p4, _, _, _, _, _, zp⟩ := blk5 hP
        obtain ⟨r0, r1, r2, _, _, _, zr⟩ := blk3 hR
        obtain ⟨v, hv⟩ : ∃ v, shB b2 c2 a b c d h re rn ru = v := ⟨_, rfl⟩
        have HV := Lib.hid hv
        clear hv
        go_wp2_with fail
        refine (iSh_is _ HV.out).mono ?_; rintro E w7 ⟨rfl, hw7⟩
        have hP7 := blk_next (blk_old hP _) hw7
        have hQ7 := blk_next (blk_old hQ _) hw7
        have hR7 := blk_next (blk_old hR _) hw7
        have hB7 := bel_next (hB.alloc hB.size _) hw7
        cases v
        · go_wp2_with fail
          go_roundw
          case rel => exact ⟨2, by omega, by go_num, Lib.hid (fun j hj => by rcases Nat.lt_or_ge j 1 with e | e; exact HC.out j e; obtain rfl : j = 1 := (by omega); exact HV.out), hP7, hQ7, hR7, hB7⟩
          case measure => simp [intOf]
        · go_wp2_with fail
          go_ret
          exact ⟨ret_bool (by unfold csB; rw [HB.out, HV.out]; simp), hB7⟩
      · have ix : ∀ w, (Instr.index 79 (.agg #[.int .i64 a2, .int .i64 c2, .int .i64 b2, .int .i64 c2, .int .i64 b2, .int .i64 d2, .int .i64 a2, .int .i64 d2]) (.int .i64 2)).run Try.prog w = .ok (.agg #[.int .i64 b2, .int .i64 d2]) w := fun _ => by kernel_rfl
        obtain ⟨p0, p1, p2, p3, p4, _, _, _, _, _, zp⟩ := blk5 hP
        obtain ⟨r0, r1, r2, _, _, _, zr⟩ := blk3 hR
        obtain ⟨v, hv⟩ : ∃ v, shB b2 d2 a b c d h re rn ru = v := ⟨_, rfl⟩
        have HV := Lib.hid hv
        clear hv
        go_wp2_with fail
        refine (iSh_is _ HV.out).mono ?_; rintro E w7 ⟨rfl, hw7⟩
        have hP7 := blk_next (blk_old hP _) hw7
        have hQ7 := blk_next (blk_old hQ _) hw7
        have hR7 := blk_next (blk_old hR _) hw7
        have hB7 := bel_next (hB.alloc hB.size _) hw7
        cases v
        · go_wp2_with fail
          go_roundw
          case rel => exact ⟨3, by omega, by go_num, Lib.hid (fun j hj => by rcases Nat.lt_or_ge j 2 with e | e; exact HC.out j e; obtain rfl : j = 2 := (by omega); exact HV.out), hP7, hQ7, hR7, hB7⟩
          case measure => simp [intOf]
        · go_wp2_with fail
          go_ret
          exact ⟨ret_bool (by unfold csB; rw [HB.out, HV.out]; simp), hB7⟩
      · have ix : ∀ w, (Instr.index 79 (.agg #[.int .i64 a2, .int .i64 c2, .int .i64 b2, .int .i64 c2, .int .i64 b2, .int .i64 d2, .int .i64 a2, .int .i64 d2]) (.int .i64 3)).run Try.prog w = .ok (.agg #[.int .i64 a2, .int .i64 d2]) w := fun _ => by kernel_rfl
        obtain ⟨p0, p1, p2, p3, p4, _, _, _, _, _, zp⟩ := blk5 hP
        obtain ⟨r0, r1, r2, _, _, _, zr⟩ := blk3 hR
        obtain ⟨v, hv⟩ : ∃ v, shB a2 d2 a b c d h re rn ru = v := ⟨_, rfl⟩
        have HV := Lib.hid hv
        clear hv
        go_wp2_with fail
        refine (iSh_is _ HV.out).mono ?_; rintro E w7 ⟨rfl, hw7⟩
        have hP7 := blk_next (blk_old hP _) hw7
        have hQ7 := blk_next (blk_old hQ _) hw7
        have hR7 := blk_next (blk_old hR _) hw7
        have hB7 := bel_next (hB.alloc hB.size _) hw7
        cases v
        · go_wp2_with fail
          go_roundw
          case rel => exact ⟨4, by omega, by go_num, Lib.hid (fun j hj => by rcases Nat.lt_or_ge j 3 with e | e; exact HC.out j e; obtain rfl : j = 3 := (by omega); exact HV.out), hP7, hQ7, hR7, hB7⟩
          case measure => simp [intOf]
        · go_wp2_with fail
          go_ret
          exact ⟨ret_bool (by unfold csB; rw [HB.out, HV.out]; simp), hB7⟩
      · go_wp2_with fail
        go_ret
        exact ⟨ret_bool (by unfold csB; have e0 := HC.out 0 (by omega); have e1 := HC.out 1 (by omega); have e2 := HC.out 2 (by omega); have e3 := HC.out 3 (by omega); simp only [corE, corN] at e0 e1 e2 e3; simp at e0 e1 e2 e3; rw [e0, e1, e2, e3]; simp), hB⟩
set_option maxRecDepth 100000 in
set_option maxHeartbeats 4000000 in
theorem sCs_any (a b c d h a2 b2 c2 d2 h2 re rn ru : Int) (w : World) :
    Calls Try.prog 25 #[.agg #[.int .i64 a, .int .i64 b, .int .i64 c, .int .i64 d, .int .i64 h], .agg #[.int .i64 a2, .int .i64 b2, .int .i64 c2, .int .i64 d2, .int .i64 h2], .agg #[.int .i64 re, .int .i64 rn, .int .i64 ru]] w fun E w' => E = .returned (.bool (csB a b c d h a2 b2 c2 d2 h2 re rn ru)) ∧ Below w.heap.size w w' := by
  cases hb : blB a2 b2 c2 d2 h2
  · have hv : csB a b c d h a2 b2 c2 d2 h2 re rn ru = false := by unfold csB; rw [hb]; rfl
    rw [hv]
    have HB := Lib.hid hb
    clear hb hv
    go_enter Try.func25, Try.ntmps25
    go_wp2_with fail
    go_loopw [8] (fun s8 wr => ∃ k : Nat, k ≤ 0 ∧ s8 = .int .i64 k ∧ Hid (∀ j : Nat, j < k → shB (corE a2 b2 j) (corN c2 d2 j) a b c d h re rn ru = false) ∧ wr.heap[w.heap.size]? = some (.cells #[.int .i64 a, .int .i64 b, .int .i64 c, .int .i64 d, .int .i64 h] 26 (0, 0)) ∧ wr.heap[w.heap.size + 1]? = some (.cells #[.int .i64 a2, .int .i64 b2, .int .i64 c2, .int .i64 d2, .int .i64 h2] 26 (0, 0)) ∧ wr.heap[w.heap.size + 1 + 1]? = some (.cells #[.int .i64 re, .int .i64 rn, .int .i64 ru] 28 (0, 0)) ∧ wr.heap[w.heap.size + 1 + 1 + 1]? = some (.cells #[.int .i64 a2, .int .i64 c2, .int .i64 b2, .int .i64 c2, .int .i64 b2, .int .i64 d2, .int .i64 a2, .int .i64 d2] 24 (0, 0)) ∧ Below w.heap.size w wr) (fun s8 _ => (4 - intOf s8).toNat)
    case atStart => exact ⟨0, by omega, rfl, Lib.hid (fun j hj => by omega), blk_old (blk_old (blk_old (blk_new w _) _) _) _, blk_old (blk_old (new2 w _ _) _) _, blk_old (new3 w _ _ _) _, new4 w _ _ _ _, (bel3 w _ _ _).alloc (by simp <;> omega) _⟩
    case round =>
      obtain ⟨k, k1, rfl, HC, hP, hQ, hR, hL, hB⟩ := hrel
      obtain rfl : k = 0 := by omega
      obtain ⟨q0, q1, q2, q3, q4, _, _, _, _, _, zq⟩ := blk5 hQ
      go_wp2_with fail
      refine (sBV_is _ HB.out).mono ?_; rintro E w5 ⟨rfl, hw5⟩
      have hP5 := blk_next hP hw5
      have hQ5 := blk_next hQ hw5
      have hR5 := blk_next hR hw5
      have hL5 := blk_next hL hw5
      have hB5 := bel_next hB hw5
      go_wp2_with fail
      go_ret
      exact ⟨rfl, hB5⟩
  · have HB := Lib.hid hb
    clear hb
    go_enter Try.func25, Try.ntmps25
    go_wp2_with fail
    go_loopw [8] (fun s8 wr => ∃ k : Nat, k ≤ 4 ∧ s8 = .int .i64 k ∧ Hid (∀ j : Nat, j < k → shB (corE a2 b2 j) (corN c2 d2 j) a b c d h re rn ru = false) ∧ wr.heap[w.heap.size]? = some (.cells #[.int .i64 a, .int .i64 b, .int .i64 c, .int .i64 d, .int .i64 h] 26 (0, 0)) ∧ wr.heap[w.heap.size + 1]? = some (.cells #[.int .i64 a2, .int .i64 b2, .int .i64 c2, .int .i64 d2, .int .i64 h2] 26 (0, 0)) ∧ wr.heap[w.heap.size + 1 + 1]? = some (.cells #[.int .i64 re, .int .i64 rn, .int .i64 ru] 28 (0, 0)) ∧ wr.heap[w.heap.size + 1 + 1 + 1]? = some (.cells #[.int .i64 a2, .int .i64 c2, .int .i64 b2, .int .i64 c2, .int .i64 b2, .int .i64 d2, .int .i64 a2, .int .i64 d2] 24 (0, 0)) ∧ Below w.heap.size w wr) (fun s8 _ => (4 - intOf s8).toNat)
    case atStart => exact ⟨0, by omega, rfl, Lib.hid (fun j hj => by omega), blk_old (blk_old (blk_old (blk_new w _) _) _) _, blk_old (blk_old (new2 w _ _) _) _, blk_old (new3 w _ _ _) _, new4 w _ _ _ _, (bel3 w _ _ _).alloc (by simp <;> omega) _⟩
    case round =>
      obtain ⟨k, k1, rfl, HC, hP, hQ, hR, hL, hB⟩ := hrel
      have kk : k = 0 ∨ k = 1 ∨ k = 2 ∨ k = 3 ∨ k = 4 := by omega
      clear k1
      rcases kk with rfl | rfl | rfl | rfl | rfl
      · obtain ⟨q0, q1, q2, q3, q4, _, _, _, _, _, zq⟩ := blk5 hQ
        obtain ⟨v, hv⟩ : ∃ v, shB a2 c2 a b c d h re rn ru = v := ⟨_, rfl⟩
        have HV := Lib.hid hv
        clear hv
        go_wp2_with fail
        refine (sBV_is _ HB.out).mono ?_; rintro E w5 ⟨rfl, hw5⟩
        have hP5 := blk_next hP hw5
        have hQ5 := blk_next hQ hw5
        have hR5 := blk_next hR hw5
        have hL5 := blk_next hL hw5
        have hB5 := bel_next hB hw5
        go_wp2_with fail
        refine wp_region_held_drew (S := (fun w' => w'.heap[w.heap.size]? = some (.cells #[.int .i64 a, .int .i64 b, .int .i64 c, .int .i64 d, .int .i64 h] 26 (0, 0)) ∧ w'.heap[w.heap.size + 1]? = some (.cells #[.int .i64 a2, .int .i64 b2, .int .i64 c2, .int .i64 d2, .int .i64 h2] 26 (0, 0)) ∧ w'.heap[w.heap.size + 1 + 1]? = some (.cells #[.int .i64 re, .int .i64 rn, .int .i64 ru] 28 (0, 0)) ∧ w'.heap[w.heap.size + 1 + 1 + 1]? = some (.cells #[.int .i64 a2, .int .i64 c2, .int .i64 b2, .int .i64 c2, .int .i64 b2, .int .i64 d2, .int .i64 a2, .int .i64 d2] 24 (0, 0)) ∧ Below w.heap.size w w')) (by kernel_rfl) ⟨hP5, hQ5, hR5, hL5, hB5.drew⟩ (fun hHeld => ?_)
        obtain ⟨hP_0, hQ_0, hR_0, hL_0, hB_0⟩ := id hHeld
        refine wpAnyH_take (i := 0) (oi := _) (v := ?_) rfl (by kernel_rfl) (by kernel_rfl) (by kernel_rfl) (fun _ _ _ h => h) (Or.inl ⟨by rfl, ?_⟩) (by assumption) ?_
        (rotate_left); (focus (intro wv hSw; (obtain ⟨qP, qQ, qR, qL, qB⟩ := hSw);  go_simp; (try with_reducible rfl)))
        try simp only [Act.put, List.getElem_toArray, List.getElem_cons_succ, List.getElem_cons_zero, List.setIfInBounds_toArray, List.set_cons_zero, List.set_cons_succ]
        refine wpAnyH_take (i := 1) (oi := _) (v := ?_) rfl (by kernel_rfl) (by kernel_rfl) (by kernel_rfl) (fun _ _ _ h => h) (Or.inl ⟨by rfl, ?_⟩) (by assumption) ?_
        (rotate_left); (focus (intro wv hSw; (obtain ⟨qP, qQ, qR, qL, qB⟩ := hSw);  go_simp; (try with_reducible rfl)))
        try simp only [Act.put, List.getElem_toArray, List.getElem_cons_succ, List.getElem_cons_zero, List.setIfInBounds_toArray, List.set_cons_zero, List.set_cons_succ]
        refine wpAnyH_take (i := 2) (oi := _) (v := ?_) rfl (by kernel_rfl) (by kernel_rfl) (by kernel_rfl) (fun _ _ _ h => h) (Or.inl ⟨by rfl, ?_⟩) (by assumption) ?_
        (rotate_left); (focus (intro wv hSw; (obtain ⟨qP, qQ, qR, qL, qB⟩ := hSw);  go_simp; (try with_reducible rfl)))
        try simp only [Act.put, List.getElem_toArray, List.getElem_cons_succ, List.getElem_cons_zero, List.setIfInBounds_toArray, List.set_cons_zero, List.set_cons_succ]
        refine wpAnyH_take (i := 3) (oi := _) (v := ?_) rfl (by kernel_rfl) (by kernel_rfl) (by kernel_rfl) (fun _ _ _ h => h) (Or.inl ⟨by rfl, ?_⟩) (by assumption) ?_
        (rotate_left); (focus (intro wv hSw; (obtain ⟨qP, qQ, qR, qL, qB⟩ := hSw); obtain ⟨m0, m1, m2, m3, m4, m5, m6, m7, mz⟩ := blk8 qL; go_simp; (try with_reducible rfl)))
        try simp only [Act.put, List.getElem_toArray, List.getElem_cons_succ, List.getElem_cons_zero, List.setIfInBounds_toArray, List.set_cons_zero, List.set_cons_succ]
        refine wpAnyH_take (i := 4) (oi := _) (v := ?_) rfl (by kernel_rfl) (by kernel_rfl) (by kernel_rfl) (fun _ _ _ h => h) (Or.inl ⟨by rfl, ?_⟩) (by assumption) ?_
        (rotate_left); (focus (intro wv hSw; (obtain ⟨qP, qQ, qR, qL, qB⟩ := hSw); obtain ⟨m0, m1, m2, m3, m4, _, _, _, _, _, mz⟩ := blk5 qP; go_simp; (try with_reducible rfl)))
        try simp only [Act.put, List.getElem_toArray, List.getElem_cons_succ, List.getElem_cons_zero, List.setIfInBounds_toArray, List.set_cons_zero, List.set_cons_succ]
        refine wpAnyH_take (i := 5) (oi := _) (v := ?_) rfl (by kernel_rfl) (by kernel_rfl) (by kernel_rfl) (fun _ _ _ h => h) (Or.inl ⟨by rfl, ?_⟩) (by assumption) ?_
        (rotate_left); (focus (intro wv hSw; (obtain ⟨qP, qQ, qR, qL, qB⟩ := hSw); obtain ⟨m0, m1, m2, _, _, _, mz⟩ := blk3 qR; go_simp; (try with_reducible rfl)))
        try simp only [Act.put, List.getElem_toArray, List.getElem_cons_succ, List.getElem_cons_zero, List.setIfInBounds_toArray, List.set_cons_zero, List.set_cons_succ]
        refine wpAnyH_ready (rs := [6]) (by kernel_rfl) (by simp) ?_
        refine AllReadyH.cons (o := _) rfl (fun K hK => ?_) AllReadyH.nil
        go_simp
        (go_at_call 13; refine (sSh_is _ HV.out).mono ?_; rintro e x0c ⟨rfl, hw_0c⟩)
        refine hK.out _ _ ⟨blk_next hP_0 hw_0c, blk_next hQ_0 hw_0c, blk_next hR_0 hw_0c, blk_next hL_0 hw_0c, bel_next hB_0 hw_0c⟩ (fun hHeld => ?_)
        clear hK K
        try simp only [Act.put, List.getElem_toArray, List.getElem_cons_succ, List.getElem_cons_zero, List.setIfInBounds_toArray, List.set_cons_zero, List.set_cons_succ]
        obtain ⟨hP_0c, hQ_0c, hR_0c, hL_0c, hB_0c⟩ := id hHeld
        refine wpAnyH_done (by kernel_rfl) ?_ _
        cases v
        · go_wp2_with fail
          go_roundw
          case rel => exact ⟨1, by omega, by go_num, Lib.hid (fun j hj => by rcases Nat.lt_or_ge j 0 with e | e; exact HC.out j e; obtain rfl : j = 0 := (by omega); exact HV.out), hP_0c, hQ_0c, hR_0c, hL_0c, hB_0c⟩
          case measure => simp [intOf]
        · go_wp2_with fail
          go_ret
          exact ⟨ret_bool (by unfold csB; rw [HB.out, HV.out]; simp), hB_0c⟩
      · obtain ⟨q0, q1, q2, q3, q4, _, _, _, _, _, zq⟩ := blk5 hQ
        obtain ⟨v, hv⟩ : ∃ v, shB b2 c2 a b c d h re rn ru = v := ⟨_, rfl⟩
        have HV := Lib.hid hv
        clear hv
        go_wp2_with fail
        refine (sBV_is _ HB.out).mono ?_; rintro E w5 ⟨rfl, hw5⟩
        have hP5 := blk_next hP hw5
        have hQ5 := blk_next hQ hw5
        have hR5 := blk_next hR hw5
        have hL5 := blk_next hL hw5
        have hB5 := bel_next hB hw5
        go_wp2_with fail
        refine wp_region_held_drew (S := (fun w' => w'.heap[w.heap.size]? = some (.cells #[.int .i64 a, .int .i64 b, .int .i64 c, .int .i64 d, .int .i64 h] 26 (0, 0)) ∧ w'.heap[w.heap.size + 1]? = some (.cells #[.int .i64 a2, .int .i64 b2, .int .i64 c2, .int .i64 d2, .int .i64 h2] 26 (0, 0)) ∧ w'.heap[w.heap.size + 1 + 1]? = some (.cells #[.int .i64 re, .int .i64 rn, .int .i64 ru] 28 (0, 0)) ∧ w'.heap[w.heap.size + 1 + 1 + 1]? = some (.cells #[.int .i64 a2, .int .i64 c2, .int .i64 b2, .int .i64 c2, .int .i64 b2, .int .i64 d2, .int .i64 a2, .int .i64 d2] 24 (0, 0)) ∧ Below w.heap.size w w')) (by kernel_rfl) ⟨hP5, hQ5, hR5, hL5, hB5.drew⟩ (fun hHeld => ?_)
        obtain ⟨hP_0, hQ_0, hR_0, hL_0, hB_0⟩ := id hHeld
        refine wpAnyH_take (i := 0) (oi := _) (v := ?_) rfl (by kernel_rfl) (by kernel_rfl) (by kernel_rfl) (fun _ _ _ h => h) (Or.inl ⟨by rfl, ?_⟩) (by assumption) ?_
        (rotate_left); (focus (intro wv hSw; (obtain ⟨qP, qQ, qR, qL, qB⟩ := hSw);  go_simp; (try with_reducible rfl)))
        try simp only [Act.put, List.getElem_toArray, List.getElem_cons_succ, List.getElem_cons_zero, List.setIfInBounds_toArray, List.set_cons_zero, List.set_cons_succ]
        refine wpAnyH_take (i := 1) (oi := _) (v := ?_) rfl (by kernel_rfl) (by kernel_rfl) (by kernel_rfl) (fun _ _ _ h => h) (Or.inl ⟨by rfl, ?_⟩) (by assumption) ?_
        (rotate_left); (focus (intro wv hSw; (obtain ⟨qP, qQ, qR, qL, qB⟩ := hSw);  go_simp; (try with_reducible rfl)))
        try simp only [Act.put, List.getElem_toArray, List.getElem_cons_succ, List.getElem_cons_zero, List.setIfInBounds_toArray, List.set_cons_zero, List.set_cons_succ]
        refine wpAnyH_take (i := 2) (oi := _) (v := ?_) rfl (by kernel_rfl) (by kernel_rfl) (by kernel_rfl) (fun _ _ _ h => h) (Or.inl ⟨by rfl, ?_⟩) (by assumption) ?_
        (rotate_left); (focus (intro wv hSw; (obtain ⟨qP, qQ, qR, qL, qB⟩ := hSw);  go_simp; (try with_reducible rfl)))
        try simp only [Act.put, List.getElem_toArray, List.getElem_cons_succ, List.getElem_cons_zero, List.setIfInBounds_toArray, List.set_cons_zero, List.set_cons_succ]
        refine wpAnyH_take (i := 3) (oi := _) (v := ?_) rfl (by kernel_rfl) (by kernel_rfl) (by kernel_rfl) (fun _ _ _ h => h) (Or.inl ⟨by rfl, ?_⟩) (by assumption) ?_
        (rotate_left); (focus (intro wv hSw; (obtain ⟨qP, qQ, qR, qL, qB⟩ := hSw); obtain ⟨m0, m1, m2, m3, m4, m5, m6, m7, mz⟩ := blk8 qL; go_simp; (try with_reducible rfl)))
        try simp only [Act.put, List.getElem_toArray, List.getElem_cons_succ, List.getElem_cons_zero, List.setIfInBounds_toArray, List.set_cons_zero, List.set_cons_succ]
        refine wpAnyH_take (i := 4) (oi := _) (v := ?_) rfl (by kernel_rfl) (by kernel_rfl) (by kernel_rfl) (fun _ _ _ h => h) (Or.inl ⟨by rfl, ?_⟩) (by assumption) ?_
        (rotate_left); (focus (intro wv hSw; (obtain ⟨qP, qQ, qR, qL, qB⟩ := hSw); obtain ⟨m0, m1, m2, m3, m4, _, _, _, _, _, mz⟩ := blk5 qP; go_simp; (try with_reducible rfl)))
        try simp only [Act.put, List.getElem_toArray, List.getElem_cons_succ, List.getElem_cons_zero, List.setIfInBounds_toArray, List.set_cons_zero, List.set_cons_succ]
        refine wpAnyH_take (i := 5) (oi := _) (v := ?_) rfl (by kernel_rfl) (by kernel_rfl) (by kernel_rfl) (fun _ _ _ h => h) (Or.inl ⟨by rfl, ?_⟩) (by assumption) ?_
        (rotate_left); (focus (intro wv hSw; (obtain ⟨qP, qQ, qR, qL, qB⟩ := hSw); obtain ⟨m0, m1, m2, _, _, _, mz⟩ := blk3 qR; go_simp; (try with_reducible rfl)))
        try simp only [Act.put, List.getElem_toArray, List.getElem_cons_succ, List.getElem_cons_zero, List.setIfInBounds_toArray, List.set_cons_zero, List.set_cons_succ]
        refine wpAnyH_ready (rs := [6]) (by kernel_rfl) (by simp) ?_
        refine AllReadyH.cons (o := _) rfl (fun K hK => ?_) AllReadyH.nil
        go_simp
        (go_at_call 13; refine (sSh_is _ HV.out).mono ?_; rintro e x0c ⟨rfl, hw_0c⟩)
        refine hK.out _ _ ⟨blk_next hP_0 hw_0c, blk_next hQ_0 hw_0c, blk_next hR_0 hw_0c, blk_next hL_0 hw_0c, bel_next hB_0 hw_0c⟩ (fun hHeld => ?_)
        clear hK K
        try simp only [Act.put, List.getElem_toArray, List.getElem_cons_succ, List.getElem_cons_zero, List.setIfInBounds_toArray, List.set_cons_zero, List.set_cons_succ]
        obtain ⟨hP_0c, hQ_0c, hR_0c, hL_0c, hB_0c⟩ := id hHeld
        refine wpAnyH_done (by kernel_rfl) ?_ _
        cases v
        · go_wp2_with fail
          go_roundw
          case rel => exact ⟨2, by omega, by go_num, Lib.hid (fun j hj => by rcases Nat.lt_or_ge j 1 with e | e; exact HC.out j e; obtain rfl : j = 1 := (by omega); exact HV.out), hP_0c, hQ_0c, hR_0c, hL_0c, hB_0c⟩
          case measure => simp [intOf]
        · go_wp2_with fail
          go_ret
          exact ⟨ret_bool (by unfold csB; rw [HB.out, HV.out]; simp), hB_0c⟩
      · obtain ⟨q0, q1, q2, q3, q4, _, _, _, _, _, zq⟩ := blk5 hQ
        obtain ⟨v, hv⟩ : ∃ v, shB b2 d2 a b c d h re rn ru = v := ⟨_, rfl⟩
        have HV := Lib.hid hv
        clear hv
        go_wp2_with fail
        refine (sBV_is _ HB.out).mono ?_; rintro E w5 ⟨rfl, hw5⟩
        have hP5 := blk_next hP hw5
        have hQ5 := blk_next hQ hw5
        have hR5 := blk_next hR hw5
        have hL5 := blk_next hL hw5
        have hB5 := bel_next hB hw5
        go_wp2_with fail
        refine wp_region_held_drew (S := (fun w' => w'.heap[w.heap.size]? = some (.cells #[.int .i64 a, .int .i64 b, .int .i64 c, .int .i64 d, .int .i64 h] 26 (0, 0)) ∧ w'.heap[w.heap.size + 1]? = some (.cells #[.int .i64 a2, .int .i64 b2, .int .i64 c2, .int .i64 d2, .int .i64 h2] 26 (0, 0)) ∧ w'.heap[w.heap.size + 1 + 1]? = some (.cells #[.int .i64 re, .int .i64 rn, .int .i64 ru] 28 (0, 0)) ∧ w'.heap[w.heap.size + 1 + 1 + 1]? = some (.cells #[.int .i64 a2, .int .i64 c2, .int .i64 b2, .int .i64 c2, .int .i64 b2, .int .i64 d2, .int .i64 a2, .int .i64 d2] 24 (0, 0)) ∧ Below w.heap.size w w')) (by kernel_rfl) ⟨hP5, hQ5, hR5, hL5, hB5.drew⟩ (fun hHeld => ?_)
        obtain ⟨hP_0, hQ_0, hR_0, hL_0, hB_0⟩ := id hHeld
        refine wpAnyH_take (i := 0) (oi := _) (v := ?_) rfl (by kernel_rfl) (by kernel_rfl) (by kernel_rfl) (fun _ _ _ h => h) (Or.inl ⟨by rfl, ?_⟩) (by assumption) ?_
        (rotate_left); (focus (intro wv hSw; (obtain ⟨qP, qQ, qR, qL, qB⟩ := hSw);  go_simp; (try with_reducible rfl)))
        try simp only [Act.put, List.getElem_toArray, List.getElem_cons_succ, List.getElem_cons_zero, List.setIfInBounds_toArray, List.set_cons_zero, List.set_cons_succ]
        refine wpAnyH_take (i := 1) (oi := _) (v := ?_) rfl (by kernel_rfl) (by kernel_rfl) (by kernel_rfl) (fun _ _ _ h => h) (Or.inl ⟨by rfl, ?_⟩) (by assumption) ?_
        (rotate_left); (focus (intro wv hSw; (obtain ⟨qP, qQ, qR, qL, qB⟩ := hSw);  go_simp; (try with_reducible rfl)))
        try simp only [Act.put, List.getElem_toArray, List.getElem_cons_succ, List.getElem_cons_zero, List.setIfInBounds_toArray, List.set_cons_zero, List.set_cons_succ]
        refine wpAnyH_take (i := 2) (oi := _) (v := ?_) rfl (by kernel_rfl) (by kernel_rfl) (by kernel_rfl) (fun _ _ _ h => h) (Or.inl ⟨by rfl, ?_⟩) (by assumption) ?_
        (rotate_left); (focus (intro wv hSw; (obtain ⟨qP, qQ, qR, qL, qB⟩ := hSw);  go_simp; (try with_reducible rfl)))
        try simp only [Act.put, List.getElem_toArray, List.getElem_cons_succ, List.getElem_cons_zero, List.setIfInBounds_toArray, List.set_cons_zero, List.set_cons_succ]
        refine wpAnyH_take (i := 3) (oi := _) (v := ?_) rfl (by kernel_rfl) (by kernel_rfl) (by kernel_rfl) (fun _ _ _ h => h) (Or.inl ⟨by rfl, ?_⟩) (by assumption) ?_
        (rotate_left); (focus (intro wv hSw; (obtain ⟨qP, qQ, qR, qL, qB⟩ := hSw); obtain ⟨m0, m1, m2, m3, m4, m5, m6, m7, mz⟩ := blk8 qL; go_simp; (try with_reducible rfl)))
        try simp only [Act.put, List.getElem_toArray, List.getElem_cons_succ, List.getElem_cons_zero, List.setIfInBounds_toArray, List.set_cons_zero, List.set_cons_succ]
        refine wpAnyH_take (i := 4) (oi := _) (v := ?_) rfl (by kernel_rfl) (by kernel_rfl) (by kernel_rfl) (fun _ _ _ h => h) (Or.inl ⟨by rfl, ?_⟩) (by assumption) ?_
        (rotate_left); (focus (intro wv hSw; (obtain ⟨qP, qQ, qR, qL, qB⟩ := hSw); obtain ⟨m0, m1, m2, m3, m4, _, _, _, _, _, mz⟩ := blk5 qP; go_simp; (try with_reducible rfl)))
        try simp only [Act.put, List.getElem_toArray, List.getElem_cons_succ, List.getElem_cons_zero, List.setIfInBounds_toArray, List.set_cons_zero, List.set_cons_succ]
        refine wpAnyH_take (i := 5) (oi := _) (v := ?_) rfl (by kernel_rfl) (by kernel_rfl) (by kernel_rfl) (fun _ _ _ h => h) (Or.inl ⟨by rfl, ?_⟩) (by assumption) ?_
        (rotate_left); (focus (intro wv hSw; (obtain ⟨qP, qQ, qR, qL, qB⟩ := hSw); obtain ⟨m0, m1, m2, _, _, _, mz⟩ := blk3 qR; go_simp; (try with_reducible rfl)))
        try simp only [Act.put, List.getElem_toArray, List.getElem_cons_succ, List.getElem_cons_zero, List.setIfInBounds_toArray, List.set_cons_zero, List.set_cons_succ]
        refine wpAnyH_ready (rs := [6]) (by kernel_rfl) (by simp) ?_
        refine AllReadyH.cons (o := _) rfl (fun K hK => ?_) AllReadyH.nil
        go_simp
        (go_at_call 13; refine (sSh_is _ HV.out).mono ?_; rintro e x0c ⟨rfl, hw_0c⟩)
        refine hK.out _ _ ⟨blk_next hP_0 hw_0c, blk_next hQ_0 hw_0c, blk_next hR_0 hw_0c, blk_next hL_0 hw_0c, bel_next hB_0 hw_0c⟩ (fun hHeld => ?_)
        clear hK K
        try simp only [Act.put, List.getElem_toArray, List.getElem_cons_succ, List.getElem_cons_zero, List.setIfInBounds_toArray, List.set_cons_zero, List.set_cons_succ]
        obtain ⟨hP_0c, hQ_0c, hR_0c, hL_0c, hB_0c⟩ := id hHeld
        refine wpAnyH_done (by kernel_rfl) ?_ _
        cases v
        · go_wp2_with fail
          go_roundw
          case rel => exact ⟨3, by omega, by go_num, Lib.hid (fun j hj => by rcases Nat.lt_or_ge j 2 with e | e; exact HC.out j e; obtain rfl : j = 2 := (by omega); exact HV.out), hP_0c, hQ_0c, hR_0c, hL_0c, hB_0c⟩
          case measure => simp [intOf]
        · go_wp2_with fail
          go_ret
          exact ⟨ret_bool (by unfold csB; rw [HB.out, HV.out]; simp), hB_0c⟩
      · obtain ⟨q0, q1, q2, q3, q4, _, _, _, _, _, zq⟩ := blk5 hQ
        obtain ⟨v, hv⟩ : ∃ v, shB a2 d2 a b c d h re rn ru = v := ⟨_, rfl⟩
        have HV := Lib.hid hv
        clear hv
        go_wp2_with fail
        refine (sBV_is _ HB.out).mono ?_; rintro E w5 ⟨rfl, hw5⟩
        have hP5 := blk_next hP hw5
        have hQ5 := blk_next hQ hw5
        have hR5 := blk_next hR hw5
        have hL5 := blk_next hL hw5
        have hB5 := bel_next hB hw5
        go_wp2_with fail
        refine wp_region_held_drew (S := (fun w' => w'.heap[w.heap.size]? = some (.cells #[.int .i64 a, .int .i64 b, .int .i64 c, .int .i64 d, .int .i64 h] 26 (0, 0)) ∧ w'.heap[w.heap.size + 1]? = some (.cells #[.int .i64 a2, .int .i64 b2, .int .i64 c2, .int .i64 d2, .int .i64 h2] 26 (0, 0)) ∧ w'.heap[w.heap.size + 1 + 1]? = some (.cells #[.int .i64 re, .int .i64 rn, .int .i64 ru] 28 (0, 0)) ∧ w'.heap[w.heap.size + 1 + 1 + 1]? = some (.cells #[.int .i64 a2, .int .i64 c2, .int .i64 b2, .int .i64 c2, .int .i64 b2, .int .i64 d2, .int .i64 a2, .int .i64 d2] 24 (0, 0)) ∧ Below w.heap.size w w')) (by kernel_rfl) ⟨hP5, hQ5, hR5, hL5, hB5.drew⟩ (fun hHeld => ?_)
        obtain ⟨hP_0, hQ_0, hR_0, hL_0, hB_0⟩ := id hHeld
        refine wpAnyH_take (i := 0) (oi := _) (v := ?_) rfl (by kernel_rfl) (by kernel_rfl) (by kernel_rfl) (fun _ _ _ h => h) (Or.inl ⟨by rfl, ?_⟩) (by assumption) ?_
        (rotate_left); (focus (intro wv hSw; (obtain ⟨qP, qQ, qR, qL, qB⟩ := hSw);  go_simp; (try with_reducible rfl)))
        try simp only [Act.put, List.getElem_toArray, List.getElem_cons_succ, List.getElem_cons_zero, List.setIfInBounds_toArray, List.set_cons_zero, List.set_cons_succ]
        refine wpAnyH_take (i := 1) (oi := _) (v := ?_) rfl (by kernel_rfl) (by kernel_rfl) (by kernel_rfl) (fun _ _ _ h => h) (Or.inl ⟨by rfl, ?_⟩) (by assumption) ?_
        (rotate_left); (focus (intro wv hSw; (obtain ⟨qP, qQ, qR, qL, qB⟩ := hSw);  go_simp; (try with_reducible rfl)))
        try simp only [Act.put, List.getElem_toArray, List.getElem_cons_succ, List.getElem_cons_zero, List.setIfInBounds_toArray, List.set_cons_zero, List.set_cons_succ]
        refine wpAnyH_take (i := 2) (oi := _) (v := ?_) rfl (by kernel_rfl) (by kernel_rfl) (by kernel_rfl) (fun _ _ _ h => h) (Or.inl ⟨by rfl, ?_⟩) (by assumption) ?_
        (rotate_left); (focus (intro wv hSw; (obtain ⟨qP, qQ, qR, qL, qB⟩ := hSw);  go_simp; (try with_reducible rfl)))
        try simp only [Act.put, List.getElem_toArray, List.getElem_cons_succ, List.getElem_cons_zero, List.setIfInBounds_toArray, List.set_cons_zero, List.set_cons_succ]
        refine wpAnyH_take (i := 3) (oi := _) (v := ?_) rfl (by kernel_rfl) (by kernel_rfl) (by kernel_rfl) (fun _ _ _ h => h) (Or.inl ⟨by rfl, ?_⟩) (by assumption) ?_
        (rotate_left); (focus (intro wv hSw; (obtain ⟨qP, qQ, qR, qL, qB⟩ := hSw); obtain ⟨m0, m1, m2, m3, m4, m5, m6, m7, mz⟩ := blk8 qL; go_simp; (try with_reducible rfl)))
        try simp only [Act.put, List.getElem_toArray, List.getElem_cons_succ, List.getElem_cons_zero, List.setIfInBounds_toArray, List.set_cons_zero, List.set_cons_succ]
        refine wpAnyH_take (i := 4) (oi := _) (v := ?_) rfl (by kernel_rfl) (by kernel_rfl) (by kernel_rfl) (fun _ _ _ h => h) (Or.inl ⟨by rfl, ?_⟩) (by assumption) ?_
        (rotate_left); (focus (intro wv hSw; (obtain ⟨qP, qQ, qR, qL, qB⟩ := hSw); obtain ⟨m0, m1, m2, m3, m4, _, _, _, _, _, mz⟩ := blk5 qP; go_simp; (try with_reducible rfl)))
        try simp only [Act.put, List.getElem_toArray, List.getElem_cons_succ, List.getElem_cons_zero, List.setIfInBounds_toArray, List.set_cons_zero, List.set_cons_succ]
        refine wpAnyH_take (i := 5) (oi := _) (v := ?_) rfl (by kernel_rfl) (by kernel_rfl) (by kernel_rfl) (fun _ _ _ h => h) (Or.inl ⟨by rfl, ?_⟩) (by assumption) ?_
        (rotate_left); (focus (intro wv hSw; (obtain ⟨qP, qQ, qR, qL, qB⟩ := hSw); obtain ⟨m0, m1, m2, _, _, _, mz⟩ := blk3 qR; go_simp; (try with_reducible rfl)))
        try simp only [Act.put, List.getElem_toArray, List.getElem_cons_succ, List.getElem_cons_zero, List.setIfInBounds_toArray, List.set_cons_zero, List.set_cons_succ]
        refine wpAnyH_ready (rs := [6]) (by kernel_rfl) (by simp) ?_
        refine AllReadyH.cons (o := _) rfl (fun K hK => ?_) AllReadyH.nil
        go_simp
        (go_at_call 13; refine (sSh_is _ HV.out).mono ?_; rintro e x0c ⟨rfl, hw_0c⟩)
        refine hK.out _ _ ⟨blk_next hP_0 hw_0c, blk_next hQ_0 hw_0c, blk_next hR_0 hw_0c, blk_next hL_0 hw_0c, bel_next hB_0 hw_0c⟩ (fun hHeld => ?_)
        clear hK K
        try simp only [Act.put, List.getElem_toArray, List.getElem_cons_succ, List.getElem_cons_zero, List.setIfInBounds_toArray, List.set_cons_zero, List.set_cons_succ]
        obtain ⟨hP_0c, hQ_0c, hR_0c, hL_0c, hB_0c⟩ := id hHeld
        refine wpAnyH_done (by kernel_rfl) ?_ _
        cases v
        · go_wp2_with fail
          go_roundw
          case rel => exact ⟨4, by omega, by go_num, Lib.hid (fun j hj => by rcases Nat.lt_or_ge j 3 with e | e; exact HC.out j e; obtain rfl : j = 3 := (by omega); exact HV.out), hP_0c, hQ_0c, hR_0c, hL_0c, hB_0c⟩
          case measure => simp [intOf]
        · go_wp2_with fail
          go_ret
          exact ⟨ret_bool (by unfold csB; rw [HB.out, HV.out]; simp), hB_0c⟩
      · go_wp2_with fail
        go_ret
        exact ⟨ret_bool (by unfold csB; have e0 := HC.out 0 (by omega); have e1 := HC.out 1 (by omega); have e2 := HC.out 2 (by omega); have e3 := HC.out 3 (by omega); simp only [corE, corN] at e0 e1 e2 e3; simp at e0 e1 e2 e3; rw [e0, e1, e2, e3]; simp), hB⟩
theorem iCs_is {a b c d h a2 b2 c2 d2 h2 re rn ru : Int} {r : Bool} (w : World) (h_ : csB a b c d h a2 b2 c2 d2 h2 re rn ru = r) : Calls Try.prog 24 #[.agg #[.int .i64 a, .int .i64 b, .int .i64 c, .int .i64 d, .int .i64 h], .agg #[.int .i64 a2, .int .i64 b2, .int .i64 c2, .int .i64 d2, .int .i64 h2], .agg #[.int .i64 re, .int .i64 rn, .int .i64 ru]] w fun E w' => E = .returned (.bool r) ∧ Below w.heap.size w w' := by subst h_; exact iCs_any a b c d h a2 b2 c2 d2 h2 re rn ru w
theorem sCs_is {a b c d h a2 b2 c2 d2 h2 re rn ru : Int} {r : Bool} (w : World) (h_ : csB a b c d h a2 b2 c2 d2 h2 re rn ru = r) : Calls Try.prog 25 #[.agg #[.int .i64 a, .int .i64 b, .int .i64 c, .int .i64 d, .int .i64 h], .agg #[.int .i64 a2, .int .i64 b2, .int .i64 c2, .int .i64 d2, .int .i64 h2], .agg #[.int .i64 re, .int .i64 rn, .int .i64 ru]] w fun E w' => E = .returned (.bool r) ∧ Below w.heap.size w w' := by subst h_; exact sCs_any a b c d h a2 b2 c2 d2 h2 re rn ru w
end Go.Proofs.Ytlahjgjjebkpjab
