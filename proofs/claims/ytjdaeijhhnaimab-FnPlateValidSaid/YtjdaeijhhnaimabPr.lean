/- The model's PlateRead. -/
import Derived.Test.YtjdaeijhhnaimabPd
namespace Go.Proofs.Ytjdaeijhhnaimab
open Go Go.ChangeShapes Go.WideShapes Go.ChangeAt Go.RowKit
set_option linter.unusedSimpArgs false
set_option linter.unusedVariables false
set_option linter.unnecessarySimpa false

/-- The text of the last mark of the list that the way does not come before; o if there is none. -/
def passL (a b : Int) (o : ByteArray) (xs : List VMark) : ByteArray := xs.foldl (fun o v => if rlB a b v.1 v.2.1 = true then o else v.2.2) o
theorem passL_next {a b : Int} {o : ByteArray} {xs : List VMark} {k : Nat} (hk : k < xs.length) : passL a b o (xs.take (k + 1)) = if rlB a b xs[k].1 xs[k].2.1 = true then passL a b o (xs.take k) else xs[k].2.2 := by
  rw [List.take_succ_eq_append_getElem hk]; unfold passL; rw [List.foldl_append]; rfl
/-- What a plate tells of a shadow. -/
noncomputable def readT (xs : List VMark) (a b : Int) : ByteArray :=
  if plB xs = true ∧ goB a b = true ∧ 0 < xs.length then passL a b (mkAt xs (xs.length - 1)).2.2 xs else ByteArray.empty
set_option maxRecDepth 100000 in
set_option maxHeartbeats 8000000 in
theorem sPR_any (A : Option Addr) (cap : Nat) (xs : List VMark) (a b : Int) {n : Nat} (w : World) (hn : xs.length = n) (h : SRow encMark w A xs) (hq : ∀ v ∈ xs, v.2.2.size ≤ maxLen) (hl : n ≤ 2000000) :
    Calls Try.prog 20 #[.slice A n cap, .agg #[.int .i64 a, .int .i64 b]] w fun e w' => e = .returned (.string (readT xs a b)) ∧ Below w.heap.size w w' := by
  obtain ⟨r, hr⟩ : ∃ r, readT xs a b = r := ⟨_, rfl⟩
  rw [hr]
  have HR0 := Lib.hid hr
  have HN := Lib.hid hn
  have HQ := Lib.hid hq
  have H := Lib.hid h
  clear hn hq h hr
  have hE : ∀ P : Prop, (¬ (plB xs = true ∧ goB a b = true ∧ 0 < xs.length)) → Hid (r = ByteArray.empty) := fun P hc => by
    show r = _; rw [← HR0.out]; unfold readT; rw [if_neg hc]
  cases hp : plB xs
  · have HX := hE True (by rw [hp]; simp)
    have HP := Lib.hid hp
    clear hp hE
    go_enter Try.func20, Try.ntmps20
    go_wp2_with fail
    refine (sPV_any A cap xs _ HN.out (H.out.next (bel1 _ _)) HQ.out hl HP.out).mono ?_; rintro e w1 ⟨rfl, hw1⟩
    go_wp2
    go_ret
    exact ⟨ret_str (by rw [HX.out]; rfl), (ownb hw1).2⟩
  · have HP := Lib.hid hp
    cases hw : wvB a b
    · have HX := hE True (by unfold goB; rw [hw]; simp)
      have HW := Lib.hid hw
      clear hp hE hw
      go_enter Try.func20, Try.ntmps20
      go_wp2_with fail
      refine (sPV_any A cap xs _ HN.out (H.out.next (bel1 _ _)) HQ.out hl HP.out).mono ?_; rintro e w1 ⟨rfl, hw1⟩
      obtain ⟨hP1, hB1⟩ := ownb hw1
      obtain ⟨p0, p1, _, _, _⟩ := blk2 hP1
      go_wp2_with fail
      refine (swv_is _ HW.out).mono ?_; rintro e w2 ⟨rfl, hw2⟩
      go_wp2
      go_ret
      exact ⟨ret_str (by rw [HX.out]; rfl), bel_next hB1 hw2⟩
    · obtain ⟨q, hq0⟩ : ∃ q, halfI a b = q := ⟨_, rfl⟩
      have HH := Lib.hid hq0
      have HW := Lib.hid hw
      by_cases hh : q < 0
      · have HX := hE True (by rw [← hq0] at hh; unfold goB; rw [hw]; have := half_lt0.1 hh; simp [this])
        have hd : decide (q < 0) = true := by simpa using hh
        clear hp hE hw hq0
        go_enter Try.func20, Try.ntmps20
        go_wp2_with fail
        refine (sPV_any A cap xs _ HN.out (H.out.next (bel1 _ _)) HQ.out hl HP.out).mono ?_; rintro e w1 ⟨rfl, hw1⟩
        obtain ⟨hP1, hB1⟩ := ownb hw1
        obtain ⟨p0, p1, _, _, _⟩ := blk2 hP1
        go_wp2_with fail
        refine (swv_is _ HW.out).mono ?_; rintro e w2 ⟨rfl, hw2⟩
        have hP2 := blk_next hP1 hw2
        have hB2 := bel_next hB1 hw2
        obtain ⟨q0, q1, _, _, _⟩ := blk2 hP2
        go_wp2_with fail
        refine (shalf_is _ HH.out).mono ?_; rintro e w3 ⟨rfl, hw3⟩
        go_wp2
        go_ret
        exact ⟨ret_str (by rw [HX.out]; rfl), bel_next hB2 hw3⟩
      · have hgo : goB a b = true := go_of hw (by rw [hq0]; exact hh)
        have hd : decide (q < 0) = false := by simpa using hh
        by_cases h0 : n = 0
        · have HX := hE True (by rw [HN.out]; omega)
          subst h0
          clear hp hE hw hq0 hgo
          go_enter Try.func20, Try.ntmps20
          go_wp2_with fail
          refine (sPV_any A cap xs _ HN.out (H.out.next (bel1 _ _)) HQ.out hl HP.out).mono ?_; rintro e w1 ⟨rfl, hw1⟩
          obtain ⟨hP1, hB1⟩ := ownb hw1
          obtain ⟨p0, p1, _, _, _⟩ := blk2 hP1
          go_wp2_with fail
          refine (swv_is _ HW.out).mono ?_; rintro e w2 ⟨rfl, hw2⟩
          have hP2 := blk_next hP1 hw2
          have hB2 := bel_next hB1 hw2
          obtain ⟨q0, q1, _, _, _⟩ := blk2 hP2
          go_wp2_with fail
          refine (shalf_is _ HH.out).mono ?_; rintro e w3 ⟨rfl, hw3⟩
          go_wp2
          go_ret
          exact ⟨ret_str (by rw [HX.out]; rfl), bel_next hB2 hw3⟩
        · obtain ⟨m, rfl⟩ : ∃ m, n = m + 1 := ⟨n - 1, by omega⟩
          have HF0 : Hid (r = passL a b (mkAt xs m).2.2 xs) := by
            show _ = _
            rw [← HR0.out]; unfold readT
            rw [if_pos ⟨hp, hgo, by rw [HN.out]; omega⟩, HN.out, Nat.add_sub_cancel]
          have z0 : (((m : Int) + 1) == 0) = false := by rw [beq_eq_false_iff_ne]; omega
          have z1 : ((m : Int) + 1).toNat = m + 1 := by omega
          have z2 : IntKind.i64.wrap ((m : Int) + 1 - 1) = (m : Int) := by rw [show (m : Int) + 1 - 1 = (m : Int) by omega]; exact IntWalk.i64_in _ (by omega)
          have z3 : IntKind.i64.wrap (m : Int) = (m : Int) := IntWalk.i64_in _ (by omega)
          have z4 : (m : Int) < (m : Int) + 1 := by omega
          rcases H.out with rfl | ⟨bb, off, rfl, hcs⟩
          · have := HN.out; simp at this
          have HA : Hid (∀ wv, Below w.heap.size w wv → ∀ i (hi : i < xs.length), wv.cell? ⟨bb, off + i * 3, none⟩ = some (.int .i64 xs[i].1) ∧ wv.cell? ⟨bb, off + i * 3 + 1, none⟩ = some (.int .i64 xs[i].2.1) ∧ wv.cell? ⟨bb, off + i * 3 + 2, none⟩ = some (.string xs[i].2.2)) := by
            intro wv hb i hi
            obtain ⟨_, _, e, _, hc⟩ := rowMark (H.out.next hb) hi
            simp only [Option.some.injEq, Addr.mk.injEq, and_true] at e
            obtain ⟨rfl, rfl⟩ := e
            exact hc
          have hm : m < xs.length := by rw [HN.out]; omega
          clear hcs hp hE hw hq0 hgo h0
          go_enter Try.func20, Try.ntmps20
          go_wp2_with fail
          refine (sPV_any _ cap xs _ HN.out (H.out.next (bel1 _ _)) HQ.out hl HP.out).mono ?_; rintro e w1 ⟨rfl, hw1⟩
          obtain ⟨hP1, hB1⟩ := ownb hw1
          obtain ⟨p0, p1, _, _, _⟩ := blk2 hP1
          go_wp2_with fail
          refine (swv_is _ HW.out).mono ?_; rintro e w2 ⟨rfl, hw2⟩
          have hP2 := blk_next hP1 hw2
          have hB2 := bel_next hB1 hw2
          obtain ⟨q0, q1, _, _, _⟩ := blk2 hP2
          go_wp2_with fail
          refine (shalf_is _ HH.out).mono ?_; rintro e w3 ⟨rfl, hw3⟩
          have hP3 := blk_next hP2 hw3
          have hB3 := bel_next hB2 hw3
          obtain ⟨m0, m1, m2⟩ := HA.out _ hB3 m hm
          clear p0 p1 q0 q1 hP1 hB1 hP2 hB2 hw1 hw2 hw3
          go_wp2_with fail
          go_loopw [5, 6] (fun v vk wr => ∃ k : Nat, k ≤ m + 1 ∧ vk = .int .i64 k ∧ v = .string (passL a b (mkAt xs m).2.2 (xs.take k)) ∧ wr.heap[w.heap.size]? = some (.cells #[.int .i64 a, .int .i64 b] 28) ∧ Below w.heap.size w wr) (fun _ vk _ => (m + 1 - intOf vk).toNat)
          case atStart => exact ⟨0, by omega, rfl, by rw [List.take_zero, mkAt_get hm]; rfl, hP3, hB3⟩
          case round =>
            clear hP3 hB3 m0 m1 m2
            obtain ⟨k, k1, rfl, rfl, hP, hB⟩ := hrel
            by_cases hlt : k < m + 1
            · have hk : k < xs.length := by rw [HN.out]; exact hlt
              have hk2 : (k : Int) < (m : Int) + 1 := by omega
              have HF := Lib.hid (passL_next (a := a) (b := b) (o := (mkAt xs m).2.2) hk)
              cases hrl : rlB a b xs[k].1 xs[k].2.1
              · have HR := Lib.hid hrl
                have HF : Hid (passL a b (mkAt xs m).2.2 (xs.take (k + 1)) = xs[k].2.2) := by show _ = _; rw [HF.out, hrl]; rfl
                clear hrl
                go_wp2_with fail
                refine wp_region_held_drew (S := (fun w' => w'.heap[w.heap.size]? = some (.cells #[.int .i64 a, .int .i64 b] 28) ∧ Below w.heap.size w w')) (by kernel_rfl) ⟨hP, hB.drew⟩ (fun hHeld => ?_)
                obtain ⟨hP_0, hB_0⟩ := id hHeld
                refine wpAnyH_take (i := 0) (oi := _) (v := ?_) rfl (by kernel_rfl) (by kernel_rfl) (by kernel_rfl) (fun _ _ _ h => h) (Or.inl ⟨by rfl, ?_⟩) (by assumption) ?_
                (rotate_left); (focus (intro wv hSw; (obtain ⟨qP, qB⟩ := hSw); obtain ⟨p0, p1, _, _, _⟩ := blk2 qP; go_simp; (try with_reducible rfl)))
                try simp only [Act.put, List.getElem_toArray, List.getElem_cons_succ, List.getElem_cons_zero, List.setIfInBounds_toArray, List.set_cons_zero, List.set_cons_succ]
                refine wpAnyH_take (i := 1) (oi := _) (v := ?_) rfl (by kernel_rfl) (by kernel_rfl) (by kernel_rfl) (fun _ _ _ h => h) (Or.inl ⟨by rfl, ?_⟩) (by assumption) ?_
                (rotate_left); (focus (intro wv hSw; (obtain ⟨qP, qB⟩ := hSw);  go_simp; (try with_reducible rfl)))
                try simp only [Act.put, List.getElem_toArray, List.getElem_cons_succ, List.getElem_cons_zero, List.setIfInBounds_toArray, List.set_cons_zero, List.set_cons_succ]
                refine wpAnyH_take (i := 2) (oi := _) (v := ?_) rfl (by kernel_rfl) (by kernel_rfl) (by kernel_rfl) (fun _ _ _ h => h) (Or.inl ⟨by rfl, ?_⟩) (by assumption) ?_
                (rotate_left); (focus (intro wv hSw; (obtain ⟨qP, qB⟩ := hSw);  go_simp; (try with_reducible rfl)))
                try simp only [Act.put, List.getElem_toArray, List.getElem_cons_succ, List.getElem_cons_zero, List.setIfInBounds_toArray, List.set_cons_zero, List.set_cons_succ]
                refine wpAnyH_take (i := 3) (oi := _) (v := ?_) rfl (by kernel_rfl) (by kernel_rfl) (by kernel_rfl) (fun _ _ _ h => h) (Or.inl ⟨by rfl, ?_⟩) (by assumption) ?_
                (rotate_left); (focus (intro wv hSw; (obtain ⟨qP, qB⟩ := hSw);  go_simp; (try with_reducible rfl)))
                try simp only [Act.put, List.getElem_toArray, List.getElem_cons_succ, List.getElem_cons_zero, List.setIfInBounds_toArray, List.set_cons_zero, List.set_cons_succ]
                refine wpAnyH_take (i := 4) (oi := _) (v := ?_) rfl (by kernel_rfl) (by kernel_rfl) (by kernel_rfl) (fun _ _ _ h => h) (Or.inl ⟨by rfl, ?_⟩) (by assumption) ?_
                (rotate_left); (focus (intro wv hSw; (obtain ⟨qP, qB⟩ := hSw);  go_simp; (try with_reducible rfl)))
                try simp only [Act.put, List.getElem_toArray, List.getElem_cons_succ, List.getElem_cons_zero, List.setIfInBounds_toArray, List.set_cons_zero, List.set_cons_succ]
                refine wpAnyH_take (i := 5) (oi := _) (v := ?_) rfl (by kernel_rfl) (by kernel_rfl) (by kernel_rfl) (fun _ _ _ h => h) (Or.inl ⟨by rfl, ?_⟩) (by assumption) ?_
                (rotate_left); (focus (intro wv hSw; (obtain ⟨qP, qB⟩ := hSw); obtain ⟨k0, k1, k2⟩ := HA.out wv qB k hk; go_simp; (try with_reducible rfl)))
                try simp only [Act.put, List.getElem_toArray, List.getElem_cons_succ, List.getElem_cons_zero, List.setIfInBounds_toArray, List.set_cons_zero, List.set_cons_succ]
                refine wpAnyH_ready (rs := [6]) (by kernel_rfl) (by simp) ?_
                refine AllReadyH.cons (o := _) rfl (fun K hK => ?_) AllReadyH.nil
                go_simp
                (go_at_call 31; refine (srl_is _ HR.out).mono ?_; rintro e x0c ⟨rfl, hw_0c⟩)
                refine hK.out _ _ ⟨blk_next hP_0 hw_0c, bel_next hB_0 hw_0c⟩ (fun hHeld => ?_)
                clear hK K
                try simp only [Act.put, List.getElem_toArray, List.getElem_cons_succ, List.getElem_cons_zero, List.setIfInBounds_toArray, List.set_cons_zero, List.set_cons_succ]
                obtain ⟨hP_0c, hB_0c⟩ := id hHeld
                refine wpAnyH_take (i := 7) (oi := _) (v := ?_) rfl (by kernel_rfl) (by kernel_rfl) (by kernel_rfl) (fun _ _ _ h => h) (Or.inl ⟨by rfl, ?_⟩) (by assumption) ?_
                (rotate_left); (focus (intro wv hSw; (obtain ⟨qP, qB⟩ := hSw);  go_simp; (try with_reducible rfl)))
                try simp only [Act.put, List.getElem_toArray, List.getElem_cons_succ, List.getElem_cons_zero, List.setIfInBounds_toArray, List.set_cons_zero, List.set_cons_succ]
                refine wpAnyH_done (by kernel_rfl) ?_ _
                obtain ⟨m0, m1, m2⟩ := HA.out _ hB_0c k hk
                go_wp2_with fail
                go_roundw
                case rel => exact ⟨k + 1, by omega, by go_num, by rw [HF.out], hP_0c, hB_0c⟩
                case measure => simp [intOf]; omega
              · have HR := Lib.hid hrl
                have HF : Hid (passL a b (mkAt xs m).2.2 (xs.take (k + 1)) = passL a b (mkAt xs m).2.2 (xs.take k)) := by show _ = _; rw [HF.out, hrl]; rfl
                clear hrl
                go_wp2_with fail
                refine wp_region_held_drew (S := (fun w' => w'.heap[w.heap.size]? = some (.cells #[.int .i64 a, .int .i64 b] 28) ∧ Below w.heap.size w w')) (by kernel_rfl) ⟨hP, hB.drew⟩ (fun hHeld => ?_)
                obtain ⟨hP_0, hB_0⟩ := id hHeld
                refine wpAnyH_take (i := 0) (oi := _) (v := ?_) rfl (by kernel_rfl) (by kernel_rfl) (by kernel_rfl) (fun _ _ _ h => h) (Or.inl ⟨by rfl, ?_⟩) (by assumption) ?_
                (rotate_left); (focus (intro wv hSw; (obtain ⟨qP, qB⟩ := hSw); obtain ⟨p0, p1, _, _, _⟩ := blk2 qP; go_simp; (try with_reducible rfl)))
                try simp only [Act.put, List.getElem_toArray, List.getElem_cons_succ, List.getElem_cons_zero, List.setIfInBounds_toArray, List.set_cons_zero, List.set_cons_succ]
                refine wpAnyH_take (i := 1) (oi := _) (v := ?_) rfl (by kernel_rfl) (by kernel_rfl) (by kernel_rfl) (fun _ _ _ h => h) (Or.inl ⟨by rfl, ?_⟩) (by assumption) ?_
                (rotate_left); (focus (intro wv hSw; (obtain ⟨qP, qB⟩ := hSw);  go_simp; (try with_reducible rfl)))
                try simp only [Act.put, List.getElem_toArray, List.getElem_cons_succ, List.getElem_cons_zero, List.setIfInBounds_toArray, List.set_cons_zero, List.set_cons_succ]
                refine wpAnyH_take (i := 2) (oi := _) (v := ?_) rfl (by kernel_rfl) (by kernel_rfl) (by kernel_rfl) (fun _ _ _ h => h) (Or.inl ⟨by rfl, ?_⟩) (by assumption) ?_
                (rotate_left); (focus (intro wv hSw; (obtain ⟨qP, qB⟩ := hSw);  go_simp; (try with_reducible rfl)))
                try simp only [Act.put, List.getElem_toArray, List.getElem_cons_succ, List.getElem_cons_zero, List.setIfInBounds_toArray, List.set_cons_zero, List.set_cons_succ]
                refine wpAnyH_take (i := 3) (oi := _) (v := ?_) rfl (by kernel_rfl) (by kernel_rfl) (by kernel_rfl) (fun _ _ _ h => h) (Or.inl ⟨by rfl, ?_⟩) (by assumption) ?_
                (rotate_left); (focus (intro wv hSw; (obtain ⟨qP, qB⟩ := hSw);  go_simp; (try with_reducible rfl)))
                try simp only [Act.put, List.getElem_toArray, List.getElem_cons_succ, List.getElem_cons_zero, List.setIfInBounds_toArray, List.set_cons_zero, List.set_cons_succ]
                refine wpAnyH_take (i := 4) (oi := _) (v := ?_) rfl (by kernel_rfl) (by kernel_rfl) (by kernel_rfl) (fun _ _ _ h => h) (Or.inl ⟨by rfl, ?_⟩) (by assumption) ?_
                (rotate_left); (focus (intro wv hSw; (obtain ⟨qP, qB⟩ := hSw);  go_simp; (try with_reducible rfl)))
                try simp only [Act.put, List.getElem_toArray, List.getElem_cons_succ, List.getElem_cons_zero, List.setIfInBounds_toArray, List.set_cons_zero, List.set_cons_succ]
                refine wpAnyH_take (i := 5) (oi := _) (v := ?_) rfl (by kernel_rfl) (by kernel_rfl) (by kernel_rfl) (fun _ _ _ h => h) (Or.inl ⟨by rfl, ?_⟩) (by assumption) ?_
                (rotate_left); (focus (intro wv hSw; (obtain ⟨qP, qB⟩ := hSw); obtain ⟨k0, k1, k2⟩ := HA.out wv qB k hk; go_simp; (try with_reducible rfl)))
                try simp only [Act.put, List.getElem_toArray, List.getElem_cons_succ, List.getElem_cons_zero, List.setIfInBounds_toArray, List.set_cons_zero, List.set_cons_succ]
                refine wpAnyH_ready (rs := [6]) (by kernel_rfl) (by simp) ?_
                refine AllReadyH.cons (o := _) rfl (fun K hK => ?_) AllReadyH.nil
                go_simp
                (go_at_call 31; refine (srl_is _ HR.out).mono ?_; rintro e x0c ⟨rfl, hw_0c⟩)
                refine hK.out _ _ ⟨blk_next hP_0 hw_0c, bel_next hB_0 hw_0c⟩ (fun hHeld => ?_)
                clear hK K
                try simp only [Act.put, List.getElem_toArray, List.getElem_cons_succ, List.getElem_cons_zero, List.setIfInBounds_toArray, List.set_cons_zero, List.set_cons_succ]
                obtain ⟨hP_0c, hB_0c⟩ := id hHeld
                refine wpAnyH_take (i := 7) (oi := _) (v := ?_) rfl (by kernel_rfl) (by kernel_rfl) (by kernel_rfl) (fun _ _ _ h => h) (Or.inl ⟨by rfl, ?_⟩) (by assumption) ?_
                (rotate_left); (focus (intro wv hSw; (obtain ⟨qP, qB⟩ := hSw);  go_simp; (try with_reducible rfl)))
                try simp only [Act.put, List.getElem_toArray, List.getElem_cons_succ, List.getElem_cons_zero, List.setIfInBounds_toArray, List.set_cons_zero, List.set_cons_succ]
                refine wpAnyH_done (by kernel_rfl) ?_ _
                obtain ⟨m0, m1, m2⟩ := HA.out _ hB_0c k hk
                go_wp2_with fail
                go_roundw
                case rel => exact ⟨k + 1, by omega, by go_num, by rw [HF.out], hP_0c, hB_0c⟩
                case measure => simp [intOf]; omega
            · obtain rfl : k = m + 1 := by omega
              have HX : Hid (r = passL a b (mkAt xs m).2.2 (xs.take (m + 1))) := by show _ = _; rw [HF0.out, List.take_of_length_le (by rw [HN.out]; omega)]
              go_wp2_with fail
              go_ret
              exact ⟨ret_str HX.out.symm, hB⟩
end Go.Proofs.Ytjdaeijhhnaimab
