/- FnRoundOrder: whatever the input, the law returns true, and its arguments read as they did. No conditions beyond those of the statement's row. -/
import Derived.Test.YtibpaojhjgpdaaaRof
import Derived.Test.YtibpaojhjgpdaaaLp
namespace Go.Proofs.Ytibpaojhjgpdaaa.fnRoundOrder
open Go.Proofs.Ytibpaojhjgpdaaa
open Go.ChangeShapes Go.WideShapes Go.ChangeAt Go.RowKit Go.Joins
set_option linter.unusedVariables false
set_option linter.unusedSimpArgs false
set_option linter.unnecessarySimpa false

theorem own : ownKnob Try.prog.godebug = none := by kernel_rfl
theorem laidOut : laidOutB Try.prog = true := by kernel_rfl

set_option maxRecDepth 100000 in
set_option maxHeartbeats 4000000 in
theorem walk (w : World) (a0 : Option Addr) (len0 cap0 : Nat) (w0 : CodeOk w a0 len0 cap0) :
    Calls Try.prog 3 #[.slice a0 len0 cap0] w fun e w' => e = .returned (.bool true) ∧ Below w.heap.size w w' := by
  by_cases hl : 1048576 < len0
  · have w0' := w0.2.1
    unfold maxLen at w0'
    clear w0
    go_enter Try.func3, Try.ntmps3
    go_wp2
    go_ret
    exact ⟨rfl, Below.refl _ _⟩
  · have w0' := w0.2.1
    unfold maxLen at w0'
    have hle := w0.1
    have HW := Lib.hid w0
    clear w0
    go_enter Try.func3, Try.ntmps3
    go_wp2_with fail
    refine (drRoundOrder_any _ _ _ _ HW.out).mono ?_; rintro e w1 ⟨g, c, xs, rfl, hl9, hW1, hB1⟩
    obtain ⟨n, hn⟩ : ∃ n, xs.length = n := ⟨_, rfl⟩
    have HN := Lib.hid hn
    rw [hn] at hl9 ⊢
    clear hn
    go_wp2_with fail
    refine (iRO_len xs HN.out hW1.row (by omega)).mono ?_; rintro e w2 ⟨l, Ai, ci, rfl, hO, hI2, hw2⟩
    have hW2 := hW1.next hw2
    have hB2 := bel_next hB1 hw2
    have hI2 := hI2.mono hB1.size
    have h8 := hO.len
    have HO := Lib.hid hO
    obtain ⟨m, hm⟩ : ∃ m, l.length = m := ⟨_, rfl⟩
    have HM := Lib.hid hm
    rw [hm] at h8 ⊢
    clear hO hW1 hm
    go_wp2_with fail
    refine (sRO_len xs HN.out hW2.row (by omega)).mono ?_; rintro e w3 ⟨l', As, cs, rfl, hO', hS3, hw3⟩
    obtain rfl := HO.out.unique hO'
    rw [HM.out]
    clear hO'
    have hW3 := hW2.next hw3
    have hI3 := hI2.next hw3
    have hB3 := bel_next hB2 hw3
    clear hW2 hI2
    go_wp2_with fail
    refine (sameInts_len Ai As ci cs (nat l) (by rw [nat_len, HM.out]) hI3.row hS3.row (by omega)).mono ?_; rintro e w4 ⟨rfl, hw4⟩
    have hW4 := hW3.next hw4
    have hI4 := hI3.next hw4
    have hB4 := bel_next hB3 hw4
    clear hW3 hI3 hS3
    cases hv : wsB xs
    · have hl0 : l = [] := by
        rcases HO.out with ⟨h, _⟩ | ⟨_, h⟩
        · rw [hv] at h; cases h
        · exact h
      have HV := Lib.hid hv
      obtain rfl : m = 0 := by rw [← HM.out, hl0]; rfl
      clear hv hl0
      go_wp2_with fail
      refine (ws_is_s xs HN.out hW4.row (by omega) HV.out).mono ?_; rintro e w5 ⟨rfl, hw5⟩
      have hB5 := bel_next hB4 hw5
      go_wp2_with fail
      refine (alive_any _).mono ?_; rintro e w6 ⟨rfl, rfl⟩
      go_wp2
      go_ret
      exact ⟨rfl, hB5⟩
    · obtain ⟨hio, hln⟩ : IsOrder xs l ∧ l.length = n := by
        rcases HO.out with ⟨_, h1, h2⟩ | ⟨h, _⟩
        · exact ⟨h1, h2.trans HN.out⟩
        · rw [hv] at h; cases h
      have HV := Lib.hid hv
      have HL := Lib.hid (And.intro hio hln)
      obtain rfl : n = m := by rw [← HM.out, hln]
      clear hv hio hln
      go_wp2_with fail
      refine (ws_is_s xs HN.out hW4.row (by omega) HV.out).mono ?_; rintro e w5 ⟨rfl, hw5⟩
      have hW5 := hW4.next hw5
      have hI5 := hI4.next hw5
      have hB5 := bel_next hB4 hw5
      clear hW4 hI4
      go_wp2_with fail
      go_loopw [5] (fun va wr => ∃ a : Nat, a ≤ n ∧ va = .int .i64 a ∧ OwnI wr w.heap.size Ai ci (nat l) ∧ Own wr w.heap.size g c xs ∧ Below w.heap.size w wr) (fun va _ => (n - intOf va).toNat)
      case atStart => exact ⟨0, by omega, rfl, hI5, hW5, hB5⟩
      case round =>
        clear hI5 hW5 hB5
        obtain ⟨a, a1, rfl, hI, hW, hB⟩ := hrel
        by_cases hlt : a < n
        · have ha : a < l.length := by rw [HL.out.2]; exact hlt
          have hi1 : (a : Int) < (n : Int) := by omega
          obtain ⟨gi, rfl, hgi, hgi2, _, _⟩ := hI.at_ (i := a) (by rw [nat_len]; exact ha)
          go_wp2_with fail
          go_loopw [6] (fun vb wr => ∃ b : Nat, b ≤ a ∧ vb = .int .i64 b ∧ OwnI wr w.heap.size (some ⟨gi, 0, none⟩) ci (nat l) ∧ Own wr w.heap.size g c xs ∧ Below w.heap.size w wr) (fun vb _ => (a - intOf vb).toNat)
          case atStart => exact ⟨0, by omega, rfl, hI, hW, hB⟩
          case round =>
            clear hI hW hB hgi hgi2
            obtain ⟨b, b1, rfl, hI, hW, hB⟩ := hrel
            by_cases hltb : b < a
            · have hbl : b < l.length := by omega
              have hi2 : (b : Int) < (a : Int) := by omega
              obtain ⟨p, hp0⟩ : ∃ p, l[a] = p := ⟨_, rfl⟩
              obtain ⟨q, hq0⟩ : ∃ q, l[b] = q := ⟨_, rfl⟩
              have hp : p < xs.length := by rw [← hp0]; exact (HL.out.1.2 _).1 (List.getElem_mem ha)
              have hq : q < xs.length := by rw [← hq0]; exact (HL.out.1.2 _).1 (List.getElem_mem hbl)
              have hpn : (p : Int) < (n : Int) := by have := HN.out; omega
              have hqn : (q : Int) < (n : Int) := by have := HN.out; omega
              have hbn : (b : Int) < (n : Int) := by omega
              obtain ⟨hr, hsw⟩ := ord_pair2 HL.out.1 hltb ha hbl hp0 hq0 hp hq
              have HR := Lib.hid hr
              have HX : Hid (∀ wv, OwnI wv w.heap.size (some ⟨gi, 0, none⟩) ci (nat l) → wv.cell? ⟨gi, a, none⟩ = some (.int .i64 p) ∧ wv.cell? ⟨gi, b, none⟩ = some (.int .i64 q)) := by
                intro wv h
                have e1 := h.cell a (by rw [nat_len]; exact ha)
                have e2 := h.cell b (by rw [nat_len]; exact hbl)
                rw [nat_at, hp0] at e1
                rw [nat_at, hq0] at e2
                exact ⟨e1, e2⟩
              clear hp0 hq0 hr
              cases hs : swB xs[p].1 xs[p].2 xs[q].1 xs[q].2
              · have HS := Lib.hid hs
                clear hs hsw
                go_wp2_with fail
                refine wp_region_held_drew (S := (fun w' => OwnI w' w.heap.size (some ⟨gi, 0, none⟩) ci (nat l) ∧ Own w' w.heap.size g c xs ∧ Below w.heap.size w w')) (by kernel_rfl) ⟨hI.drew, World.ownsRow.drew hW, hB.drew⟩ (fun hHeld => ?_)
                obtain ⟨hI_0, hW_0, hB_0⟩ := id hHeld
                refine wpAnyH_take (i := 0) (oi := _) (v := ?_) rfl (by kernel_rfl) (by kernel_rfl) (by kernel_rfl) (fun _ _ _ h => h) (Or.inl ⟨by rfl, ?_⟩) (by assumption) ?_
                (rotate_left); (focus (intro wv hSw; (obtain ⟨qI, qW, qB⟩ := hSw);  go_simp; (try with_reducible rfl)))
                try simp only [Act.put, List.getElem_toArray, List.getElem_cons_succ, List.getElem_cons_zero, List.setIfInBounds_toArray, List.set_cons_zero, List.set_cons_succ]
                refine wpAnyH_take (i := 1) (oi := _) (v := ?_) rfl (by kernel_rfl) (by kernel_rfl) (by kernel_rfl) (fun _ _ _ h => h) (Or.inl ⟨by rfl, ?_⟩) (by assumption) ?_
                (rotate_left); (focus (intro wv hSw; (obtain ⟨qI, qW, qB⟩ := hSw);  go_simp; (try with_reducible rfl)))
                try simp only [Act.put, List.getElem_toArray, List.getElem_cons_succ, List.getElem_cons_zero, List.setIfInBounds_toArray, List.set_cons_zero, List.set_cons_succ]
                refine wpAnyH_take (i := 2) (oi := _) (v := ?_) rfl (by kernel_rfl) (by kernel_rfl) (by kernel_rfl) (fun _ _ _ h => h) (Or.inl ⟨by rfl, ?_⟩) (by assumption) ?_
                (rotate_left); (focus (intro wv hSw; (obtain ⟨qI, qW, qB⟩ := hSw);  go_simp; (try with_reducible rfl)))
                try simp only [Act.put, List.getElem_toArray, List.getElem_cons_succ, List.getElem_cons_zero, List.setIfInBounds_toArray, List.set_cons_zero, List.set_cons_succ]
                refine wpAnyH_take (i := 3) (oi := _) (v := ?_) rfl (by kernel_rfl) (by kernel_rfl) (by kernel_rfl) (fun _ _ _ h => h) (Or.inl ⟨by rfl, ?_⟩) (by assumption) ?_
                (rotate_left); (focus (intro wv hSw; (obtain ⟨qI, qW, qB⟩ := hSw);  go_simp; (try with_reducible rfl)))
                try simp only [Act.put, List.getElem_toArray, List.getElem_cons_succ, List.getElem_cons_zero, List.setIfInBounds_toArray, List.set_cons_zero, List.set_cons_succ]
                refine wpAnyH_take (i := 4) (oi := _) (v := ?_) rfl (by kernel_rfl) (by kernel_rfl) (by kernel_rfl) (fun _ _ _ h => h) (Or.inl ⟨by rfl, ?_⟩) (by assumption) ?_
                (rotate_left); (focus (intro wv hSw; (obtain ⟨qI, qW, qB⟩ := hSw); obtain ⟨k0, k1⟩ := HX.out wv qI; go_simp; (try with_reducible rfl)))
                try simp only [Act.put, List.getElem_toArray, List.getElem_cons_succ, List.getElem_cons_zero, List.setIfInBounds_toArray, List.set_cons_zero, List.set_cons_succ]
                refine wpAnyH_take (i := 5) (oi := _) (v := ?_) rfl (by kernel_rfl) (by kernel_rfl) (by kernel_rfl) (fun _ _ _ h => h) (Or.inl ⟨by rfl, ?_⟩) (by assumption) ?_
                (rotate_left); (focus (intro wv hSw; (obtain ⟨qI, qW, qB⟩ := hSw);  go_simp; (try with_reducible rfl)))
                try simp only [Act.put, List.getElem_toArray, List.getElem_cons_succ, List.getElem_cons_zero, List.setIfInBounds_toArray, List.set_cons_zero, List.set_cons_succ]
                refine wpAnyH_take (i := 6) (oi := _) (v := ?_) rfl (by kernel_rfl) (by kernel_rfl) (by kernel_rfl) (fun _ _ _ h => h) (Or.inl ⟨by rfl, ?_⟩) (by assumption) ?_
                (rotate_left); (focus (intro wv hSw; (obtain ⟨qI, qW, qB⟩ := hSw); obtain ⟨m0, m1⟩ := qW.cell p hp; go_simp; (try with_reducible rfl)))
                try simp only [Act.put, List.getElem_toArray, List.getElem_cons_succ, List.getElem_cons_zero, List.setIfInBounds_toArray, List.set_cons_zero, List.set_cons_succ]
                refine wpAnyH_take (i := 7) (oi := _) (v := ?_) rfl (by kernel_rfl) (by kernel_rfl) (by kernel_rfl) (fun _ _ _ h => h) (Or.inl ⟨by rfl, ?_⟩) (by assumption) ?_
                (rotate_left); (focus (intro wv hSw; (obtain ⟨qI, qW, qB⟩ := hSw);  go_simp; (try with_reducible rfl)))
                try simp only [Act.put, List.getElem_toArray, List.getElem_cons_succ, List.getElem_cons_zero, List.setIfInBounds_toArray, List.set_cons_zero, List.set_cons_succ]
                refine wpAnyH_take (i := 8) (oi := _) (v := ?_) rfl (by kernel_rfl) (by kernel_rfl) (by kernel_rfl) (fun _ _ _ h => h) (Or.inl ⟨by rfl, ?_⟩) (by assumption) ?_
                (rotate_left); (focus (intro wv hSw; (obtain ⟨qI, qW, qB⟩ := hSw);  go_simp; (try with_reducible rfl)))
                try simp only [Act.put, List.getElem_toArray, List.getElem_cons_succ, List.getElem_cons_zero, List.setIfInBounds_toArray, List.set_cons_zero, List.set_cons_succ]
                refine wpAnyH_take (i := 9) (oi := _) (v := ?_) rfl (by kernel_rfl) (by kernel_rfl) (by kernel_rfl) (fun _ _ _ h => h) (Or.inl ⟨by rfl, ?_⟩) (by assumption) ?_
                (rotate_left); (focus (intro wv hSw; (obtain ⟨qI, qW, qB⟩ := hSw);  go_simp; (try with_reducible rfl)))
                try simp only [Act.put, List.getElem_toArray, List.getElem_cons_succ, List.getElem_cons_zero, List.setIfInBounds_toArray, List.set_cons_zero, List.set_cons_succ]
                refine wpAnyH_take (i := 10) (oi := _) (v := ?_) rfl (by kernel_rfl) (by kernel_rfl) (by kernel_rfl) (fun _ _ _ h => h) (Or.inl ⟨by rfl, ?_⟩) (by assumption) ?_
                (rotate_left); (focus (intro wv hSw; (obtain ⟨qI, qW, qB⟩ := hSw);  go_simp; (try with_reducible rfl)))
                try simp only [Act.put, List.getElem_toArray, List.getElem_cons_succ, List.getElem_cons_zero, List.setIfInBounds_toArray, List.set_cons_zero, List.set_cons_succ]
                refine wpAnyH_take (i := 11) (oi := _) (v := ?_) rfl (by kernel_rfl) (by kernel_rfl) (by kernel_rfl) (fun _ _ _ h => h) (Or.inl ⟨by rfl, ?_⟩) (by assumption) ?_
                (rotate_left); (focus (intro wv hSw; (obtain ⟨qI, qW, qB⟩ := hSw); obtain ⟨k0, k1⟩ := HX.out wv qI; go_simp; (try with_reducible rfl)))
                try simp only [Act.put, List.getElem_toArray, List.getElem_cons_succ, List.getElem_cons_zero, List.setIfInBounds_toArray, List.set_cons_zero, List.set_cons_succ]
                refine wpAnyH_take (i := 12) (oi := _) (v := ?_) rfl (by kernel_rfl) (by kernel_rfl) (by kernel_rfl) (fun _ _ _ h => h) (Or.inl ⟨by rfl, ?_⟩) (by assumption) ?_
                (rotate_left); (focus (intro wv hSw; (obtain ⟨qI, qW, qB⟩ := hSw);  go_simp; (try with_reducible rfl)))
                try simp only [Act.put, List.getElem_toArray, List.getElem_cons_succ, List.getElem_cons_zero, List.setIfInBounds_toArray, List.set_cons_zero, List.set_cons_succ]
                refine wpAnyH_take (i := 13) (oi := _) (v := ?_) rfl (by kernel_rfl) (by kernel_rfl) (by kernel_rfl) (fun _ _ _ h => h) (Or.inl ⟨by rfl, ?_⟩) (by assumption) ?_
                (rotate_left); (focus (intro wv hSw; (obtain ⟨qI, qW, qB⟩ := hSw); obtain ⟨m0, m1⟩ := qW.cell q hq; go_simp; (try with_reducible rfl)))
                try simp only [Act.put, List.getElem_toArray, List.getElem_cons_succ, List.getElem_cons_zero, List.setIfInBounds_toArray, List.set_cons_zero, List.set_cons_succ]
                refine wpAnyH_ready (rs := [14]) (by kernel_rfl) (by simp) ?_
                refine AllReadyH.cons (o := _) rfl (fun K hK => ?_) AllReadyH.nil
                go_simp
                (go_at_call 16; refine (irl_is _ HR.out).mono ?_; rintro e x0c ⟨rfl, hw_0c⟩)
                refine hK.out _ _ ⟨hI_0.next hw_0c, hW_0.next hw_0c, bel_next hB_0 hw_0c⟩ (fun hHeld => ?_)
                clear hK K
                try simp only [Act.put, List.getElem_toArray, List.getElem_cons_succ, List.getElem_cons_zero, List.setIfInBounds_toArray, List.set_cons_zero, List.set_cons_succ]
                obtain ⟨hI_0c, hW_0c, hB_0c⟩ := id hHeld
                refine wpAnyH_take (i := 15) (oi := _) (v := ?_) rfl (by kernel_rfl) (by kernel_rfl) (by kernel_rfl) (fun _ _ _ h => h) (Or.inl ⟨by rfl, ?_⟩) (by assumption) ?_
                (rotate_left); (focus (intro wv hSw; (obtain ⟨qI, qW, qB⟩ := hSw);  go_simp; (try with_reducible rfl)))
                try simp only [Act.put, List.getElem_toArray, List.getElem_cons_succ, List.getElem_cons_zero, List.setIfInBounds_toArray, List.set_cons_zero, List.set_cons_succ]
                refine wpAnyH_take (i := 16) (oi := _) (v := ?_) rfl (by kernel_rfl) (by kernel_rfl) (by kernel_rfl) (fun _ _ _ h => h) (Or.inl ⟨by rfl, ?_⟩) (by assumption) ?_
                (rotate_left); (focus (intro wv hSw; (obtain ⟨qI, qW, qB⟩ := hSw);  go_simp; (try with_reducible rfl)))
                try simp only [Act.put, List.getElem_toArray, List.getElem_cons_succ, List.getElem_cons_zero, List.setIfInBounds_toArray, List.set_cons_zero, List.set_cons_succ]
                refine wpAnyH_take (i := 17) (oi := _) (v := ?_) rfl (by kernel_rfl) (by kernel_rfl) (by kernel_rfl) (fun _ _ _ h => h) (Or.inl ⟨by rfl, ?_⟩) (by assumption) ?_
                (rotate_left); (focus (intro wv hSw; (obtain ⟨qI, qW, qB⟩ := hSw);  go_simp; (try with_reducible rfl)))
                try simp only [Act.put, List.getElem_toArray, List.getElem_cons_succ, List.getElem_cons_zero, List.setIfInBounds_toArray, List.set_cons_zero, List.set_cons_succ]
                refine wpAnyH_take (i := 18) (oi := _) (v := ?_) rfl (by kernel_rfl) (by kernel_rfl) (by kernel_rfl) (fun _ _ _ h => h) (Or.inl ⟨by rfl, ?_⟩) (by assumption) ?_
                (rotate_left); (focus (intro wv hSw; (obtain ⟨qI, qW, qB⟩ := hSw);  go_simp; (try with_reducible rfl)))
                try simp only [Act.put, List.getElem_toArray, List.getElem_cons_succ, List.getElem_cons_zero, List.setIfInBounds_toArray, List.set_cons_zero, List.set_cons_succ]
                refine wpAnyH_take (i := 19) (oi := _) (v := ?_) rfl (by kernel_rfl) (by kernel_rfl) (by kernel_rfl) (fun _ _ _ h => h) (Or.inl ⟨by rfl, ?_⟩) (by assumption) ?_
                (rotate_left); (focus (intro wv hSw; (obtain ⟨qI, qW, qB⟩ := hSw);  go_simp; (try with_reducible rfl)))
                try simp only [Act.put, List.getElem_toArray, List.getElem_cons_succ, List.getElem_cons_zero, List.setIfInBounds_toArray, List.set_cons_zero, List.set_cons_succ]
                refine wpAnyH_take (i := 20) (oi := _) (v := ?_) rfl (by kernel_rfl) (by kernel_rfl) (by kernel_rfl) (fun _ _ _ h => h) (Or.inl ⟨by rfl, ?_⟩) (by assumption) ?_
                (rotate_left); (focus (intro wv hSw; (obtain ⟨qI, qW, qB⟩ := hSw); obtain ⟨k0, k1⟩ := HX.out wv qI; go_simp; (try with_reducible rfl)))
                try simp only [Act.put, List.getElem_toArray, List.getElem_cons_succ, List.getElem_cons_zero, List.setIfInBounds_toArray, List.set_cons_zero, List.set_cons_succ]
                refine wpAnyH_take (i := 21) (oi := _) (v := ?_) rfl (by kernel_rfl) (by kernel_rfl) (by kernel_rfl) (fun _ _ _ h => h) (Or.inl ⟨by rfl, ?_⟩) (by assumption) ?_
                (rotate_left); (focus (intro wv hSw; (obtain ⟨qI, qW, qB⟩ := hSw);  go_simp; (try with_reducible rfl)))
                try simp only [Act.put, List.getElem_toArray, List.getElem_cons_succ, List.getElem_cons_zero, List.setIfInBounds_toArray, List.set_cons_zero, List.set_cons_succ]
                refine wpAnyH_take (i := 22) (oi := _) (v := ?_) rfl (by kernel_rfl) (by kernel_rfl) (by kernel_rfl) (fun _ _ _ h => h) (Or.inl ⟨by rfl, ?_⟩) (by assumption) ?_
                (rotate_left); (focus (intro wv hSw; (obtain ⟨qI, qW, qB⟩ := hSw); obtain ⟨m0, m1⟩ := qW.cell p hp; go_simp; (try with_reducible rfl)))
                try simp only [Act.put, List.getElem_toArray, List.getElem_cons_succ, List.getElem_cons_zero, List.setIfInBounds_toArray, List.set_cons_zero, List.set_cons_succ]
                refine wpAnyH_take (i := 23) (oi := _) (v := ?_) rfl (by kernel_rfl) (by kernel_rfl) (by kernel_rfl) (fun _ _ _ h => h) (Or.inl ⟨by rfl, ?_⟩) (by assumption) ?_
                (rotate_left); (focus (intro wv hSw; (obtain ⟨qI, qW, qB⟩ := hSw);  go_simp; (try with_reducible rfl)))
                try simp only [Act.put, List.getElem_toArray, List.getElem_cons_succ, List.getElem_cons_zero, List.setIfInBounds_toArray, List.set_cons_zero, List.set_cons_succ]
                refine wpAnyH_take (i := 24) (oi := _) (v := ?_) rfl (by kernel_rfl) (by kernel_rfl) (by kernel_rfl) (fun _ _ _ h => h) (Or.inl ⟨by rfl, ?_⟩) (by assumption) ?_
                (rotate_left); (focus (intro wv hSw; (obtain ⟨qI, qW, qB⟩ := hSw);  go_simp; (try with_reducible rfl)))
                try simp only [Act.put, List.getElem_toArray, List.getElem_cons_succ, List.getElem_cons_zero, List.setIfInBounds_toArray, List.set_cons_zero, List.set_cons_succ]
                refine wpAnyH_take (i := 25) (oi := _) (v := ?_) rfl (by kernel_rfl) (by kernel_rfl) (by kernel_rfl) (fun _ _ _ h => h) (Or.inl ⟨by rfl, ?_⟩) (by assumption) ?_
                (rotate_left); (focus (intro wv hSw; (obtain ⟨qI, qW, qB⟩ := hSw);  go_simp; (try with_reducible rfl)))
                try simp only [Act.put, List.getElem_toArray, List.getElem_cons_succ, List.getElem_cons_zero, List.setIfInBounds_toArray, List.set_cons_zero, List.set_cons_succ]
                refine wpAnyH_take (i := 26) (oi := _) (v := ?_) rfl (by kernel_rfl) (by kernel_rfl) (by kernel_rfl) (fun _ _ _ h => h) (Or.inl ⟨by rfl, ?_⟩) (by assumption) ?_
                (rotate_left); (focus (intro wv hSw; (obtain ⟨qI, qW, qB⟩ := hSw);  go_simp; (try with_reducible rfl)))
                try simp only [Act.put, List.getElem_toArray, List.getElem_cons_succ, List.getElem_cons_zero, List.setIfInBounds_toArray, List.set_cons_zero, List.set_cons_succ]
                refine wpAnyH_take (i := 27) (oi := _) (v := ?_) rfl (by kernel_rfl) (by kernel_rfl) (by kernel_rfl) (fun _ _ _ h => h) (Or.inl ⟨by rfl, ?_⟩) (by assumption) ?_
                (rotate_left); (focus (intro wv hSw; (obtain ⟨qI, qW, qB⟩ := hSw); obtain ⟨k0, k1⟩ := HX.out wv qI; go_simp; (try with_reducible rfl)))
                try simp only [Act.put, List.getElem_toArray, List.getElem_cons_succ, List.getElem_cons_zero, List.setIfInBounds_toArray, List.set_cons_zero, List.set_cons_succ]
                refine wpAnyH_take (i := 28) (oi := _) (v := ?_) rfl (by kernel_rfl) (by kernel_rfl) (by kernel_rfl) (fun _ _ _ h => h) (Or.inl ⟨by rfl, ?_⟩) (by assumption) ?_
                (rotate_left); (focus (intro wv hSw; (obtain ⟨qI, qW, qB⟩ := hSw);  go_simp; (try with_reducible rfl)))
                try simp only [Act.put, List.getElem_toArray, List.getElem_cons_succ, List.getElem_cons_zero, List.setIfInBounds_toArray, List.set_cons_zero, List.set_cons_succ]
                refine wpAnyH_take (i := 29) (oi := _) (v := ?_) rfl (by kernel_rfl) (by kernel_rfl) (by kernel_rfl) (fun _ _ _ h => h) (Or.inl ⟨by rfl, ?_⟩) (by assumption) ?_
                (rotate_left); (focus (intro wv hSw; (obtain ⟨qI, qW, qB⟩ := hSw); obtain ⟨m0, m1⟩ := qW.cell q hq; go_simp; (try with_reducible rfl)))
                try simp only [Act.put, List.getElem_toArray, List.getElem_cons_succ, List.getElem_cons_zero, List.setIfInBounds_toArray, List.set_cons_zero, List.set_cons_succ]
                refine wpAnyH_ready (rs := [30]) (by kernel_rfl) (by simp) ?_
                refine AllReadyH.cons (o := _) rfl (fun K hK => ?_) AllReadyH.nil
                go_simp
                (go_at_call 17; refine (isw_is _ HS.out).mono ?_; rintro e x0cc ⟨rfl, hw_0cc⟩)
                refine hK.out _ _ ⟨hI_0c.next hw_0cc, hW_0c.next hw_0cc, bel_next hB_0c hw_0cc⟩ (fun hHeld => ?_)
                clear hK K
                try simp only [Act.put, List.getElem_toArray, List.getElem_cons_succ, List.getElem_cons_zero, List.setIfInBounds_toArray, List.set_cons_zero, List.set_cons_succ]
                obtain ⟨hI_0cc, hW_0cc, hB_0cc⟩ := id hHeld
                refine wpAnyH_take (i := 31) (oi := _) (v := ?_) rfl (by kernel_rfl) (by kernel_rfl) (by kernel_rfl) (fun _ _ _ h => h) (Or.inl ⟨by rfl, ?_⟩) (by assumption) ?_
                (rotate_left); (focus (intro wv hSw; (obtain ⟨qI, qW, qB⟩ := hSw);  go_simp; (try with_reducible rfl)))
                try simp only [Act.put, List.getElem_toArray, List.getElem_cons_succ, List.getElem_cons_zero, List.setIfInBounds_toArray, List.set_cons_zero, List.set_cons_succ]
                refine wpAnyH_take (i := 32) (oi := _) (v := undef) rfl (by kernel_rfl) (by kernel_rfl) (by kernel_rfl) (fun _ _ _ h => h) (Or.inr ⟨by kernel_rfl, rfl⟩) (by assumption) ?_
                try simp only [Act.put, List.getElem_toArray, List.getElem_cons_succ, List.getElem_cons_zero, List.setIfInBounds_toArray, List.set_cons_zero, List.set_cons_succ]
                refine wpAnyH_take (i := 33) (oi := _) (v := undef) rfl (by kernel_rfl) (by kernel_rfl) (by kernel_rfl) (fun _ _ _ h => h) (Or.inr ⟨by kernel_rfl, rfl⟩) (by assumption) ?_
                try simp only [Act.put, List.getElem_toArray, List.getElem_cons_succ, List.getElem_cons_zero, List.setIfInBounds_toArray, List.set_cons_zero, List.set_cons_succ]
                refine wpAnyH_take (i := 34) (oi := _) (v := undef) rfl (by kernel_rfl) (by kernel_rfl) (by kernel_rfl) (fun _ _ _ h => h) (Or.inr ⟨by kernel_rfl, rfl⟩) (by assumption) ?_
                try simp only [Act.put, List.getElem_toArray, List.getElem_cons_succ, List.getElem_cons_zero, List.setIfInBounds_toArray, List.set_cons_zero, List.set_cons_succ]
                refine wpAnyH_take (i := 35) (oi := _) (v := undef) rfl (by kernel_rfl) (by kernel_rfl) (by kernel_rfl) (fun _ _ _ h => h) (Or.inr ⟨by kernel_rfl, rfl⟩) (by assumption) ?_
                try simp only [Act.put, List.getElem_toArray, List.getElem_cons_succ, List.getElem_cons_zero, List.setIfInBounds_toArray, List.set_cons_zero, List.set_cons_succ]
                refine wpAnyH_take (i := 36) (oi := _) (v := undef) rfl (by kernel_rfl) (by kernel_rfl) (by kernel_rfl) (fun _ _ _ h => h) (Or.inr ⟨by kernel_rfl, rfl⟩) (by assumption) ?_
                try simp only [Act.put, List.getElem_toArray, List.getElem_cons_succ, List.getElem_cons_zero, List.setIfInBounds_toArray, List.set_cons_zero, List.set_cons_succ]
                refine wpAnyH_take (i := 37) (oi := _) (v := undef) rfl (by kernel_rfl) (by kernel_rfl) (by kernel_rfl) (fun _ _ _ h => h) (Or.inr ⟨by kernel_rfl, rfl⟩) (by assumption) ?_
                try simp only [Act.put, List.getElem_toArray, List.getElem_cons_succ, List.getElem_cons_zero, List.setIfInBounds_toArray, List.set_cons_zero, List.set_cons_succ]
                refine wpAnyH_take (i := 38) (oi := _) (v := undef) rfl (by kernel_rfl) (by kernel_rfl) (by kernel_rfl) (fun _ _ _ h => h) (Or.inr ⟨by kernel_rfl, rfl⟩) (by assumption) ?_
                try simp only [Act.put, List.getElem_toArray, List.getElem_cons_succ, List.getElem_cons_zero, List.setIfInBounds_toArray, List.set_cons_zero, List.set_cons_succ]
                refine wpAnyH_take (i := 39) (oi := _) (v := undef) rfl (by kernel_rfl) (by kernel_rfl) (by kernel_rfl) (fun _ _ _ h => h) (Or.inr ⟨by kernel_rfl, rfl⟩) (by assumption) ?_
                try simp only [Act.put, List.getElem_toArray, List.getElem_cons_succ, List.getElem_cons_zero, List.setIfInBounds_toArray, List.set_cons_zero, List.set_cons_succ]
                refine wpAnyH_take (i := 40) (oi := _) (v := undef) rfl (by kernel_rfl) (by kernel_rfl) (by kernel_rfl) (fun _ _ _ h => h) (Or.inr ⟨by kernel_rfl, rfl⟩) (by assumption) ?_
                try simp only [Act.put, List.getElem_toArray, List.getElem_cons_succ, List.getElem_cons_zero, List.setIfInBounds_toArray, List.set_cons_zero, List.set_cons_succ]
                refine wpAnyH_take (i := 41) (oi := _) (v := ?_) rfl (by kernel_rfl) (by kernel_rfl) (by kernel_rfl) (fun _ _ _ h => h) (Or.inl ⟨by rfl, ?_⟩) (by assumption) ?_
                (rotate_left); (focus (intro wv hSw; (obtain ⟨qI, qW, qB⟩ := hSw);  go_simp; (try with_reducible rfl)))
                try simp only [Act.put, List.getElem_toArray, List.getElem_cons_succ, List.getElem_cons_zero, List.setIfInBounds_toArray, List.set_cons_zero, List.set_cons_succ]
                refine wpAnyH_take (i := 42) (oi := _) (v := ?_) rfl (by kernel_rfl) (by kernel_rfl) (by kernel_rfl) (fun _ _ _ h => h) (Or.inl ⟨by rfl, ?_⟩) (by assumption) ?_
                (rotate_left); (focus (intro wv hSw; (obtain ⟨qI, qW, qB⟩ := hSw);  go_simp; (try with_reducible rfl)))
                try simp only [Act.put, List.getElem_toArray, List.getElem_cons_succ, List.getElem_cons_zero, List.setIfInBounds_toArray, List.set_cons_zero, List.set_cons_succ]
                refine wpAnyH_done (by kernel_rfl) ?_ _
                go_wp2_with fail
                go_roundw
                case rel => exact ⟨b + 1, by omega, by go_num, hI_0cc, hW_0cc, hB_0cc⟩
                case measure => simp [intOf]; omega
              · have hqp : q < p := hsw hs
                have hd : decide ((p : Int) < (q : Int)) = false := decide_eq_false (by omega)
                have hd1 : ¬ (p : Int) < (q : Int) := by omega
                have hd2 : decide (p < q) = false := decide_eq_false (by omega)
                have hd3 : ¬ p < q := by omega
                have HS := Lib.hid hs
                clear hs hsw
                go_wp2_with fail
                refine wp_region_held_drew (S := (fun w' => OwnI w' w.heap.size (some ⟨gi, 0, none⟩) ci (nat l) ∧ Own w' w.heap.size g c xs ∧ Below w.heap.size w w')) (by kernel_rfl) ⟨hI.drew, World.ownsRow.drew hW, hB.drew⟩ (fun hHeld => ?_)
                obtain ⟨hI_0, hW_0, hB_0⟩ := id hHeld
                refine wpAnyH_take (i := 0) (oi := _) (v := ?_) rfl (by kernel_rfl) (by kernel_rfl) (by kernel_rfl) (fun _ _ _ h => h) (Or.inl ⟨by rfl, ?_⟩) (by assumption) ?_
                (rotate_left); (focus (intro wv hSw; (obtain ⟨qI, qW, qB⟩ := hSw);  go_simp; (try with_reducible rfl)))
                try simp only [Act.put, List.getElem_toArray, List.getElem_cons_succ, List.getElem_cons_zero, List.setIfInBounds_toArray, List.set_cons_zero, List.set_cons_succ]
                refine wpAnyH_take (i := 1) (oi := _) (v := ?_) rfl (by kernel_rfl) (by kernel_rfl) (by kernel_rfl) (fun _ _ _ h => h) (Or.inl ⟨by rfl, ?_⟩) (by assumption) ?_
                (rotate_left); (focus (intro wv hSw; (obtain ⟨qI, qW, qB⟩ := hSw);  go_simp; (try with_reducible rfl)))
                try simp only [Act.put, List.getElem_toArray, List.getElem_cons_succ, List.getElem_cons_zero, List.setIfInBounds_toArray, List.set_cons_zero, List.set_cons_succ]
                refine wpAnyH_take (i := 2) (oi := _) (v := ?_) rfl (by kernel_rfl) (by kernel_rfl) (by kernel_rfl) (fun _ _ _ h => h) (Or.inl ⟨by rfl, ?_⟩) (by assumption) ?_
                (rotate_left); (focus (intro wv hSw; (obtain ⟨qI, qW, qB⟩ := hSw);  go_simp; (try with_reducible rfl)))
                try simp only [Act.put, List.getElem_toArray, List.getElem_cons_succ, List.getElem_cons_zero, List.setIfInBounds_toArray, List.set_cons_zero, List.set_cons_succ]
                refine wpAnyH_take (i := 3) (oi := _) (v := ?_) rfl (by kernel_rfl) (by kernel_rfl) (by kernel_rfl) (fun _ _ _ h => h) (Or.inl ⟨by rfl, ?_⟩) (by assumption) ?_
                (rotate_left); (focus (intro wv hSw; (obtain ⟨qI, qW, qB⟩ := hSw);  go_simp; (try with_reducible rfl)))
                try simp only [Act.put, List.getElem_toArray, List.getElem_cons_succ, List.getElem_cons_zero, List.setIfInBounds_toArray, List.set_cons_zero, List.set_cons_succ]
                refine wpAnyH_take (i := 4) (oi := _) (v := ?_) rfl (by kernel_rfl) (by kernel_rfl) (by kernel_rfl) (fun _ _ _ h => h) (Or.inl ⟨by rfl, ?_⟩) (by assumption) ?_
                (rotate_left); (focus (intro wv hSw; (obtain ⟨qI, qW, qB⟩ := hSw); obtain ⟨k0, k1⟩ := HX.out wv qI; go_simp; (try with_reducible rfl)))
                try simp only [Act.put, List.getElem_toArray, List.getElem_cons_succ, List.getElem_cons_zero, List.setIfInBounds_toArray, List.set_cons_zero, List.set_cons_succ]
                refine wpAnyH_take (i := 5) (oi := _) (v := ?_) rfl (by kernel_rfl) (by kernel_rfl) (by kernel_rfl) (fun _ _ _ h => h) (Or.inl ⟨by rfl, ?_⟩) (by assumption) ?_
                (rotate_left); (focus (intro wv hSw; (obtain ⟨qI, qW, qB⟩ := hSw);  go_simp; (try with_reducible rfl)))
                try simp only [Act.put, List.getElem_toArray, List.getElem_cons_succ, List.getElem_cons_zero, List.setIfInBounds_toArray, List.set_cons_zero, List.set_cons_succ]
                refine wpAnyH_take (i := 6) (oi := _) (v := ?_) rfl (by kernel_rfl) (by kernel_rfl) (by kernel_rfl) (fun _ _ _ h => h) (Or.inl ⟨by rfl, ?_⟩) (by assumption) ?_
                (rotate_left); (focus (intro wv hSw; (obtain ⟨qI, qW, qB⟩ := hSw); obtain ⟨m0, m1⟩ := qW.cell p hp; go_simp; (try with_reducible rfl)))
                try simp only [Act.put, List.getElem_toArray, List.getElem_cons_succ, List.getElem_cons_zero, List.setIfInBounds_toArray, List.set_cons_zero, List.set_cons_succ]
                refine wpAnyH_take (i := 7) (oi := _) (v := ?_) rfl (by kernel_rfl) (by kernel_rfl) (by kernel_rfl) (fun _ _ _ h => h) (Or.inl ⟨by rfl, ?_⟩) (by assumption) ?_
                (rotate_left); (focus (intro wv hSw; (obtain ⟨qI, qW, qB⟩ := hSw);  go_simp; (try with_reducible rfl)))
                try simp only [Act.put, List.getElem_toArray, List.getElem_cons_succ, List.getElem_cons_zero, List.setIfInBounds_toArray, List.set_cons_zero, List.set_cons_succ]
                refine wpAnyH_take (i := 8) (oi := _) (v := ?_) rfl (by kernel_rfl) (by kernel_rfl) (by kernel_rfl) (fun _ _ _ h => h) (Or.inl ⟨by rfl, ?_⟩) (by assumption) ?_
                (rotate_left); (focus (intro wv hSw; (obtain ⟨qI, qW, qB⟩ := hSw);  go_simp; (try with_reducible rfl)))
                try simp only [Act.put, List.getElem_toArray, List.getElem_cons_succ, List.getElem_cons_zero, List.setIfInBounds_toArray, List.set_cons_zero, List.set_cons_succ]
                refine wpAnyH_take (i := 9) (oi := _) (v := ?_) rfl (by kernel_rfl) (by kernel_rfl) (by kernel_rfl) (fun _ _ _ h => h) (Or.inl ⟨by rfl, ?_⟩) (by assumption) ?_
                (rotate_left); (focus (intro wv hSw; (obtain ⟨qI, qW, qB⟩ := hSw);  go_simp; (try with_reducible rfl)))
                try simp only [Act.put, List.getElem_toArray, List.getElem_cons_succ, List.getElem_cons_zero, List.setIfInBounds_toArray, List.set_cons_zero, List.set_cons_succ]
                refine wpAnyH_take (i := 10) (oi := _) (v := ?_) rfl (by kernel_rfl) (by kernel_rfl) (by kernel_rfl) (fun _ _ _ h => h) (Or.inl ⟨by rfl, ?_⟩) (by assumption) ?_
                (rotate_left); (focus (intro wv hSw; (obtain ⟨qI, qW, qB⟩ := hSw);  go_simp; (try with_reducible rfl)))
                try simp only [Act.put, List.getElem_toArray, List.getElem_cons_succ, List.getElem_cons_zero, List.setIfInBounds_toArray, List.set_cons_zero, List.set_cons_succ]
                refine wpAnyH_take (i := 11) (oi := _) (v := ?_) rfl (by kernel_rfl) (by kernel_rfl) (by kernel_rfl) (fun _ _ _ h => h) (Or.inl ⟨by rfl, ?_⟩) (by assumption) ?_
                (rotate_left); (focus (intro wv hSw; (obtain ⟨qI, qW, qB⟩ := hSw); obtain ⟨k0, k1⟩ := HX.out wv qI; go_simp; (try with_reducible rfl)))
                try simp only [Act.put, List.getElem_toArray, List.getElem_cons_succ, List.getElem_cons_zero, List.setIfInBounds_toArray, List.set_cons_zero, List.set_cons_succ]
                refine wpAnyH_take (i := 12) (oi := _) (v := ?_) rfl (by kernel_rfl) (by kernel_rfl) (by kernel_rfl) (fun _ _ _ h => h) (Or.inl ⟨by rfl, ?_⟩) (by assumption) ?_
                (rotate_left); (focus (intro wv hSw; (obtain ⟨qI, qW, qB⟩ := hSw);  go_simp; (try with_reducible rfl)))
                try simp only [Act.put, List.getElem_toArray, List.getElem_cons_succ, List.getElem_cons_zero, List.setIfInBounds_toArray, List.set_cons_zero, List.set_cons_succ]
                refine wpAnyH_take (i := 13) (oi := _) (v := ?_) rfl (by kernel_rfl) (by kernel_rfl) (by kernel_rfl) (fun _ _ _ h => h) (Or.inl ⟨by rfl, ?_⟩) (by assumption) ?_
                (rotate_left); (focus (intro wv hSw; (obtain ⟨qI, qW, qB⟩ := hSw); obtain ⟨m0, m1⟩ := qW.cell q hq; go_simp; (try with_reducible rfl)))
                try simp only [Act.put, List.getElem_toArray, List.getElem_cons_succ, List.getElem_cons_zero, List.setIfInBounds_toArray, List.set_cons_zero, List.set_cons_succ]
                refine wpAnyH_ready (rs := [14]) (by kernel_rfl) (by simp) ?_
                refine AllReadyH.cons (o := _) rfl (fun K hK => ?_) AllReadyH.nil
                go_simp
                (go_at_call 16; refine (irl_is _ HR.out).mono ?_; rintro e x0c ⟨rfl, hw_0c⟩)
                refine hK.out _ _ ⟨hI_0.next hw_0c, hW_0.next hw_0c, bel_next hB_0 hw_0c⟩ (fun hHeld => ?_)
                clear hK K
                try simp only [Act.put, List.getElem_toArray, List.getElem_cons_succ, List.getElem_cons_zero, List.setIfInBounds_toArray, List.set_cons_zero, List.set_cons_succ]
                obtain ⟨hI_0c, hW_0c, hB_0c⟩ := id hHeld
                refine wpAnyH_take (i := 15) (oi := _) (v := ?_) rfl (by kernel_rfl) (by kernel_rfl) (by kernel_rfl) (fun _ _ _ h => h) (Or.inl ⟨by rfl, ?_⟩) (by assumption) ?_
                (rotate_left); (focus (intro wv hSw; (obtain ⟨qI, qW, qB⟩ := hSw);  go_simp; (try with_reducible rfl)))
                try simp only [Act.put, List.getElem_toArray, List.getElem_cons_succ, List.getElem_cons_zero, List.setIfInBounds_toArray, List.set_cons_zero, List.set_cons_succ]
                refine wpAnyH_take (i := 16) (oi := _) (v := ?_) rfl (by kernel_rfl) (by kernel_rfl) (by kernel_rfl) (fun _ _ _ h => h) (Or.inl ⟨by rfl, ?_⟩) (by assumption) ?_
                (rotate_left); (focus (intro wv hSw; (obtain ⟨qI, qW, qB⟩ := hSw);  go_simp; (try with_reducible rfl)))
                try simp only [Act.put, List.getElem_toArray, List.getElem_cons_succ, List.getElem_cons_zero, List.setIfInBounds_toArray, List.set_cons_zero, List.set_cons_succ]
                refine wpAnyH_take (i := 17) (oi := _) (v := ?_) rfl (by kernel_rfl) (by kernel_rfl) (by kernel_rfl) (fun _ _ _ h => h) (Or.inl ⟨by rfl, ?_⟩) (by assumption) ?_
                (rotate_left); (focus (intro wv hSw; (obtain ⟨qI, qW, qB⟩ := hSw);  go_simp; (try with_reducible rfl)))
                try simp only [Act.put, List.getElem_toArray, List.getElem_cons_succ, List.getElem_cons_zero, List.setIfInBounds_toArray, List.set_cons_zero, List.set_cons_succ]
                refine wpAnyH_take (i := 18) (oi := _) (v := ?_) rfl (by kernel_rfl) (by kernel_rfl) (by kernel_rfl) (fun _ _ _ h => h) (Or.inl ⟨by rfl, ?_⟩) (by assumption) ?_
                (rotate_left); (focus (intro wv hSw; (obtain ⟨qI, qW, qB⟩ := hSw);  go_simp; (try with_reducible rfl)))
                try simp only [Act.put, List.getElem_toArray, List.getElem_cons_succ, List.getElem_cons_zero, List.setIfInBounds_toArray, List.set_cons_zero, List.set_cons_succ]
                refine wpAnyH_take (i := 19) (oi := _) (v := ?_) rfl (by kernel_rfl) (by kernel_rfl) (by kernel_rfl) (fun _ _ _ h => h) (Or.inl ⟨by rfl, ?_⟩) (by assumption) ?_
                (rotate_left); (focus (intro wv hSw; (obtain ⟨qI, qW, qB⟩ := hSw);  go_simp; (try with_reducible rfl)))
                try simp only [Act.put, List.getElem_toArray, List.getElem_cons_succ, List.getElem_cons_zero, List.setIfInBounds_toArray, List.set_cons_zero, List.set_cons_succ]
                refine wpAnyH_take (i := 20) (oi := _) (v := ?_) rfl (by kernel_rfl) (by kernel_rfl) (by kernel_rfl) (fun _ _ _ h => h) (Or.inl ⟨by rfl, ?_⟩) (by assumption) ?_
                (rotate_left); (focus (intro wv hSw; (obtain ⟨qI, qW, qB⟩ := hSw); obtain ⟨k0, k1⟩ := HX.out wv qI; go_simp; (try with_reducible rfl)))
                try simp only [Act.put, List.getElem_toArray, List.getElem_cons_succ, List.getElem_cons_zero, List.setIfInBounds_toArray, List.set_cons_zero, List.set_cons_succ]
                refine wpAnyH_take (i := 21) (oi := _) (v := ?_) rfl (by kernel_rfl) (by kernel_rfl) (by kernel_rfl) (fun _ _ _ h => h) (Or.inl ⟨by rfl, ?_⟩) (by assumption) ?_
                (rotate_left); (focus (intro wv hSw; (obtain ⟨qI, qW, qB⟩ := hSw);  go_simp; (try with_reducible rfl)))
                try simp only [Act.put, List.getElem_toArray, List.getElem_cons_succ, List.getElem_cons_zero, List.setIfInBounds_toArray, List.set_cons_zero, List.set_cons_succ]
                refine wpAnyH_take (i := 22) (oi := _) (v := ?_) rfl (by kernel_rfl) (by kernel_rfl) (by kernel_rfl) (fun _ _ _ h => h) (Or.inl ⟨by rfl, ?_⟩) (by assumption) ?_
                (rotate_left); (focus (intro wv hSw; (obtain ⟨qI, qW, qB⟩ := hSw); obtain ⟨m0, m1⟩ := qW.cell p hp; go_simp; (try with_reducible rfl)))
                try simp only [Act.put, List.getElem_toArray, List.getElem_cons_succ, List.getElem_cons_zero, List.setIfInBounds_toArray, List.set_cons_zero, List.set_cons_succ]
                refine wpAnyH_take (i := 23) (oi := _) (v := ?_) rfl (by kernel_rfl) (by kernel_rfl) (by kernel_rfl) (fun _ _ _ h => h) (Or.inl ⟨by rfl, ?_⟩) (by assumption) ?_
                (rotate_left); (focus (intro wv hSw; (obtain ⟨qI, qW, qB⟩ := hSw);  go_simp; (try with_reducible rfl)))
                try simp only [Act.put, List.getElem_toArray, List.getElem_cons_succ, List.getElem_cons_zero, List.setIfInBounds_toArray, List.set_cons_zero, List.set_cons_succ]
                refine wpAnyH_take (i := 24) (oi := _) (v := ?_) rfl (by kernel_rfl) (by kernel_rfl) (by kernel_rfl) (fun _ _ _ h => h) (Or.inl ⟨by rfl, ?_⟩) (by assumption) ?_
                (rotate_left); (focus (intro wv hSw; (obtain ⟨qI, qW, qB⟩ := hSw);  go_simp; (try with_reducible rfl)))
                try simp only [Act.put, List.getElem_toArray, List.getElem_cons_succ, List.getElem_cons_zero, List.setIfInBounds_toArray, List.set_cons_zero, List.set_cons_succ]
                refine wpAnyH_take (i := 25) (oi := _) (v := ?_) rfl (by kernel_rfl) (by kernel_rfl) (by kernel_rfl) (fun _ _ _ h => h) (Or.inl ⟨by rfl, ?_⟩) (by assumption) ?_
                (rotate_left); (focus (intro wv hSw; (obtain ⟨qI, qW, qB⟩ := hSw);  go_simp; (try with_reducible rfl)))
                try simp only [Act.put, List.getElem_toArray, List.getElem_cons_succ, List.getElem_cons_zero, List.setIfInBounds_toArray, List.set_cons_zero, List.set_cons_succ]
                refine wpAnyH_take (i := 26) (oi := _) (v := ?_) rfl (by kernel_rfl) (by kernel_rfl) (by kernel_rfl) (fun _ _ _ h => h) (Or.inl ⟨by rfl, ?_⟩) (by assumption) ?_
                (rotate_left); (focus (intro wv hSw; (obtain ⟨qI, qW, qB⟩ := hSw);  go_simp; (try with_reducible rfl)))
                try simp only [Act.put, List.getElem_toArray, List.getElem_cons_succ, List.getElem_cons_zero, List.setIfInBounds_toArray, List.set_cons_zero, List.set_cons_succ]
                refine wpAnyH_take (i := 27) (oi := _) (v := ?_) rfl (by kernel_rfl) (by kernel_rfl) (by kernel_rfl) (fun _ _ _ h => h) (Or.inl ⟨by rfl, ?_⟩) (by assumption) ?_
                (rotate_left); (focus (intro wv hSw; (obtain ⟨qI, qW, qB⟩ := hSw); obtain ⟨k0, k1⟩ := HX.out wv qI; go_simp; (try with_reducible rfl)))
                try simp only [Act.put, List.getElem_toArray, List.getElem_cons_succ, List.getElem_cons_zero, List.setIfInBounds_toArray, List.set_cons_zero, List.set_cons_succ]
                refine wpAnyH_take (i := 28) (oi := _) (v := ?_) rfl (by kernel_rfl) (by kernel_rfl) (by kernel_rfl) (fun _ _ _ h => h) (Or.inl ⟨by rfl, ?_⟩) (by assumption) ?_
                (rotate_left); (focus (intro wv hSw; (obtain ⟨qI, qW, qB⟩ := hSw);  go_simp; (try with_reducible rfl)))
                try simp only [Act.put, List.getElem_toArray, List.getElem_cons_succ, List.getElem_cons_zero, List.setIfInBounds_toArray, List.set_cons_zero, List.set_cons_succ]
                refine wpAnyH_take (i := 29) (oi := _) (v := ?_) rfl (by kernel_rfl) (by kernel_rfl) (by kernel_rfl) (fun _ _ _ h => h) (Or.inl ⟨by rfl, ?_⟩) (by assumption) ?_
                (rotate_left); (focus (intro wv hSw; (obtain ⟨qI, qW, qB⟩ := hSw); obtain ⟨m0, m1⟩ := qW.cell q hq; go_simp; (try with_reducible rfl)))
                try simp only [Act.put, List.getElem_toArray, List.getElem_cons_succ, List.getElem_cons_zero, List.setIfInBounds_toArray, List.set_cons_zero, List.set_cons_succ]
                refine wpAnyH_ready (rs := [30]) (by kernel_rfl) (by simp) ?_
                refine AllReadyH.cons (o := _) rfl (fun K hK => ?_) AllReadyH.nil
                go_simp
                (go_at_call 17; refine (isw_is _ HS.out).mono ?_; rintro e x0cc ⟨rfl, hw_0cc⟩)
                refine hK.out _ _ ⟨hI_0c.next hw_0cc, hW_0c.next hw_0cc, bel_next hB_0c hw_0cc⟩ (fun hHeld => ?_)
                clear hK K
                try simp only [Act.put, List.getElem_toArray, List.getElem_cons_succ, List.getElem_cons_zero, List.setIfInBounds_toArray, List.set_cons_zero, List.set_cons_succ]
                obtain ⟨hI_0cc, hW_0cc, hB_0cc⟩ := id hHeld
                refine wpAnyH_take (i := 31) (oi := _) (v := ?_) rfl (by kernel_rfl) (by kernel_rfl) (by kernel_rfl) (fun _ _ _ h => h) (Or.inl ⟨by rfl, ?_⟩) (by assumption) ?_
                (rotate_left); (focus (intro wv hSw; (obtain ⟨qI, qW, qB⟩ := hSw);  go_simp; (try with_reducible rfl)))
                try simp only [Act.put, List.getElem_toArray, List.getElem_cons_succ, List.getElem_cons_zero, List.setIfInBounds_toArray, List.set_cons_zero, List.set_cons_succ]
                refine wpAnyH_take (i := 32) (oi := _) (v := ?_) rfl (by kernel_rfl) (by kernel_rfl) (by kernel_rfl) (fun _ _ _ h => h) (Or.inl ⟨by rfl, ?_⟩) (by assumption) ?_
                (rotate_left); (focus (intro wv hSw; (obtain ⟨qI, qW, qB⟩ := hSw);  go_simp; (try with_reducible rfl)))
                try simp only [Act.put, List.getElem_toArray, List.getElem_cons_succ, List.getElem_cons_zero, List.setIfInBounds_toArray, List.set_cons_zero, List.set_cons_succ]
                refine wpAnyH_take (i := 33) (oi := _) (v := ?_) rfl (by kernel_rfl) (by kernel_rfl) (by kernel_rfl) (fun _ _ _ h => h) (Or.inl ⟨by rfl, ?_⟩) (by assumption) ?_
                (rotate_left); (focus (intro wv hSw; (obtain ⟨qI, qW, qB⟩ := hSw);  go_simp; (try with_reducible rfl)))
                try simp only [Act.put, List.getElem_toArray, List.getElem_cons_succ, List.getElem_cons_zero, List.setIfInBounds_toArray, List.set_cons_zero, List.set_cons_succ]
                refine wpAnyH_take (i := 34) (oi := _) (v := ?_) rfl (by kernel_rfl) (by kernel_rfl) (by kernel_rfl) (fun _ _ _ h => h) (Or.inl ⟨by rfl, ?_⟩) (by assumption) ?_
                (rotate_left); (focus (intro wv hSw; (obtain ⟨qI, qW, qB⟩ := hSw);  go_simp; (try with_reducible rfl)))
                try simp only [Act.put, List.getElem_toArray, List.getElem_cons_succ, List.getElem_cons_zero, List.setIfInBounds_toArray, List.set_cons_zero, List.set_cons_succ]
                refine wpAnyH_take (i := 35) (oi := _) (v := ?_) rfl (by kernel_rfl) (by kernel_rfl) (by kernel_rfl) (fun _ _ _ h => h) (Or.inl ⟨by rfl, ?_⟩) (by assumption) ?_
                (rotate_left); (focus (intro wv hSw; (obtain ⟨qI, qW, qB⟩ := hSw); obtain ⟨k0, k1⟩ := HX.out wv qI; go_simp; (try with_reducible rfl)))
                try simp only [Act.put, List.getElem_toArray, List.getElem_cons_succ, List.getElem_cons_zero, List.setIfInBounds_toArray, List.set_cons_zero, List.set_cons_succ]
                refine wpAnyH_take (i := 36) (oi := _) (v := ?_) rfl (by kernel_rfl) (by kernel_rfl) (by kernel_rfl) (fun _ _ _ h => h) (Or.inl ⟨by rfl, ?_⟩) (by assumption) ?_
                (rotate_left); (focus (intro wv hSw; (obtain ⟨qI, qW, qB⟩ := hSw);  go_simp; (try with_reducible rfl)))
                try simp only [Act.put, List.getElem_toArray, List.getElem_cons_succ, List.getElem_cons_zero, List.setIfInBounds_toArray, List.set_cons_zero, List.set_cons_succ]
                refine wpAnyH_take (i := 37) (oi := _) (v := ?_) rfl (by kernel_rfl) (by kernel_rfl) (by kernel_rfl) (fun _ _ _ h => h) (Or.inl ⟨by rfl, ?_⟩) (by assumption) ?_
                (rotate_left); (focus (intro wv hSw; (obtain ⟨qI, qW, qB⟩ := hSw);  go_simp; (try with_reducible rfl)))
                try simp only [Act.put, List.getElem_toArray, List.getElem_cons_succ, List.getElem_cons_zero, List.setIfInBounds_toArray, List.set_cons_zero, List.set_cons_succ]
                refine wpAnyH_take (i := 38) (oi := _) (v := ?_) rfl (by kernel_rfl) (by kernel_rfl) (by kernel_rfl) (fun _ _ _ h => h) (Or.inl ⟨by rfl, ?_⟩) (by assumption) ?_
                (rotate_left); (focus (intro wv hSw; (obtain ⟨qI, qW, qB⟩ := hSw);  go_simp; (try with_reducible rfl)))
                try simp only [Act.put, List.getElem_toArray, List.getElem_cons_succ, List.getElem_cons_zero, List.setIfInBounds_toArray, List.set_cons_zero, List.set_cons_succ]
                refine wpAnyH_take (i := 39) (oi := _) (v := ?_) rfl (by kernel_rfl) (by kernel_rfl) (by kernel_rfl) (fun _ _ _ h => h) (Or.inl ⟨by rfl, ?_⟩) (by assumption) ?_
                (rotate_left); (focus (intro wv hSw; (obtain ⟨qI, qW, qB⟩ := hSw); obtain ⟨k0, k1⟩ := HX.out wv qI; go_simp; (try with_reducible rfl)))
                try simp only [Act.put, List.getElem_toArray, List.getElem_cons_succ, List.getElem_cons_zero, List.setIfInBounds_toArray, List.set_cons_zero, List.set_cons_succ]
                refine wpAnyH_take (i := 40) (oi := _) (v := ?_) rfl (by kernel_rfl) (by kernel_rfl) (by kernel_rfl) (fun _ _ _ h => h) (Or.inl ⟨by rfl, ?_⟩) (by assumption) ?_
                (rotate_left); (focus (intro wv hSw; (obtain ⟨qI, qW, qB⟩ := hSw);  go_simp; (try with_reducible rfl)))
                try simp only [Act.put, List.getElem_toArray, List.getElem_cons_succ, List.getElem_cons_zero, List.setIfInBounds_toArray, List.set_cons_zero, List.set_cons_succ]
                refine wpAnyH_take (i := 41) (oi := _) (v := ?_) rfl (by kernel_rfl) (by kernel_rfl) (by kernel_rfl) (fun _ _ _ h => h) (Or.inl ⟨by rfl, ?_⟩) (by assumption) ?_
                (rotate_left); (focus (intro wv hSw; (obtain ⟨qI, qW, qB⟩ := hSw);  go_simp; (try with_reducible rfl)))
                try simp only [Act.put, List.getElem_toArray, List.getElem_cons_succ, List.getElem_cons_zero, List.setIfInBounds_toArray, List.set_cons_zero, List.set_cons_succ]
                refine wpAnyH_take (i := 42) (oi := _) (v := ?_) rfl (by kernel_rfl) (by kernel_rfl) (by kernel_rfl) (fun _ _ _ h => h) (Or.inl ⟨by rfl, ?_⟩) (by assumption) ?_
                (rotate_left); (focus (intro wv hSw; (obtain ⟨qI, qW, qB⟩ := hSw);  go_simp; (try with_reducible rfl)))
                try simp only [Act.put, List.getElem_toArray, List.getElem_cons_succ, List.getElem_cons_zero, List.setIfInBounds_toArray, List.set_cons_zero, List.set_cons_succ]
                refine wpAnyH_done (by kernel_rfl) ?_ _
                go_wp2_with fail
                go_roundw
                case rel => exact ⟨b + 1, by omega, by go_num, hI_0cc, hW_0cc, hB_0cc⟩
                case measure => simp [intOf]; omega
            · obtain rfl : b = a := by omega
              go_wp2_with fail
              go_roundw
              case rel => exact ⟨b + 1, by omega, by go_num, hI, hW, hB⟩
              case measure => simp [intOf]; omega
        · obtain rfl : a = n := by omega
          have HA : Hid ((nat l).length = a ∧ ∀ i : Nat, i < a → (i : Int) ∈ nat l) := by
            refine ⟨by rw [nat_len]; exact HL.out.2, fun i hi => ?_⟩
            have := (HL.out.1.2 i).2 (by rw [HN.out]; exact hi)
            unfold nat
            exact List.mem_map.2 ⟨i, this, rfl⟩
          go_wp2_with fail
          refine (order_t Ai ci a (nat l) _ HA.out.1 hI.row (by omega) HA.out.2).mono ?_; rintro e w6 ⟨rfl, hw6⟩
          go_wp2
          go_ret
          exact ⟨rfl, bel_next hB hw6⟩

set_option maxRecDepth 100000 in
theorem lifted (os : Os) (started : os.Started) (H : Type) (enc : TypeId × Value → H) :
    ReturnsInHanded {} Try.checked os 3 .any (Rows.fnRoundOrderSpec.pre6 enc Try.prog Try.f3 Rows.fnRoundOrderRow.domain false) (Rows.fnRoundOrderSpec.post enc Try.prog Try.f3 false true false false) := by
  refine returnsInHanded_of_change (C := Try.checked) own started (by kernel_rfl) Try.func3
    (ChangeSpec.witness6 (enc := enc) (C := Try.checked) false ⟨#[], #[.slice none 0 0], []⟩ 8 (by kernel_rfl) (by kernel_rfl) (by kernel_rfl) (by kernel_rfl)) ?_
  intro W base args ds gs before hval0 hW hcnd _
  have hval : ∀ (j : Nat) t v, Try.f3.params[j]? = some t → args[j]? = some v → Value.okWide Try.prog W .any base t v := hval0
  have hW' := hW
  obtain ⟨p, q, hA0, hV, rfl, hfz, hnd⟩ := hW
  have hA : DataW.TrodAll enc Try.prog W 0 (fun _ => true) true Try.f3.params.toList args.toList ds p := hA0
  rw [Try.params3] at hA hval
  obtain ⟨v0, vs0, d0, ds0, p0, q0, hargs, rfl, rfl, h0, r0⟩ := trodAll_cons hA
  obtain ⟨rfl, rfl, rfl⟩ := trodAll_nil r0
  obtain rfl : args = #[v0] := by cases args; simp_all
  obtain ⟨rfl, rfl⟩ := trodVars_none hV
  have k0 := h0
  have lt0 : ∀ x ∈ p0, x.block < W.heap.size := by obtain ⟨m, hm⟩ := k0; exact DataW.trod_lt m _ _ _ hm
  obtain ⟨a0, len0, cap0, rfl⟩ := okWide_slice Try.underlying22 (hval 0 22 v0 rfl rfl)
  have w0 : CodeOk W a0 len0 cap0 := by
    obtain ⟨fuel, hf⟩ := h0
    rcases open_ints Try.underlying22 Try.underlying5 (by kernel_rfl) hf with ⟨hcs, _⟩ | ⟨x, l, c, zs, hcs, _, hl, hm, hz, _, hcell, hwz⟩
    · simp [Value.cells] at hcs
      obtain ⟨rfl, rfl, rfl⟩ := hcs
      exact code_nil W
    · simp [Value.cells] at hcs
      obtain ⟨rfl, rfl, rfl⟩ := hcs
      exact code_ok hl hm (by simp at hz; omega) hcell hwz
  clear hA0 hval0
  refine (walk W a0 len0 cap0 w0).mono fun e W' ⟨he, bel⟩ => ?_
  subst he
  exact ⟨_, rfl, _, _, _, [], _, [], hW', trodAll_mk1 (shut_bool Try.underlying4 _), (trodAll_cons_mk (Below.trod laidOut (by kernel_rfl) (of_decide_eq_true (by kernel_rfl)) k0 bel lt0) trodAll_mk0), rfl, bel.frame _, fun h => by cases h⟩

theorem over : Rows.fnRoundOrderRow.holds Try.pinned (OpenSpec.ofChange Rows.fnRoundOrderSpec) :=
  OpenClaim.holds_of_wide 3 Try.f3 rfl rfl rfl rfl rfl rfl rfl ⟨rfl, rfl, rfl, rfl, rfl⟩ rfl rfl rfl rfl rfl (by kernel_rfl) Try.func3 (by kernel_rfl)
    (of_decide_eq_true (by kernel_rfl)) (by unfold Func.isWrapper; first | (rw [if_pos (by decide +kernel)]; kernel_rfl) | (rw [if_neg (by decide +kernel)]; exact ⟨rfl, rfl⟩))
    (fun os started H enc _ => lifted os started H enc)

/-- The statement. -/
theorem proved : Rows.FnRoundOrderSaid :=
  over
#print axioms proved
end Go.Proofs.Ytibpaojhjgpdaaa.fnRoundOrder
