/- Contracts of chapter 7: peaks of loads. -/
import Derived.Test.YtibpaojhjgpdaaaZl
import Derived.Test.YtibpaojhjgpdaaaZo
namespace Go.Proofs.Ytibpaojhjgpdaaa
open Go Go.ChangeShapes Go.WideShapes Go.ChangeAt Go.RowKit
set_option linter.unusedSimpArgs false
set_option linter.unusedVariables false

theorem mx_snoc7 : ∀ (l : List Int) (x : Int), 0 ≤ x → mx (l ++ [x]) = max (mx l) x
  | [], x, h => by simp [mx]; omega
  | y :: l, x, h => by have := mx_snoc7 l x h; simp only [List.cons_append, mx, this]; omega
theorem mx_step7 {xs : List Int} {k : Nat} (hk : k < xs.length) (h : 0 ≤ xs[k]) : mx (xs.take (k + 1)) = max (mx (xs.take k)) xs[k] := by
  rw [List.take_succ_eq_append_getElem hk, mx_snoc7 _ _ h]
theorem lpI_no1 {xs : List (Int × Int)} {hs : List Int} (h : ldB xs = false) : lpI xs hs = -1 := by unfold lpI; rw [h]; simp
theorem lpI_no2 {xs : List (Int × Int)} {hs : List Int} (h : ¬ hs.length = xs.length) : lpI xs hs = -1 := by unfold lpI; simp [h]
theorem lpI_no3 {xs : List (Int × Int)} {hs : List Int} (h : inK xs hs hs.length = false) : lpI xs hs = -1 := by unfold lpI; simp [h]
theorem lpI_yes {xs : List (Int × Int)} {hs : List Int} (h1 : ldB xs = true) (h2 : hs.length = xs.length) (h3 : inK xs hs hs.length = true) : lpI xs hs = pkK hs hs.length := by unfold lpI; rw [h1, decide_eq_true h2, h3]; rfl
theorem in_step7 {xs : List (Int × Int)} {hs : List Int} {k : Nat} (hx : k < xs.length) (hh : k < hs.length) (h : inK xs hs k = true) (h2 : xs[k].1 ≤ hs[k] ∧ hs[k] ≤ xs[k].2) : inK xs hs (k + 1) = true := by
  rw [inK, h]; simp [hx, hh, h2]
theorem in_bad7 {xs : List (Int × Int)} {hs : List Int} {k : Nat} (hx : k < xs.length) (hh : k < hs.length) (h2 : ¬ (xs[k].1 ≤ hs[k] ∧ hs[k] ≤ xs[k].2)) : inK xs hs hs.length = false :=
  inK_no (k := k) hh (by simp [hx, hh]; omega)
theorem pk_step7 {hs : List Int} {k : Nat} (hh : k < hs.length) : pkK hs (k + 1) = max (pkK hs k) ((hs.take (k + 1)).count hs[k] : Nat) := by
  rw [pkK]; simp [hh]
theorem ct_step7 {hs : List Int} {j : Nat} (hj : j < hs.length) (x : Int) : (hs.take (j + 1)).count x = (hs.take j).count x + (if hs[j] = x then 1 else 0) := by
  rw [List.take_succ_eq_append_getElem hj, List.count_append, List.count_singleton]; simp
theorem in_all7 {xs : List (Int × Int)} {hs : List Int} (hb : ldB xs = true) (he : hs.length = xs.length) (h : inK xs hs hs.length = true) : ∀ x ∈ hs, 0 ≤ x ∧ x ≤ 9 := by
  intro x hx
  obtain ⟨i, hi, rfl⟩ := List.getElem_of_mem hx
  have h1 := inK_down (k := i + 1) (by omega) h
  rw [inK] at h1
  simp only [Bool.and_eq_true, decide_eq_true_eq] at h1
  have hx2 : i < xs.length := by omega
  have h2 := ldV_iff.1 ((ldB_iff.1 hb).2 xs[i] (List.getElem_mem hx2))
  have e1 : xs.getD i (0, 0) = xs[i] := by simp [hx2]
  have e2 : hs.getD i 0 = hs[i] := by simp [hi]
  rw [e1, e2] at h1
  omega
set_option maxRecDepth 100000 in
set_option maxHeartbeats 2000000 in
theorem sLp_is (A A2 : Option Addr) (cap cap2 : Nat) (xs : List VLoad) (hs : List Int) {n m : Nat} {r : Int} (w : World) (hn : xs.length = n) (h : SRow encLoad w A xs) (hl : n ≤ 2000000) (hm : hs.length = m) (h2 : SRow encNum w A2 hs) (hl2 : m ≤ 2000000) (hr : lpI xs hs = r) :
    Calls Try.prog 36 #[.slice A n cap, .slice A2 m cap2] w fun E w' => E = .returned (.int .i64 r) ∧ Below w.heap.size w w' := by
  cases hv : ldB xs
  · obtain rfl : r = -1 := by rw [← hr]; exact lpI_no1 hv
    clear hr
    have HN := Lib.hid hn
    have HM := Lib.hid hm
    clear hn hm
    have HV := Lib.hid hv
    clear hv
    go_enter Try.func36, Try.ntmps36
    go_wp2_with fail
    refine (sLv_is A cap xs _ HN.out h hl HV.out).mono ?_; rintro E w1 ⟨rfl, hB1⟩
    go_wp2
    go_ret
    exact ⟨rfl, hB1⟩
  · by_cases he : m = n
    · subst he
      have hm7 : m ≤ 7 := by have := (ldB_iff.1 hv).1; omega
      have HNo : Hid (inK xs hs m = false → r = -1) := Lib.hid (fun h9 => by rw [← hr]; exact lpI_no3 (by rw [hm]; exact h9))
      have HYes : Hid (inK xs hs m = true → r = pkK hs m) := Lib.hid (fun h9 => by rw [← hr, ← hm]; exact lpI_yes hv (by rw [hm, hn]) (by rw [hm]; exact h9))
      have HBD : Hid (inK xs hs m = true → ∀ x ∈ hs, 0 ≤ x ∧ x ≤ 9) := Lib.hid (fun h9 => in_all7 hv (by rw [hm, hn]) (by rw [hm]; exact h9))
      clear hr
      have HN := Lib.hid hn
      have HM := Lib.hid hm
      clear hn hm
      have HV := Lib.hid hv
      clear hv
      go_enter Try.func36, Try.ntmps36
      go_wp2_with fail
      refine (sLv_is A cap xs _ HN.out h hl HV.out).mono ?_; rintro E w1 ⟨rfl, hB1⟩
      go_wp2_with fail
      go_loopw [5, 6] (fun pv v wr => ∃ (k : Nat) (p : Int), v = .int .i64 k ∧ k ≤ m ∧ pv = .int .i64 p ∧ Hid (pkK hs k = p) ∧ Hid (inK xs hs k = true) ∧ Below w.heap.size w wr) (fun _ v _ => (m - intOf v).toNat)
      case atStart => exact ⟨0, 0, rfl, by omega, rfl, (by show _ = _; rfl), (by show _ = _; rfl), hB1⟩
      case round =>
        clear hB1
        obtain ⟨k, p, rfl, k1, rfl, HP, HK, hB⟩ := hrel
        by_cases hlt : k < m
        · have hk : k < xs.length := by rw [HN.out]; exact hlt
          have hk2 : k < hs.length := by rw [HM.out]; exact hlt
          have hki : (k : Int) < (m : Int) := by omega
          obtain ⟨b, off, rfl, hb, c0, c1⟩ := rowLoad (h.next hB) hk
          obtain ⟨b2, off2, rfl, hb2, d0⟩ := rowNum (h2.next hB) hk2
          have HI1 := Lib.hid (in_step7 (xs := xs) (hs := hs) hk hk2 HK.out)
          have HI2 := Lib.hid (in_bad7 (xs := xs) (hs := hs) hk hk2)
          rw [HM.out] at HI2
          have HPS := Lib.hid (pk_step7 hk2)
          rw [HP.out] at HPS
          obtain ⟨p0, p1⟩ := pkK_bd hs k
          rw [HP.out] at p0 p1
          have hcl := cnt_le7 hs (k + 1) hs[k]
          obtain ⟨x, hx9⟩ : ∃ x, hs[k] = x := ⟨_, rfl⟩
          rw [hx9] at d0 HI1 HI2 HPS hcl
          have HX := Lib.hid hx9
          clear hx9
          generalize xs[k].1 = g at c0 HI1 HI2
          generalize xs[k].2 = d at c1 HI1 HI2
          cases hin : inV x g d
          · obtain rfl : r = -1 := HNo.out (HI2.out (by unfold inV at hin; simpa using hin))
            have HIN := Lib.hid hin
            clear hin
            go_wp2_with fail
            refine wp_region_held_drew (S := (fun w' => w'.cell? ⟨b2, off2 + k, none⟩ = some (.int .i64 x) ∧ w'.cell? ⟨b, off + k * 2, none⟩ = some (.int .i64 g) ∧ w'.cell? ⟨b, off + k * 2 + 1, none⟩ = some (.int .i64 d) ∧ Below w.heap.size w w')) (by kernel_rfl) ⟨d0, c0, c1, hB.drew⟩ (fun hHeld => ?_)
            obtain ⟨hC_0, hD_0, hE_0, hB_0⟩ := id hHeld
            refine wpAnyH_take (i := 0) (oi := _) (v := ?_) rfl (by kernel_rfl) (by kernel_rfl) (by kernel_rfl) (fun _ _ _ h => h) (Or.inl ⟨by rfl, ?_⟩) (by assumption) ?_
            (rotate_left); (focus (intro wv hSw; (obtain ⟨qC, qD, qE, qB⟩ := hSw);  go_simp; (try with_reducible rfl)))
            try simp only [Act.put, List.getElem_toArray, List.getElem_cons_succ, List.getElem_cons_zero, List.setIfInBounds_toArray, List.set_cons_zero, List.set_cons_succ]
            refine wpAnyH_take (i := 1) (oi := _) (v := ?_) rfl (by kernel_rfl) (by kernel_rfl) (by kernel_rfl) (fun _ _ _ h => h) (Or.inl ⟨by rfl, ?_⟩) (by assumption) ?_
            (rotate_left); (focus (intro wv hSw; (obtain ⟨qC, qD, qE, qB⟩ := hSw);  go_simp; (try with_reducible rfl)))
            try simp only [Act.put, List.getElem_toArray, List.getElem_cons_succ, List.getElem_cons_zero, List.setIfInBounds_toArray, List.set_cons_zero, List.set_cons_succ]
            refine wpAnyH_take (i := 2) (oi := _) (v := ?_) rfl (by kernel_rfl) (by kernel_rfl) (by kernel_rfl) (fun _ _ _ h => h) (Or.inl ⟨by rfl, ?_⟩) (by assumption) ?_
            (rotate_left); (focus (intro wv hSw; (obtain ⟨qC, qD, qE, qB⟩ := hSw);  go_simp; (try with_reducible rfl)))
            try simp only [Act.put, List.getElem_toArray, List.getElem_cons_succ, List.getElem_cons_zero, List.setIfInBounds_toArray, List.set_cons_zero, List.set_cons_succ]
            refine wpAnyH_take (i := 3) (oi := _) (v := ?_) rfl (by kernel_rfl) (by kernel_rfl) (by kernel_rfl) (fun _ _ _ h => h) (Or.inl ⟨by rfl, ?_⟩) (by assumption) ?_
            (rotate_left); (focus (intro wv hSw; (obtain ⟨qC, qD, qE, qB⟩ := hSw);  go_simp; (try with_reducible rfl)))
            try simp only [Act.put, List.getElem_toArray, List.getElem_cons_succ, List.getElem_cons_zero, List.setIfInBounds_toArray, List.set_cons_zero, List.set_cons_succ]
            refine wpAnyH_take (i := 4) (oi := _) (v := ?_) rfl (by kernel_rfl) (by kernel_rfl) (by kernel_rfl) (fun _ _ _ h => h) (Or.inl ⟨by rfl, ?_⟩) (by assumption) ?_
            (rotate_left); (focus (intro wv hSw; (obtain ⟨qC, qD, qE, qB⟩ := hSw);  go_simp; (try with_reducible rfl)))
            try simp only [Act.put, List.getElem_toArray, List.getElem_cons_succ, List.getElem_cons_zero, List.setIfInBounds_toArray, List.set_cons_zero, List.set_cons_succ]
            refine wpAnyH_take (i := 5) (oi := _) (v := ?_) rfl (by kernel_rfl) (by kernel_rfl) (by kernel_rfl) (fun _ _ _ h => h) (Or.inl ⟨by rfl, ?_⟩) (by assumption) ?_
            (rotate_left); (focus (intro wv hSw; (obtain ⟨qC, qD, qE, qB⟩ := hSw);  go_simp; (try with_reducible rfl)))
            try simp only [Act.put, List.getElem_toArray, List.getElem_cons_succ, List.getElem_cons_zero, List.setIfInBounds_toArray, List.set_cons_zero, List.set_cons_succ]
            refine wpAnyH_take (i := 6) (oi := _) (v := ?_) rfl (by kernel_rfl) (by kernel_rfl) (by kernel_rfl) (fun _ _ _ h => h) (Or.inl ⟨by rfl, ?_⟩) (by assumption) ?_
            (rotate_left); (focus (intro wv hSw; (obtain ⟨qC, qD, qE, qB⟩ := hSw);  go_simp; (try with_reducible rfl)))
            try simp only [Act.put, List.getElem_toArray, List.getElem_cons_succ, List.getElem_cons_zero, List.setIfInBounds_toArray, List.set_cons_zero, List.set_cons_succ]
            refine wpAnyH_take (i := 7) (oi := _) (v := ?_) rfl (by kernel_rfl) (by kernel_rfl) (by kernel_rfl) (fun _ _ _ h => h) (Or.inl ⟨by rfl, ?_⟩) (by assumption) ?_
            (rotate_left); (focus (intro wv hSw; (obtain ⟨qC, qD, qE, qB⟩ := hSw);  go_simp; (try with_reducible rfl)))
            try simp only [Act.put, List.getElem_toArray, List.getElem_cons_succ, List.getElem_cons_zero, List.setIfInBounds_toArray, List.set_cons_zero, List.set_cons_succ]
            refine wpAnyH_take (i := 8) (oi := _) (v := ?_) rfl (by kernel_rfl) (by kernel_rfl) (by kernel_rfl) (fun _ _ _ h => h) (Or.inl ⟨by rfl, ?_⟩) (by assumption) ?_
            (rotate_left); (focus (intro wv hSw; (obtain ⟨qC, qD, qE, qB⟩ := hSw);  go_simp; (try with_reducible rfl)))
            try simp only [Act.put, List.getElem_toArray, List.getElem_cons_succ, List.getElem_cons_zero, List.setIfInBounds_toArray, List.set_cons_zero, List.set_cons_succ]
            refine wpAnyH_take (i := 9) (oi := _) (v := ?_) rfl (by kernel_rfl) (by kernel_rfl) (by kernel_rfl) (fun _ _ _ h => h) (Or.inl ⟨by rfl, ?_⟩) (by assumption) ?_
            (rotate_left); (focus (intro wv hSw; (obtain ⟨qC, qD, qE, qB⟩ := hSw);  go_simp; (try with_reducible rfl)))
            try simp only [Act.put, List.getElem_toArray, List.getElem_cons_succ, List.getElem_cons_zero, List.setIfInBounds_toArray, List.set_cons_zero, List.set_cons_succ]
            refine wpAnyH_take (i := 10) (oi := _) (v := ?_) rfl (by kernel_rfl) (by kernel_rfl) (by kernel_rfl) (fun _ _ _ h => h) (Or.inl ⟨by rfl, ?_⟩) (by assumption) ?_
            (rotate_left); (focus (intro wv hSw; (obtain ⟨qC, qD, qE, qB⟩ := hSw);  go_simp; (try with_reducible rfl)))
            try simp only [Act.put, List.getElem_toArray, List.getElem_cons_succ, List.getElem_cons_zero, List.setIfInBounds_toArray, List.set_cons_zero, List.set_cons_succ]
            refine wpAnyH_take (i := 11) (oi := _) (v := ?_) rfl (by kernel_rfl) (by kernel_rfl) (by kernel_rfl) (fun _ _ _ h => h) (Or.inl ⟨by rfl, ?_⟩) (by assumption) ?_
            (rotate_left); (focus (intro wv hSw; (obtain ⟨qC, qD, qE, qB⟩ := hSw);  go_simp; (try with_reducible rfl)))
            try simp only [Act.put, List.getElem_toArray, List.getElem_cons_succ, List.getElem_cons_zero, List.setIfInBounds_toArray, List.set_cons_zero, List.set_cons_succ]
            refine wpAnyH_take (i := 12) (oi := _) (v := ?_) rfl (by kernel_rfl) (by kernel_rfl) (by kernel_rfl) (fun _ _ _ h => h) (Or.inl ⟨by rfl, ?_⟩) (by assumption) ?_
            (rotate_left); (focus (intro wv hSw; (obtain ⟨qC, qD, qE, qB⟩ := hSw);  go_simp; (try with_reducible rfl)))
            try simp only [Act.put, List.getElem_toArray, List.getElem_cons_succ, List.getElem_cons_zero, List.setIfInBounds_toArray, List.set_cons_zero, List.set_cons_succ]
            refine wpAnyH_take (i := 13) (oi := _) (v := ?_) rfl (by kernel_rfl) (by kernel_rfl) (by kernel_rfl) (fun _ _ _ h => h) (Or.inl ⟨by rfl, ?_⟩) (by assumption) ?_
            (rotate_left); (focus (intro wv hSw; (obtain ⟨qC, qD, qE, qB⟩ := hSw);  go_simp; (try with_reducible rfl)))
            try simp only [Act.put, List.getElem_toArray, List.getElem_cons_succ, List.getElem_cons_zero, List.setIfInBounds_toArray, List.set_cons_zero, List.set_cons_succ]
            refine wpAnyH_ready (rs := [14]) (by kernel_rfl) (by simp) ?_
            refine AllReadyH.cons (o := _) rfl (fun K hK => ?_) AllReadyH.nil
            go_simp
            (go_at_call 56; refine (sIn7_bl _ HIN.out).mono ?_; rintro e x0c ⟨rfl, hw_0c⟩)
            refine hK.out _ _ ⟨celS_next hC_0 hw_0c, celS_next hD_0 hw_0c, celS_next hE_0 hw_0c, bel_next hB_0 hw_0c⟩ (fun hHeld => ?_)
            clear hK K
            try simp only [Act.put, List.getElem_toArray, List.getElem_cons_succ, List.getElem_cons_zero, List.setIfInBounds_toArray, List.set_cons_zero, List.set_cons_succ]
            obtain ⟨hC_0c, hD_0c, hE_0c, hB_0c⟩ := id hHeld
            refine wpAnyH_take (i := 15) (oi := _) (v := ?_) rfl (by kernel_rfl) (by kernel_rfl) (by kernel_rfl) (fun _ _ _ h => h) (Or.inl ⟨by rfl, ?_⟩) (by assumption) ?_
            (rotate_left); (focus (intro wv hSw; (obtain ⟨qC, qD, qE, qB⟩ := hSw);  go_simp; (try with_reducible rfl)))
            try simp only [Act.put, List.getElem_toArray, List.getElem_cons_succ, List.getElem_cons_zero, List.setIfInBounds_toArray, List.set_cons_zero, List.set_cons_succ]
            refine wpAnyH_done (by kernel_rfl) ?_ _
            go_wp2_with fail
            go_ret
            exact ⟨rfl, hB_0c⟩
          · have HKN := Lib.hid (HI1.out (by unfold inV at hin; simpa using hin))
            have HIN := Lib.hid hin
            clear hin HI1 HI2
            go_wp2_with fail
            refine wp_region_held_drew (S := (fun w' => w'.cell? ⟨b2, off2 + k, none⟩ = some (.int .i64 x) ∧ w'.cell? ⟨b, off + k * 2, none⟩ = some (.int .i64 g) ∧ w'.cell? ⟨b, off + k * 2 + 1, none⟩ = some (.int .i64 d) ∧ Below w.heap.size w w')) (by kernel_rfl) ⟨d0, c0, c1, hB.drew⟩ (fun hHeld => ?_)
            obtain ⟨hC_0, hD_0, hE_0, hB_0⟩ := id hHeld
            refine wpAnyH_take (i := 0) (oi := _) (v := ?_) rfl (by kernel_rfl) (by kernel_rfl) (by kernel_rfl) (fun _ _ _ h => h) (Or.inl ⟨by rfl, ?_⟩) (by assumption) ?_
            (rotate_left); (focus (intro wv hSw; (obtain ⟨qC, qD, qE, qB⟩ := hSw);  go_simp; (try with_reducible rfl)))
            try simp only [Act.put, List.getElem_toArray, List.getElem_cons_succ, List.getElem_cons_zero, List.setIfInBounds_toArray, List.set_cons_zero, List.set_cons_succ]
            refine wpAnyH_take (i := 1) (oi := _) (v := ?_) rfl (by kernel_rfl) (by kernel_rfl) (by kernel_rfl) (fun _ _ _ h => h) (Or.inl ⟨by rfl, ?_⟩) (by assumption) ?_
            (rotate_left); (focus (intro wv hSw; (obtain ⟨qC, qD, qE, qB⟩ := hSw);  go_simp; (try with_reducible rfl)))
            try simp only [Act.put, List.getElem_toArray, List.getElem_cons_succ, List.getElem_cons_zero, List.setIfInBounds_toArray, List.set_cons_zero, List.set_cons_succ]
            refine wpAnyH_take (i := 2) (oi := _) (v := ?_) rfl (by kernel_rfl) (by kernel_rfl) (by kernel_rfl) (fun _ _ _ h => h) (Or.inl ⟨by rfl, ?_⟩) (by assumption) ?_
            (rotate_left); (focus (intro wv hSw; (obtain ⟨qC, qD, qE, qB⟩ := hSw);  go_simp; (try with_reducible rfl)))
            try simp only [Act.put, List.getElem_toArray, List.getElem_cons_succ, List.getElem_cons_zero, List.setIfInBounds_toArray, List.set_cons_zero, List.set_cons_succ]
            refine wpAnyH_take (i := 3) (oi := _) (v := ?_) rfl (by kernel_rfl) (by kernel_rfl) (by kernel_rfl) (fun _ _ _ h => h) (Or.inl ⟨by rfl, ?_⟩) (by assumption) ?_
            (rotate_left); (focus (intro wv hSw; (obtain ⟨qC, qD, qE, qB⟩ := hSw);  go_simp; (try with_reducible rfl)))
            try simp only [Act.put, List.getElem_toArray, List.getElem_cons_succ, List.getElem_cons_zero, List.setIfInBounds_toArray, List.set_cons_zero, List.set_cons_succ]
            refine wpAnyH_take (i := 4) (oi := _) (v := ?_) rfl (by kernel_rfl) (by kernel_rfl) (by kernel_rfl) (fun _ _ _ h => h) (Or.inl ⟨by rfl, ?_⟩) (by assumption) ?_
            (rotate_left); (focus (intro wv hSw; (obtain ⟨qC, qD, qE, qB⟩ := hSw);  go_simp; (try with_reducible rfl)))
            try simp only [Act.put, List.getElem_toArray, List.getElem_cons_succ, List.getElem_cons_zero, List.setIfInBounds_toArray, List.set_cons_zero, List.set_cons_succ]
            refine wpAnyH_take (i := 5) (oi := _) (v := ?_) rfl (by kernel_rfl) (by kernel_rfl) (by kernel_rfl) (fun _ _ _ h => h) (Or.inl ⟨by rfl, ?_⟩) (by assumption) ?_
            (rotate_left); (focus (intro wv hSw; (obtain ⟨qC, qD, qE, qB⟩ := hSw);  go_simp; (try with_reducible rfl)))
            try simp only [Act.put, List.getElem_toArray, List.getElem_cons_succ, List.getElem_cons_zero, List.setIfInBounds_toArray, List.set_cons_zero, List.set_cons_succ]
            refine wpAnyH_take (i := 6) (oi := _) (v := ?_) rfl (by kernel_rfl) (by kernel_rfl) (by kernel_rfl) (fun _ _ _ h => h) (Or.inl ⟨by rfl, ?_⟩) (by assumption) ?_
            (rotate_left); (focus (intro wv hSw; (obtain ⟨qC, qD, qE, qB⟩ := hSw);  go_simp; (try with_reducible rfl)))
            try simp only [Act.put, List.getElem_toArray, List.getElem_cons_succ, List.getElem_cons_zero, List.setIfInBounds_toArray, List.set_cons_zero, List.set_cons_succ]
            refine wpAnyH_take (i := 7) (oi := _) (v := ?_) rfl (by kernel_rfl) (by kernel_rfl) (by kernel_rfl) (fun _ _ _ h => h) (Or.inl ⟨by rfl, ?_⟩) (by assumption) ?_
            (rotate_left); (focus (intro wv hSw; (obtain ⟨qC, qD, qE, qB⟩ := hSw);  go_simp; (try with_reducible rfl)))
            try simp only [Act.put, List.getElem_toArray, List.getElem_cons_succ, List.getElem_cons_zero, List.setIfInBounds_toArray, List.set_cons_zero, List.set_cons_succ]
            refine wpAnyH_take (i := 8) (oi := _) (v := ?_) rfl (by kernel_rfl) (by kernel_rfl) (by kernel_rfl) (fun _ _ _ h => h) (Or.inl ⟨by rfl, ?_⟩) (by assumption) ?_
            (rotate_left); (focus (intro wv hSw; (obtain ⟨qC, qD, qE, qB⟩ := hSw);  go_simp; (try with_reducible rfl)))
            try simp only [Act.put, List.getElem_toArray, List.getElem_cons_succ, List.getElem_cons_zero, List.setIfInBounds_toArray, List.set_cons_zero, List.set_cons_succ]
            refine wpAnyH_take (i := 9) (oi := _) (v := ?_) rfl (by kernel_rfl) (by kernel_rfl) (by kernel_rfl) (fun _ _ _ h => h) (Or.inl ⟨by rfl, ?_⟩) (by assumption) ?_
            (rotate_left); (focus (intro wv hSw; (obtain ⟨qC, qD, qE, qB⟩ := hSw);  go_simp; (try with_reducible rfl)))
            try simp only [Act.put, List.getElem_toArray, List.getElem_cons_succ, List.getElem_cons_zero, List.setIfInBounds_toArray, List.set_cons_zero, List.set_cons_succ]
            refine wpAnyH_take (i := 10) (oi := _) (v := ?_) rfl (by kernel_rfl) (by kernel_rfl) (by kernel_rfl) (fun _ _ _ h => h) (Or.inl ⟨by rfl, ?_⟩) (by assumption) ?_
            (rotate_left); (focus (intro wv hSw; (obtain ⟨qC, qD, qE, qB⟩ := hSw);  go_simp; (try with_reducible rfl)))
            try simp only [Act.put, List.getElem_toArray, List.getElem_cons_succ, List.getElem_cons_zero, List.setIfInBounds_toArray, List.set_cons_zero, List.set_cons_succ]
            refine wpAnyH_take (i := 11) (oi := _) (v := ?_) rfl (by kernel_rfl) (by kernel_rfl) (by kernel_rfl) (fun _ _ _ h => h) (Or.inl ⟨by rfl, ?_⟩) (by assumption) ?_
            (rotate_left); (focus (intro wv hSw; (obtain ⟨qC, qD, qE, qB⟩ := hSw);  go_simp; (try with_reducible rfl)))
            try simp only [Act.put, List.getElem_toArray, List.getElem_cons_succ, List.getElem_cons_zero, List.setIfInBounds_toArray, List.set_cons_zero, List.set_cons_succ]
            refine wpAnyH_take (i := 12) (oi := _) (v := ?_) rfl (by kernel_rfl) (by kernel_rfl) (by kernel_rfl) (fun _ _ _ h => h) (Or.inl ⟨by rfl, ?_⟩) (by assumption) ?_
            (rotate_left); (focus (intro wv hSw; (obtain ⟨qC, qD, qE, qB⟩ := hSw);  go_simp; (try with_reducible rfl)))
            try simp only [Act.put, List.getElem_toArray, List.getElem_cons_succ, List.getElem_cons_zero, List.setIfInBounds_toArray, List.set_cons_zero, List.set_cons_succ]
            refine wpAnyH_take (i := 13) (oi := _) (v := ?_) rfl (by kernel_rfl) (by kernel_rfl) (by kernel_rfl) (fun _ _ _ h => h) (Or.inl ⟨by rfl, ?_⟩) (by assumption) ?_
            (rotate_left); (focus (intro wv hSw; (obtain ⟨qC, qD, qE, qB⟩ := hSw);  go_simp; (try with_reducible rfl)))
            try simp only [Act.put, List.getElem_toArray, List.getElem_cons_succ, List.getElem_cons_zero, List.setIfInBounds_toArray, List.set_cons_zero, List.set_cons_succ]
            refine wpAnyH_ready (rs := [14]) (by kernel_rfl) (by simp) ?_
            refine AllReadyH.cons (o := _) rfl (fun K hK => ?_) AllReadyH.nil
            go_simp
            (go_at_call 56; refine (sIn7_bl _ HIN.out).mono ?_; rintro e x0c ⟨rfl, hw_0c⟩)
            refine hK.out _ _ ⟨celS_next hC_0 hw_0c, celS_next hD_0 hw_0c, celS_next hE_0 hw_0c, bel_next hB_0 hw_0c⟩ (fun hHeld => ?_)
            clear hK K
            try simp only [Act.put, List.getElem_toArray, List.getElem_cons_succ, List.getElem_cons_zero, List.setIfInBounds_toArray, List.set_cons_zero, List.set_cons_succ]
            obtain ⟨hC_0c, hD_0c, hE_0c, hB_0c⟩ := id hHeld
            refine wpAnyH_take (i := 15) (oi := _) (v := ?_) rfl (by kernel_rfl) (by kernel_rfl) (by kernel_rfl) (fun _ _ _ h => h) (Or.inl ⟨by rfl, ?_⟩) (by assumption) ?_
            (rotate_left); (focus (intro wv hSw; (obtain ⟨qC, qD, qE, qB⟩ := hSw);  go_simp; (try with_reducible rfl)))
            try simp only [Act.put, List.getElem_toArray, List.getElem_cons_succ, List.getElem_cons_zero, List.setIfInBounds_toArray, List.set_cons_zero, List.set_cons_succ]
            refine wpAnyH_done (by kernel_rfl) ?_ _
            have hBq := hB_0c
            clear hB_0
            obtain ⟨wo, hwo⟩ : ∃ wo : World, wo = x0c := ⟨_, rfl⟩
            go_wp2_with fail
            go_loopw [7, 8] (fun nv v wr => ∃ (j q : Nat), v = .int .i64 j ∧ j ≤ k + 1 ∧ q ≤ j ∧ nv = .int .i64 q ∧ Hid ((hs.take j).count x = q) ∧ Below w.heap.size w wr) (fun _ v _ => (k + 1 - intOf v).toNat)
            case atStart => exact ⟨0, 0, rfl, by omega, by omega, rfl, (by show _ = _; rfl), hBq⟩
            case round =>
              obtain ⟨j, q, rfl, j1, qj, rfl, HQ, hBj⟩ := hrel
              by_cases hlj : j ≤ k
              · have hj2 : j < hs.length := by omega
                have hji : (j : Int) ≤ (k : Int) := by omega
                have hjm : (j : Int) < (m : Int) := by omega
                obtain ⟨b3, off3, e3, _, f0⟩ := rowNum (h2.next hBj) hj2
                simp only [Option.some.injEq, Addr.mk.injEq, and_true] at e3
                obtain ⟨rfl, rfl⟩ := e3
                obtain ⟨b4, off4, e4, _, g0⟩ := rowNum (h2.next hBj) hk2
                simp only [Option.some.injEq, Addr.mk.injEq, and_true] at e4
                obtain ⟨rfl, rfl⟩ := e4
                rw [HX.out] at g0
                have HC := Lib.hid (ct_step7 hj2 x)
                rw [HQ.out] at HC
                generalize hs[j] = y at f0 HC
                by_cases hyx : y = x
                · have HC2 := Lib.hid (HC.out.trans (by rw [if_pos hyx]))
                  have hbb : (y == x) = true := by rw [beq_iff_eq]; exact hyx
                  have HB9 := Lib.hid hbb
                  clear hyx
                  have HYX : Hid (y = x) := Lib.hid (by rwa [beq_iff_eq] at hbb)
                  clear hbb
                  have hbd : decide (y = x) = true := decide_eq_true HYX.out
                  have hbb := HB9.out
                  go_wp2_with fail
                  refine wp_region_held_drew (S := (fun w' => w'.cell? ⟨b2, off2 + j, none⟩ = some (.int .i64 y) ∧ w'.cell? ⟨b2, off2 + k, none⟩ = some (.int .i64 x) ∧ Below w.heap.size w w')) (by kernel_rfl) ⟨f0, g0, hBj.drew⟩ (fun hHeld => ?_)
                  obtain ⟨hC_0, hD_0, hB_0⟩ := id hHeld
                  refine wpAnyH_take (i := 0) (oi := _) (v := ?_) rfl (by kernel_rfl) (by kernel_rfl) (by kernel_rfl) (fun _ _ _ h => h) (Or.inl ⟨by rfl, ?_⟩) (by assumption) ?_
                  (rotate_left); (focus (intro wv hSw; (obtain ⟨qC, qD, qB⟩ := hSw);  go_simp; (try with_reducible rfl)))
                  try simp only [Act.put, List.getElem_toArray, List.getElem_cons_succ, List.getElem_cons_zero, List.setIfInBounds_toArray, List.set_cons_zero, List.set_cons_succ]
                  refine wpAnyH_take (i := 1) (oi := _) (v := ?_) rfl (by kernel_rfl) (by kernel_rfl) (by kernel_rfl) (fun _ _ _ h => h) (Or.inl ⟨by rfl, ?_⟩) (by assumption) ?_
                  (rotate_left); (focus (intro wv hSw; (obtain ⟨qC, qD, qB⟩ := hSw);  go_simp; (try with_reducible rfl)))
                  try simp only [Act.put, List.getElem_toArray, List.getElem_cons_succ, List.getElem_cons_zero, List.setIfInBounds_toArray, List.set_cons_zero, List.set_cons_succ]
                  refine wpAnyH_take (i := 2) (oi := _) (v := ?_) rfl (by kernel_rfl) (by kernel_rfl) (by kernel_rfl) (fun _ _ _ h => h) (Or.inl ⟨by rfl, ?_⟩) (by assumption) ?_
                  (rotate_left); (focus (intro wv hSw; (obtain ⟨qC, qD, qB⟩ := hSw);  go_simp; (try with_reducible rfl)))
                  try simp only [Act.put, List.getElem_toArray, List.getElem_cons_succ, List.getElem_cons_zero, List.setIfInBounds_toArray, List.set_cons_zero, List.set_cons_succ]
                  refine wpAnyH_take (i := 3) (oi := _) (v := ?_) rfl (by kernel_rfl) (by kernel_rfl) (by kernel_rfl) (fun _ _ _ h => h) (Or.inl ⟨by rfl, ?_⟩) (by assumption) ?_
                  (rotate_left); (focus (intro wv hSw; (obtain ⟨qC, qD, qB⟩ := hSw);  go_simp; (try with_reducible rfl)))
                  try simp only [Act.put, List.getElem_toArray, List.getElem_cons_succ, List.getElem_cons_zero, List.setIfInBounds_toArray, List.set_cons_zero, List.set_cons_succ]
                  refine wpAnyH_take (i := 4) (oi := _) (v := ?_) rfl (by kernel_rfl) (by kernel_rfl) (by kernel_rfl) (fun _ _ _ h => h) (Or.inl ⟨by rfl, ?_⟩) (by assumption) ?_
                  (rotate_left); (focus (intro wv hSw; (obtain ⟨qC, qD, qB⟩ := hSw);  go_simp; (try with_reducible rfl)))
                  try simp only [Act.put, List.getElem_toArray, List.getElem_cons_succ, List.getElem_cons_zero, List.setIfInBounds_toArray, List.set_cons_zero, List.set_cons_succ]
                  refine wpAnyH_take (i := 5) (oi := _) (v := ?_) rfl (by kernel_rfl) (by kernel_rfl) (by kernel_rfl) (fun _ _ _ h => h) (Or.inl ⟨by rfl, ?_⟩) (by assumption) ?_
                  (rotate_left); (focus (intro wv hSw; (obtain ⟨qC, qD, qB⟩ := hSw);  go_simp; (try with_reducible rfl)))
                  try simp only [Act.put, List.getElem_toArray, List.getElem_cons_succ, List.getElem_cons_zero, List.setIfInBounds_toArray, List.set_cons_zero, List.set_cons_succ]
                  refine wpAnyH_take (i := 6) (oi := _) (v := ?_) rfl (by kernel_rfl) (by kernel_rfl) (by kernel_rfl) (fun _ _ _ h => h) (Or.inl ⟨by rfl, ?_⟩) (by assumption) ?_
                  (rotate_left); (focus (intro wv hSw; (obtain ⟨qC, qD, qB⟩ := hSw);  go_simp; (try with_reducible rfl)))
                  try simp only [Act.put, List.getElem_toArray, List.getElem_cons_succ, List.getElem_cons_zero, List.setIfInBounds_toArray, List.set_cons_zero, List.set_cons_succ]
                  refine wpAnyH_take (i := 7) (oi := _) (v := ?_) rfl (by kernel_rfl) (by kernel_rfl) (by kernel_rfl) (fun _ _ _ h => h) (Or.inl ⟨by rfl, ?_⟩) (by assumption) ?_
                  (rotate_left); (focus (intro wv hSw; (obtain ⟨qC, qD, qB⟩ := hSw);  go_simp; (try with_reducible rfl)))
                  try simp only [Act.put, List.getElem_toArray, List.getElem_cons_succ, List.getElem_cons_zero, List.setIfInBounds_toArray, List.set_cons_zero, List.set_cons_succ]
                  refine wpAnyH_take (i := 8) (oi := _) (v := ?_) rfl (by kernel_rfl) (by kernel_rfl) (by kernel_rfl) (fun _ _ _ h => h) (Or.inl ⟨by rfl, ?_⟩) (by assumption) ?_
                  (rotate_left); (focus (intro wv hSw; (obtain ⟨qC, qD, qB⟩ := hSw);  go_simp; (try with_reducible rfl)))
                  try simp only [Act.put, List.getElem_toArray, List.getElem_cons_succ, List.getElem_cons_zero, List.setIfInBounds_toArray, List.set_cons_zero, List.set_cons_succ]
                  refine wpAnyH_done (by kernel_rfl) ?_ _
                  go_wp2_with fail
                  go_roundw
                  case rel => exact ⟨j + 1, q + 1, by go_num, by omega, by omega, by first | rfl | go_num, HC2, hB_0⟩
                  case measure => simp [intOf]; omega
                · have HC2 := Lib.hid (HC.out.trans (by rw [if_neg hyx] <;> rfl))
                  have hbb : (y == x) = false := by rw [beq_eq_false_iff_ne]; exact hyx
                  go_wp2_with fail
                  refine wp_region_held_drew (S := (fun w' => w'.cell? ⟨b2, off2 + j, none⟩ = some (.int .i64 y) ∧ w'.cell? ⟨b2, off2 + k, none⟩ = some (.int .i64 x) ∧ Below w.heap.size w w')) (by kernel_rfl) ⟨f0, g0, hBj.drew⟩ (fun hHeld => ?_)
                  obtain ⟨hC_0, hD_0, hB_0⟩ := id hHeld
                  refine wpAnyH_take (i := 0) (oi := _) (v := ?_) rfl (by kernel_rfl) (by kernel_rfl) (by kernel_rfl) (fun _ _ _ h => h) (Or.inl ⟨by rfl, ?_⟩) (by assumption) ?_
                  (rotate_left); (focus (intro wv hSw; (obtain ⟨qC, qD, qB⟩ := hSw);  go_simp; (try with_reducible rfl)))
                  try simp only [Act.put, List.getElem_toArray, List.getElem_cons_succ, List.getElem_cons_zero, List.setIfInBounds_toArray, List.set_cons_zero, List.set_cons_succ]
                  refine wpAnyH_take (i := 1) (oi := _) (v := ?_) rfl (by kernel_rfl) (by kernel_rfl) (by kernel_rfl) (fun _ _ _ h => h) (Or.inl ⟨by rfl, ?_⟩) (by assumption) ?_
                  (rotate_left); (focus (intro wv hSw; (obtain ⟨qC, qD, qB⟩ := hSw);  go_simp; (try with_reducible rfl)))
                  try simp only [Act.put, List.getElem_toArray, List.getElem_cons_succ, List.getElem_cons_zero, List.setIfInBounds_toArray, List.set_cons_zero, List.set_cons_succ]
                  refine wpAnyH_take (i := 2) (oi := _) (v := ?_) rfl (by kernel_rfl) (by kernel_rfl) (by kernel_rfl) (fun _ _ _ h => h) (Or.inl ⟨by rfl, ?_⟩) (by assumption) ?_
                  (rotate_left); (focus (intro wv hSw; (obtain ⟨qC, qD, qB⟩ := hSw);  go_simp; (try with_reducible rfl)))
                  try simp only [Act.put, List.getElem_toArray, List.getElem_cons_succ, List.getElem_cons_zero, List.setIfInBounds_toArray, List.set_cons_zero, List.set_cons_succ]
                  refine wpAnyH_take (i := 3) (oi := _) (v := ?_) rfl (by kernel_rfl) (by kernel_rfl) (by kernel_rfl) (fun _ _ _ h => h) (Or.inl ⟨by rfl, ?_⟩) (by assumption) ?_
                  (rotate_left); (focus (intro wv hSw; (obtain ⟨qC, qD, qB⟩ := hSw);  go_simp; (try with_reducible rfl)))
                  try simp only [Act.put, List.getElem_toArray, List.getElem_cons_succ, List.getElem_cons_zero, List.setIfInBounds_toArray, List.set_cons_zero, List.set_cons_succ]
                  refine wpAnyH_take (i := 4) (oi := _) (v := ?_) rfl (by kernel_rfl) (by kernel_rfl) (by kernel_rfl) (fun _ _ _ h => h) (Or.inl ⟨by rfl, ?_⟩) (by assumption) ?_
                  (rotate_left); (focus (intro wv hSw; (obtain ⟨qC, qD, qB⟩ := hSw);  go_simp; (try with_reducible rfl)))
                  try simp only [Act.put, List.getElem_toArray, List.getElem_cons_succ, List.getElem_cons_zero, List.setIfInBounds_toArray, List.set_cons_zero, List.set_cons_succ]
                  refine wpAnyH_take (i := 5) (oi := _) (v := ?_) rfl (by kernel_rfl) (by kernel_rfl) (by kernel_rfl) (fun _ _ _ h => h) (Or.inl ⟨by rfl, ?_⟩) (by assumption) ?_
                  (rotate_left); (focus (intro wv hSw; (obtain ⟨qC, qD, qB⟩ := hSw);  go_simp; (try with_reducible rfl)))
                  try simp only [Act.put, List.getElem_toArray, List.getElem_cons_succ, List.getElem_cons_zero, List.setIfInBounds_toArray, List.set_cons_zero, List.set_cons_succ]
                  refine wpAnyH_take (i := 6) (oi := _) (v := ?_) rfl (by kernel_rfl) (by kernel_rfl) (by kernel_rfl) (fun _ _ _ h => h) (Or.inl ⟨by rfl, ?_⟩) (by assumption) ?_
                  (rotate_left); (focus (intro wv hSw; (obtain ⟨qC, qD, qB⟩ := hSw);  go_simp; (try with_reducible rfl)))
                  try simp only [Act.put, List.getElem_toArray, List.getElem_cons_succ, List.getElem_cons_zero, List.setIfInBounds_toArray, List.set_cons_zero, List.set_cons_succ]
                  refine wpAnyH_take (i := 7) (oi := _) (v := ?_) rfl (by kernel_rfl) (by kernel_rfl) (by kernel_rfl) (fun _ _ _ h => h) (Or.inl ⟨by rfl, ?_⟩) (by assumption) ?_
                  (rotate_left); (focus (intro wv hSw; (obtain ⟨qC, qD, qB⟩ := hSw);  go_simp; (try with_reducible rfl)))
                  try simp only [Act.put, List.getElem_toArray, List.getElem_cons_succ, List.getElem_cons_zero, List.setIfInBounds_toArray, List.set_cons_zero, List.set_cons_succ]
                  refine wpAnyH_take (i := 8) (oi := _) (v := ?_) rfl (by kernel_rfl) (by kernel_rfl) (by kernel_rfl) (fun _ _ _ h => h) (Or.inl ⟨by rfl, ?_⟩) (by assumption) ?_
                  (rotate_left); (focus (intro wv hSw; (obtain ⟨qC, qD, qB⟩ := hSw);  go_simp; (try with_reducible rfl)))
                  try simp only [Act.put, List.getElem_toArray, List.getElem_cons_succ, List.getElem_cons_zero, List.setIfInBounds_toArray, List.set_cons_zero, List.set_cons_succ]
                  refine wpAnyH_done (by kernel_rfl) ?_ _
                  go_wp2_with fail
                  go_roundw
                  case rel => exact ⟨j + 1, q, by go_num, by omega, by omega, by first | rfl | go_num, HC2, hB_0⟩
                  case measure => simp [intOf]; omega
              · have hji : ¬ (j : Int) ≤ (k : Int) := by omega
                obtain rfl : j = k + 1 := by omega
                have hpq := HPS.out
                rw [HQ.out] at hpq
                have HPQ := Lib.hid hpq
                rw [HQ.out] at hcl
                clear hpq
                have HKK := HKN
                by_cases hm9 : p < (q : Int)
                · have HX2 := Lib.hid (HPQ.out.trans (show max p (q : Int) = (q : Int) by omega))
                  go_wp2_with fail
                  go_roundw
                  case rel => exact ⟨k + 1, (q : Int), by go_num, by omega, (by first | rfl | rw [if_pos hm9] | rw [if_neg hm9] | simp [hm9]), HX2, HKK, hBj⟩
                  case measure => simp [intOf]; omega
                · have HX2 := Lib.hid (HPQ.out.trans (show max p (q : Int) = p by omega))
                  go_wp2_with fail
                  go_roundw
                  case rel => exact ⟨k + 1, p, by go_num, by omega, (by first | rfl | rw [if_pos hm9] | rw [if_neg hm9] | simp [hm9]), HX2, HKK, hBj⟩
                  case measure => simp [intOf]; omega
        · obtain rfl : k = m := by omega
          have hki : ¬ (k : Int) < (k : Int) := by omega
          obtain rfl : r = p := by rw [HYes.out HK.out, HP.out]
          go_wp2_with fail
          go_ret
          exact ⟨rfl, hB⟩
    · obtain rfl : r = -1 := by rw [← hr]; exact lpI_no2 (by rw [hm, hn]; exact he)
      have hne : ((m : Int) == (n : Int)) = false := by rw [beq_eq_false_iff_ne]; omega
      clear hr
      have HN := Lib.hid hn
      have HM := Lib.hid hm
      clear hn hm
      have HV := Lib.hid hv
      clear hv
      go_enter Try.func36, Try.ntmps36
      go_wp2_with fail
      refine (sLv_is A cap xs _ HN.out h hl HV.out).mono ?_; rintro E w1 ⟨rfl, hB1⟩
      go_wp2
      go_ret
      exact ⟨rfl, hB1⟩
set_option maxHeartbeats 4000000 in
theorem maxN7 (A : Option Addr) (cap : Nat) (xs : List Int) {n : Nat} (w : World) (hn : xs.length = n) (h : SRow encNum w A xs) (hl : n ≤ 2000000) (h0 : 0 < n) (hp : ∀ x ∈ xs, 0 ≤ x) :
    Calls Try.prog 68 #[.slice A n cap] w fun E w' => E = .returned (.int .i64 (mx xs)) ∧ Below w.heap.size w w' := by
  have HN := Lib.hid hn
  have HP := Lib.hid hp
  clear hn hp
  have hk0 : 0 < xs.length := by rw [HN.out]; exact h0
  obtain ⟨b, off, rfl, hb, c0⟩ := rowNum h hk0
  have hx0 := HP.out xs[0] (List.getElem_mem hk0)
  have HM0 : Hid (mx (xs.take 1) = xs[0]) := Lib.hid (by rw [mx_step7 hk0 hx0]; simp [mx]; omega)
  rw [Nat.add_zero] at c0
  generalize xs[0] = x0 at c0 hx0 HM0
  have hn1 : ¬ (n : Int) < 1 := by omega
  have hn2 : (0 : Int) < (n : Int) := by omega
  go_enter Try.func68, Try.ntmps68
  go_wp2_with fail
  go_loopw [3, 4] (fun mv v wr => ∃ (k : Nat) (p : Int), v = .int .i64 k ∧ k ≤ n ∧ 1 ≤ k ∧ mv = .int .i64 p ∧ Hid (mx (xs.take k) = p) ∧ Below w.heap.size w wr) (fun _ v _ => (n - intOf v).toNat)
  case atStart => exact ⟨1, x0, rfl, by omega, by omega, rfl, HM0, Below.refl _ _⟩
  case round =>
    obtain ⟨k, p, rfl, k1, k2, rfl, HK, hB⟩ := hrel
    by_cases hlt : k < n
    · have hk : k < xs.length := by rw [HN.out]; exact hlt
      have hki : (k : Int) < (n : Int) := by omega
      obtain ⟨b3, off3, e3, _, d0⟩ := rowNum (h.next hB) hk
      simp only [Option.some.injEq, Addr.mk.injEq, and_true] at e3
      obtain ⟨rfl, rfl⟩ := e3
      have HS := Lib.hid (mx_step7 hk (HP.out xs[k] (List.getElem_mem hk)))
      rw [HK.out] at HS
      generalize xs[k] = x at d0 HS
      by_cases hm9 : p < x
      · have HX := Lib.hid (HS.out.trans (show max p x = x by omega))
        go_wp2_with fail
        go_roundw
        case rel => exact ⟨k + 1, x, by go_num, by omega, by omega, (by first | rfl | rw [if_pos hm9] | rw [if_neg hm9]), HX, hB⟩
        case measure => simp [intOf]; omega
      · have HX := Lib.hid (HS.out.trans (show max p x = p by omega))
        go_wp2_with fail
        go_roundw
        case rel => exact ⟨k + 1, p, by go_num, by omega, by omega, (by first | rfl | rw [if_pos hm9] | rw [if_neg hm9]), HX, hB⟩
        case measure => simp [intOf]; omega
    · obtain rfl : k = n := by omega
      have hki : ¬ (k : Int) < (k : Int) := by omega
      go_wp2_with fail
      go_ret
      exact ⟨ret_int (by rw [← HK.out, List.take_of_length_le (by rw [HN.out]; omega)]), hB⟩
theorem cts_nn7 {hs : List Int} {k : Nat} {x : Int} (h : x ∈ cts hs k) : 0 ≤ x := by
  unfold cts at h
  obtain ⟨c, _, rfl⟩ := List.mem_map.1 h
  omega
theorem iIn7_bl {n a b : Int} {r : Bool} (w : World) (h_ : inV n a b = r) : Calls Try.prog 59 #[.int .i64 n, .int .i64 a, .int .i64 b] w fun E w' => E = .returned (.bool r) ∧ Below w.heap.size w w' := (iIn7_is w h_).mono fun _ _ h => ⟨h.1, h.2 ▸ Below.refl _ _⟩
set_option maxRecDepth 100000 in
set_option maxHeartbeats 2000000 in
theorem iLp_is (A A2 : Option Addr) (cap cap2 : Nat) (xs : List VLoad) (hs : List Int) {n m : Nat} {r : Int} (w : World) (hn : xs.length = n) (h : SRow encLoad w A xs) (hl : n ≤ 2000000) (hm : hs.length = m) (h2 : SRow encNum w A2 hs) (hl2 : m ≤ 2000000) (hr : lpI xs hs = r) :
    Calls Try.prog 35 #[.slice A n cap, .slice A2 m cap2] w fun E w' => E = .returned (.int .i64 r) ∧ Below w.heap.size w w' := by
  cases hv : ldB xs
  · obtain rfl : r = -1 := by rw [← hr]; exact lpI_no1 hv
    clear hr
    have HN := Lib.hid hn
    have HM := Lib.hid hm
    clear hn hm
    have HV := Lib.hid hv
    clear hv
    go_enter Try.func35, Try.ntmps35
    go_wp2_with fail
    refine (iLv_is A cap xs _ HN.out h hl HV.out).mono ?_; rintro E w1 ⟨rfl, hB1⟩
    go_wp2
    go_ret
    exact ⟨rfl, hB1⟩
  · by_cases he : m = n
    · subst he
      have hm7 : m ≤ 7 := by have := (ldB_iff.1 hv).1; omega
      have HNo : Hid (inK xs hs m = false → r = -1) := Lib.hid (fun h9 => by rw [← hr]; exact lpI_no3 (by rw [hm]; exact h9))
      have HYes : Hid (inK xs hs m = true → r = pkK hs m) := Lib.hid (fun h9 => by rw [← hr, ← hm]; exact lpI_yes hv (by rw [hm, hn]) (by rw [hm]; exact h9))
      have HBD : Hid (inK xs hs m = true → ∀ x ∈ hs, 0 ≤ x ∧ x ≤ 9) := Lib.hid (fun h9 => in_all7 hv (by rw [hm, hn]) (by rw [hm]; exact h9))
      clear hr
      have HN := Lib.hid hn
      have HM := Lib.hid hm
      clear hn hm
      have HV := Lib.hid hv
      clear hv
      go_enter Try.func35, Try.ntmps35
      go_wp2_with fail
      refine (iLv_is A cap xs _ HN.out h hl HV.out).mono ?_; rintro E w1 ⟨rfl, hB1⟩
      go_wp2_with fail
      go_loopw [20] (fun v wr => ∃ (k : Nat), v = .int .i64 k ∧ k ≤ m ∧ Hid (inK xs hs k = true) ∧ SBlk encNum wr w1.heap.size 81 (cts hs k) ∧ Below w.heap.size w wr) (fun v _ => (m - intOf v).toNat)
      case atStart => exact ⟨0, rfl, by omega, (by show _ = _; rfl), (by rw [cts_zero]; exact blk_new w1 _), hB1.alloc hB1.size _⟩
      case round =>
        obtain ⟨k, rfl, k1, HK, hT, hB⟩ := hrel
        by_cases hlt : k < m
        · have hk : k < xs.length := by rw [HN.out]; exact hlt
          have hk2 : k < hs.length := by rw [HM.out]; exact hlt
          have hki : (k : Int) < (m : Int) := by omega
          obtain ⟨b, off, rfl, hb, c0, c1⟩ := rowLoad (h.next hB) hk
          obtain ⟨b2, off2, rfl, hb2, d0⟩ := rowNum (h2.next hB) hk2
          have HI1 := Lib.hid (in_step7 (xs := xs) (hs := hs) hk hk2 HK.out)
          have HI2 := Lib.hid (in_bad7 (xs := xs) (hs := hs) hk hk2)
          rw [HM.out] at HI2
          have hld := ldV_iff.1 ((ldB_iff.1 HV.out).2 xs[k] (List.getElem_mem hk))
          obtain ⟨l0, l1, l2⟩ := hld
          obtain ⟨x, hx9⟩ : ∃ x, hs[k] = x := ⟨_, rfl⟩
          rw [hx9] at d0 HI1 HI2
          have HX := Lib.hid hx9
          clear hx9
          generalize xs[k].1 = g at c0 HI1 HI2 l0 l1
          generalize xs[k].2 = d at c1 HI1 HI2 l1 l2
          have hz0 := hB.size
          have hTl := hT.lt
          cases hin : inV x g d
          · obtain rfl : r = -1 := HNo.out (HI2.out (by unfold inV at hin; simpa using hin))
            have HIN := Lib.hid hin
            clear hin
            have hC9 : (wr.alloc (.cells #[.int .i64 g, .int .i64 d] 72)).cell? ⟨b2, off2 + k, none⟩ = some (.int .i64 x) := celS_next d0 (bel1 wr _)
            have hT9 : SBlk encNum (wr.alloc (.cells #[.int .i64 g, .int .i64 d] 72)) w1.heap.size 81 (cts hs k) := hT.next (bel1 wr _)
            go_wp2_with fail
            refine wp_region_held_drew (S := (fun w' => w'.cell? ⟨b2, off2 + k, none⟩ = some (.int .i64 x) ∧ w'.heap[wr.heap.size]? = some (.cells #[.int .i64 g, .int .i64 d] 72 (0, 0)) ∧ SBlk encNum w' w1.heap.size 81 (cts hs k) ∧ Below w.heap.size w w')) (by kernel_rfl) ⟨hC9, blk_new wr (.cells #[.int .i64 g, .int .i64 d] 72), hT9, (hB.alloc hB.size (.cells #[.int .i64 g, .int .i64 d] 72)).drew⟩ (fun hHeld => ?_)
            obtain ⟨hC_0, hP_0, hT_0, hB_0⟩ := id hHeld
            refine wpAnyH_take (i := 0) (oi := _) (v := ?_) rfl (by kernel_rfl) (by kernel_rfl) (by kernel_rfl) (fun _ _ _ h => h) (Or.inl ⟨by rfl, ?_⟩) (by assumption) ?_
            (rotate_left); (focus (intro wv hSw; (obtain ⟨qC, qP, qT, qB⟩ := hSw); obtain ⟨u0, u1, _, _, _⟩ := blk2 qP; go_simp; (try with_reducible rfl)))
            try simp only [Act.put, List.getElem_toArray, List.getElem_cons_succ, List.getElem_cons_zero, List.setIfInBounds_toArray, List.set_cons_zero, List.set_cons_succ]
            refine wpAnyH_take (i := 1) (oi := _) (v := ?_) rfl (by kernel_rfl) (by kernel_rfl) (by kernel_rfl) (fun _ _ _ h => h) (Or.inl ⟨by rfl, ?_⟩) (by assumption) ?_
            (rotate_left); (focus (intro wv hSw; (obtain ⟨qC, qP, qT, qB⟩ := hSw); obtain ⟨u0, u1, _, _, _⟩ := blk2 qP; go_simp; (try with_reducible rfl)))
            try simp only [Act.put, List.getElem_toArray, List.getElem_cons_succ, List.getElem_cons_zero, List.setIfInBounds_toArray, List.set_cons_zero, List.set_cons_succ]
            refine wpAnyH_take (i := 2) (oi := _) (v := ?_) rfl (by kernel_rfl) (by kernel_rfl) (by kernel_rfl) (fun _ _ _ h => h) (Or.inl ⟨by rfl, ?_⟩) (by assumption) ?_
            (rotate_left); (focus (intro wv hSw; (obtain ⟨qC, qP, qT, qB⟩ := hSw); obtain ⟨u0, u1, _, _, _⟩ := blk2 qP; go_simp; (try with_reducible rfl)))
            try simp only [Act.put, List.getElem_toArray, List.getElem_cons_succ, List.getElem_cons_zero, List.setIfInBounds_toArray, List.set_cons_zero, List.set_cons_succ]
            refine wpAnyH_take (i := 3) (oi := _) (v := ?_) rfl (by kernel_rfl) (by kernel_rfl) (by kernel_rfl) (fun _ _ _ h => h) (Or.inl ⟨by rfl, ?_⟩) (by assumption) ?_
            (rotate_left); (focus (intro wv hSw; (obtain ⟨qC, qP, qT, qB⟩ := hSw); obtain ⟨u0, u1, _, _, _⟩ := blk2 qP; go_simp; (try with_reducible rfl)))
            try simp only [Act.put, List.getElem_toArray, List.getElem_cons_succ, List.getElem_cons_zero, List.setIfInBounds_toArray, List.set_cons_zero, List.set_cons_succ]
            refine wpAnyH_take (i := 4) (oi := _) (v := ?_) rfl (by kernel_rfl) (by kernel_rfl) (by kernel_rfl) (fun _ _ _ h => h) (Or.inl ⟨by rfl, ?_⟩) (by assumption) ?_
            (rotate_left); (focus (intro wv hSw; (obtain ⟨qC, qP, qT, qB⟩ := hSw); obtain ⟨u0, u1, _, _, _⟩ := blk2 qP; go_simp; (try with_reducible rfl)))
            try simp only [Act.put, List.getElem_toArray, List.getElem_cons_succ, List.getElem_cons_zero, List.setIfInBounds_toArray, List.set_cons_zero, List.set_cons_succ]
            refine wpAnyH_take (i := 5) (oi := _) (v := ?_) rfl (by kernel_rfl) (by kernel_rfl) (by kernel_rfl) (fun _ _ _ h => h) (Or.inl ⟨by rfl, ?_⟩) (by assumption) ?_
            (rotate_left); (focus (intro wv hSw; (obtain ⟨qC, qP, qT, qB⟩ := hSw); obtain ⟨u0, u1, _, _, _⟩ := blk2 qP; go_simp; (try with_reducible rfl)))
            try simp only [Act.put, List.getElem_toArray, List.getElem_cons_succ, List.getElem_cons_zero, List.setIfInBounds_toArray, List.set_cons_zero, List.set_cons_succ]
            refine wpAnyH_take (i := 6) (oi := _) (v := ?_) rfl (by kernel_rfl) (by kernel_rfl) (by kernel_rfl) (fun _ _ _ h => h) (Or.inl ⟨by rfl, ?_⟩) (by assumption) ?_
            (rotate_left); (focus (intro wv hSw; (obtain ⟨qC, qP, qT, qB⟩ := hSw); obtain ⟨u0, u1, _, _, _⟩ := blk2 qP; go_simp; (try with_reducible rfl)))
            try simp only [Act.put, List.getElem_toArray, List.getElem_cons_succ, List.getElem_cons_zero, List.setIfInBounds_toArray, List.set_cons_zero, List.set_cons_succ]
            refine wpAnyH_take (i := 7) (oi := _) (v := ?_) rfl (by kernel_rfl) (by kernel_rfl) (by kernel_rfl) (fun _ _ _ h => h) (Or.inl ⟨by rfl, ?_⟩) (by assumption) ?_
            (rotate_left); (focus (intro wv hSw; (obtain ⟨qC, qP, qT, qB⟩ := hSw); obtain ⟨u0, u1, _, _, _⟩ := blk2 qP; go_simp; (try with_reducible rfl)))
            try simp only [Act.put, List.getElem_toArray, List.getElem_cons_succ, List.getElem_cons_zero, List.setIfInBounds_toArray, List.set_cons_zero, List.set_cons_succ]
            refine wpAnyH_ready (rs := [8]) (by kernel_rfl) (by simp) ?_
            refine AllReadyH.cons (o := _) rfl (fun K hK => ?_) AllReadyH.nil
            go_simp
            (go_at_call 59; refine (iIn7_bl _ HIN.out).mono ?_; rintro e x0c ⟨rfl, hw_0c⟩)
            refine hK.out _ _ ⟨celS_next hC_0 hw_0c, blk_next hP_0 hw_0c, hT_0.next hw_0c, bel_next hB_0 hw_0c⟩ (fun hHeld => ?_)
            clear hK K
            try simp only [Act.put, List.getElem_toArray, List.getElem_cons_succ, List.getElem_cons_zero, List.setIfInBounds_toArray, List.set_cons_zero, List.set_cons_succ]
            obtain ⟨hC_0c, hP_0c, hT_0c, hB_0c⟩ := id hHeld
            refine wpAnyH_take (i := 9) (oi := _) (v := ?_) rfl (by kernel_rfl) (by kernel_rfl) (by kernel_rfl) (fun _ _ _ h => h) (Or.inl ⟨by rfl, ?_⟩) (by assumption) ?_
            (rotate_left); (focus (intro wv hSw; (obtain ⟨qC, qP, qT, qB⟩ := hSw); obtain ⟨u0, u1, _, _, _⟩ := blk2 qP; go_simp; (try with_reducible rfl)))
            try simp only [Act.put, List.getElem_toArray, List.getElem_cons_succ, List.getElem_cons_zero, List.setIfInBounds_toArray, List.set_cons_zero, List.set_cons_succ]
            refine wpAnyH_done (by kernel_rfl) ?_ _
            go_wp2_with fail
            go_ret
            exact ⟨rfl, hB_0c⟩
          · have HKN := Lib.hid (HI1.out (by unfold inV at hin; simpa using hin))
            have hxg : g ≤ x ∧ x ≤ d := by unfold inV at hin; simpa using hin
            obtain ⟨xg0, xg1⟩ := hxg
            have HIN := Lib.hid hin
            clear hin HI1 HI2
            have hC9 : (wr.alloc (.cells #[.int .i64 g, .int .i64 d] 72)).cell? ⟨b2, off2 + k, none⟩ = some (.int .i64 x) := celS_next d0 (bel1 wr _)
            have hT9 : SBlk encNum (wr.alloc (.cells #[.int .i64 g, .int .i64 d] 72)) w1.heap.size 81 (cts hs k) := hT.next (bel1 wr _)
            go_wp2_with fail
            refine wp_region_held_drew (S := (fun w' => w'.cell? ⟨b2, off2 + k, none⟩ = some (.int .i64 x) ∧ w'.heap[wr.heap.size]? = some (.cells #[.int .i64 g, .int .i64 d] 72 (0, 0)) ∧ SBlk encNum w' w1.heap.size 81 (cts hs k) ∧ Below w.heap.size w w')) (by kernel_rfl) ⟨hC9, blk_new wr (.cells #[.int .i64 g, .int .i64 d] 72), hT9, (hB.alloc hB.size (.cells #[.int .i64 g, .int .i64 d] 72)).drew⟩ (fun hHeld => ?_)
            obtain ⟨hC_0, hP_0, hT_0, hB_0⟩ := id hHeld
            refine wpAnyH_take (i := 0) (oi := _) (v := ?_) rfl (by kernel_rfl) (by kernel_rfl) (by kernel_rfl) (fun _ _ _ h => h) (Or.inl ⟨by rfl, ?_⟩) (by assumption) ?_
            (rotate_left); (focus (intro wv hSw; (obtain ⟨qC, qP, qT, qB⟩ := hSw); obtain ⟨u0, u1, _, _, _⟩ := blk2 qP; go_simp; (try with_reducible rfl)))
            try simp only [Act.put, List.getElem_toArray, List.getElem_cons_succ, List.getElem_cons_zero, List.setIfInBounds_toArray, List.set_cons_zero, List.set_cons_succ]
            refine wpAnyH_take (i := 1) (oi := _) (v := ?_) rfl (by kernel_rfl) (by kernel_rfl) (by kernel_rfl) (fun _ _ _ h => h) (Or.inl ⟨by rfl, ?_⟩) (by assumption) ?_
            (rotate_left); (focus (intro wv hSw; (obtain ⟨qC, qP, qT, qB⟩ := hSw); obtain ⟨u0, u1, _, _, _⟩ := blk2 qP; go_simp; (try with_reducible rfl)))
            try simp only [Act.put, List.getElem_toArray, List.getElem_cons_succ, List.getElem_cons_zero, List.setIfInBounds_toArray, List.set_cons_zero, List.set_cons_succ]
            refine wpAnyH_take (i := 2) (oi := _) (v := ?_) rfl (by kernel_rfl) (by kernel_rfl) (by kernel_rfl) (fun _ _ _ h => h) (Or.inl ⟨by rfl, ?_⟩) (by assumption) ?_
            (rotate_left); (focus (intro wv hSw; (obtain ⟨qC, qP, qT, qB⟩ := hSw); obtain ⟨u0, u1, _, _, _⟩ := blk2 qP; go_simp; (try with_reducible rfl)))
            try simp only [Act.put, List.getElem_toArray, List.getElem_cons_succ, List.getElem_cons_zero, List.setIfInBounds_toArray, List.set_cons_zero, List.set_cons_succ]
            refine wpAnyH_take (i := 3) (oi := _) (v := ?_) rfl (by kernel_rfl) (by kernel_rfl) (by kernel_rfl) (fun _ _ _ h => h) (Or.inl ⟨by rfl, ?_⟩) (by assumption) ?_
            (rotate_left); (focus (intro wv hSw; (obtain ⟨qC, qP, qT, qB⟩ := hSw); obtain ⟨u0, u1, _, _, _⟩ := blk2 qP; go_simp; (try with_reducible rfl)))
            try simp only [Act.put, List.getElem_toArray, List.getElem_cons_succ, List.getElem_cons_zero, List.setIfInBounds_toArray, List.set_cons_zero, List.set_cons_succ]
            refine wpAnyH_take (i := 4) (oi := _) (v := ?_) rfl (by kernel_rfl) (by kernel_rfl) (by kernel_rfl) (fun _ _ _ h => h) (Or.inl ⟨by rfl, ?_⟩) (by assumption) ?_
            (rotate_left); (focus (intro wv hSw; (obtain ⟨qC, qP, qT, qB⟩ := hSw); obtain ⟨u0, u1, _, _, _⟩ := blk2 qP; go_simp; (try with_reducible rfl)))
            try simp only [Act.put, List.getElem_toArray, List.getElem_cons_succ, List.getElem_cons_zero, List.setIfInBounds_toArray, List.set_cons_zero, List.set_cons_succ]
            refine wpAnyH_take (i := 5) (oi := _) (v := ?_) rfl (by kernel_rfl) (by kernel_rfl) (by kernel_rfl) (fun _ _ _ h => h) (Or.inl ⟨by rfl, ?_⟩) (by assumption) ?_
            (rotate_left); (focus (intro wv hSw; (obtain ⟨qC, qP, qT, qB⟩ := hSw); obtain ⟨u0, u1, _, _, _⟩ := blk2 qP; go_simp; (try with_reducible rfl)))
            try simp only [Act.put, List.getElem_toArray, List.getElem_cons_succ, List.getElem_cons_zero, List.setIfInBounds_toArray, List.set_cons_zero, List.set_cons_succ]
            refine wpAnyH_take (i := 6) (oi := _) (v := ?_) rfl (by kernel_rfl) (by kernel_rfl) (by kernel_rfl) (fun _ _ _ h => h) (Or.inl ⟨by rfl, ?_⟩) (by assumption) ?_
            (rotate_left); (focus (intro wv hSw; (obtain ⟨qC, qP, qT, qB⟩ := hSw); obtain ⟨u0, u1, _, _, _⟩ := blk2 qP; go_simp; (try with_reducible rfl)))
            try simp only [Act.put, List.getElem_toArray, List.getElem_cons_succ, List.getElem_cons_zero, List.setIfInBounds_toArray, List.set_cons_zero, List.set_cons_succ]
            refine wpAnyH_take (i := 7) (oi := _) (v := ?_) rfl (by kernel_rfl) (by kernel_rfl) (by kernel_rfl) (fun _ _ _ h => h) (Or.inl ⟨by rfl, ?_⟩) (by assumption) ?_
            (rotate_left); (focus (intro wv hSw; (obtain ⟨qC, qP, qT, qB⟩ := hSw); obtain ⟨u0, u1, _, _, _⟩ := blk2 qP; go_simp; (try with_reducible rfl)))
            try simp only [Act.put, List.getElem_toArray, List.getElem_cons_succ, List.getElem_cons_zero, List.setIfInBounds_toArray, List.set_cons_zero, List.set_cons_succ]
            refine wpAnyH_ready (rs := [8]) (by kernel_rfl) (by simp) ?_
            refine AllReadyH.cons (o := _) rfl (fun K hK => ?_) AllReadyH.nil
            go_simp
            (go_at_call 59; refine (iIn7_bl _ HIN.out).mono ?_; rintro e x0c ⟨rfl, hw_0c⟩)
            refine hK.out _ _ ⟨celS_next hC_0 hw_0c, blk_next hP_0 hw_0c, hT_0.next hw_0c, bel_next hB_0 hw_0c⟩ (fun hHeld => ?_)
            clear hK K
            try simp only [Act.put, List.getElem_toArray, List.getElem_cons_succ, List.getElem_cons_zero, List.setIfInBounds_toArray, List.set_cons_zero, List.set_cons_succ]
            obtain ⟨hC_0c, hP_0c, hT_0c, hB_0c⟩ := id hHeld
            refine wpAnyH_take (i := 9) (oi := _) (v := ?_) rfl (by kernel_rfl) (by kernel_rfl) (by kernel_rfl) (fun _ _ _ h => h) (Or.inl ⟨by rfl, ?_⟩) (by assumption) ?_
            (rotate_left); (focus (intro wv hSw; (obtain ⟨qC, qP, qT, qB⟩ := hSw); obtain ⟨u0, u1, _, _, _⟩ := blk2 qP; go_simp; (try with_reducible rfl)))
            try simp only [Act.put, List.getElem_toArray, List.getElem_cons_succ, List.getElem_cons_zero, List.setIfInBounds_toArray, List.set_cons_zero, List.set_cons_succ]
            refine wpAnyH_done (by kernel_rfl) ?_ _
            obtain ⟨c, rfl⟩ : ∃ c : Nat, x = c := ⟨x.toNat, by omega⟩
            have h10 : c < (cts hs k).length := by rw [cts_len]; omega
            have e0 := blkNum hT_0c h10
            have ff := hT_0c.frozen c
            have HST := Lib.hid (cts_step (hs := hs) (k := k) (c := c) (by rw [HM.out]; exact hlt) HX.out h10)
            have hcb := cnt_le7 hs k (c : Int)
            have hca := cts_at hs k h10
            obtain ⟨v, hv9⟩ : ∃ v, (cts hs k)[c] = v := ⟨_, rfl⟩
            have HV9 := Lib.hid hv9
            rw [hv9] at e0 hca
            have v0 : 0 ≤ v := by omega
            have v1 : v ≤ 10 := by omega
            have hc10 : (c : Int) < 10 := by omega
            clear hv9 hca hcb
            have hCq := hC_0c
            have hTq := hT_0c
            have hBq := hB_0c
            clear hB_0 hC_0 hT_0 hP_0
            go_wp2_with fail
            go_roundw
            case rel => exact ⟨k + 1, by go_num, by omega, HKN, (by have := setNumB hTq c h10 (v + 1); rw [← HST.out, HV9.out]; exact this), hBq.setCell (p := ⟨w1.heap.size, c, none⟩) hB1.size _⟩
            case measure => simp [intOf]; omega
        · obtain rfl : k = m := by omega
          have hki : ¬ (k : Int) < (k : Int) := by omega
          have hmx := mx_cts (HBD.out HK.out) k (by rw [HM.out]; exact Nat.le_refl _)
          have HRR : Hid (mx (cts hs k) = r) := Lib.hid (by rw [HYes.out HK.out, hmx])
          clear hmx
          go_wp2_with fail
          refine (maxN7 (some ⟨w1.heap.size, 0, none⟩) _ (cts hs k) _ (cts_len hs k) hT.row (by omega) (by omega) (fun x hx => cts_nn7 hx)).mono ?_; rintro E w3 ⟨rfl, hw3⟩
          have hB3 := bel_next hB hw3
          go_wp2
          go_ret
          exact ⟨ret_int HRR.out, hB3⟩
    · obtain rfl : r = -1 := by rw [← hr]; exact lpI_no2 (by rw [hm, hn]; exact he)
      have hne : ((m : Int) == (n : Int)) = false := by rw [beq_eq_false_iff_ne]; omega
      clear hr
      have HN := Lib.hid hn
      have HM := Lib.hid hm
      clear hn hm
      have HV := Lib.hid hv
      clear hv
      go_enter Try.func35, Try.ntmps35
      go_wp2_with fail
      refine (iLv_is A cap xs _ HN.out h hl HV.out).mono ?_; rintro E w1 ⟨rfl, hB1⟩
      go_wp2
      go_ret
      exact ⟨rfl, hB1⟩
end Go.Proofs.Ytibpaojhjgpdaaa
