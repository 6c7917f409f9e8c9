/- Contracts of chapter 7: gaps, the store that is enough. -/
import Derived.Test.YtfgaggdiepielabZi
namespace Go.Proofs.Ytfgaggdiepielab
open Go Go.ChangeShapes Go.WideShapes Go.ChangeAt Go.RowKit
set_option linter.unusedSimpArgs false
set_option linter.unusedVariables false

set_option maxHeartbeats 4000000 in
theorem iGp_is (A : Option Addr) (cap : Nat) (xs : List VHour) {n : Nat} {r : Int} (w : World) (hn : xs.length = n) (h : SRow encHour w A xs) (hl : n ≤ 2000000) (hr : gapI xs = r) :
    Calls Try.prog 28 #[.slice A n cap] w fun E w' => E = .returned (.int .i64 r) ∧ Below w.heap.size w w' := by
  cases hv : hrB xs
  · obtain rfl : r = -1 := by rw [← hr]; exact gapI_no hv
    have HV := Lib.hid hv
    clear hv hr
    go_enter Try.func28, Try.ntmps28
    go_wp2_with fail
    refine (iHv_is A cap xs _ hn h hl HV.out).mono ?_; rintro E w1 ⟨rfl, hw1⟩
    go_wp2
    go_ret
    exact ⟨rfl, hw1⟩
  · have hr2 : gpM 0 0 xs = r := by rw [← hr]; exact (gapI_yes hv).symm
    have hn10 : n ≤ 10 := by have := (hrB_iff.1 hv).1; omega
    have HV := Lib.hid hv
    have HR := Lib.hid hr2
    have HN := Lib.hid hn
    clear hv hr hr2 hn
    go_enter Try.func28, Try.ntmps28
    go_wp2_with fail
    refine (iHv_is A cap xs _ HN.out h hl HV.out).mono ?_; rintro E w1 ⟨rfl, hB1⟩
    go_wp2_with fail
    go_loopw [3, 4, 12] (fun mv gv v wr => ∃ (k : Nat) (s t : Int), v = .int .i64 k ∧ k ≤ n ∧ gv = .int .i64 s ∧ mv = .int .i64 t ∧ Hid (gpE 0 (xs.take k) = s) ∧ Hid (gpM 0 0 (xs.take k) = t) ∧ (0 ≤ s ∧ s ≤ 20 * k) ∧ (0 ≤ t ∧ t ≤ 20 * k) ∧ Below w.heap.size w wr) (fun _ _ v _ => (n - intOf v).toNat)
    case atStart => exact ⟨0, 0, 0, rfl, by omega, rfl, rfl, (by show _ = _; rfl), (by show _ = _; rfl), by omega, by omega, hB1⟩
    case round =>
      obtain ⟨k, s, t, rfl, k1, rfl, rfl, HE, HM, ⟨s0, s1⟩, ⟨t0, t1⟩, hB⟩ := hrel
      by_cases hlt : k < n
      · have hk : k < xs.length := by rw [HN.out]; exact hlt
        have hki : (k : Int) < (n : Int) := by omega
        obtain ⟨b, off, rfl, hb, c0, c1⟩ := rowHour (h.next hB) hk
        obtain ⟨hg0, hg1, hd0, hd1⟩ := hrB_at HV.out hk
        have HE1 := Lib.hid (gpE_step hk 0)
        have HM1 := Lib.hid (gpM_step hk 0 0)
        rw [HE.out] at HE1
        rw [HM.out, HE.out] at HM1
        have hX : gpS s xs[k] = max (s + xs[k].2 - xs[k].1) 0 := rfl
        rw [hX] at HE1 HM1
        clear hX
        generalize xs[k].1 = g at c0 hg0 hg1 HE1 HM1
        generalize xs[k].2 = d at c1 hd0 hd1 HE1 HM1
        by_cases hx : s + d - g < 0
        · have hz9 : ¬ t < 0 := by omega
          go_wp2_with fail
          go_roundw
          case rel => exact ⟨k + 1, 0, t, by go_num, by omega, rfl, rfl, Lib.hid (HE1.out.trans (by omega)), Lib.hid (HM1.out.trans (by omega)), ⟨by omega, by omega⟩, ⟨by omega, by omega⟩, hB.alloc hB.size _⟩
          case measure => simp [intOf]; omega
        · by_cases hy : t < s + d - g
          · go_wp2_with fail
            go_roundw
            case rel => exact ⟨k + 1, s + d - g, s + d - g, by go_num, by omega, rfl, rfl, Lib.hid (HE1.out.trans (by omega)), Lib.hid (HM1.out.trans (by omega)), ⟨by omega, by omega⟩, ⟨by omega, by omega⟩, hB.alloc hB.size _⟩
            case measure => simp [intOf]; omega
          · go_wp2_with fail
            go_roundw
            case rel => exact ⟨k + 1, s + d - g, t, by go_num, by omega, rfl, rfl, Lib.hid (HE1.out.trans (by omega)), Lib.hid (HM1.out.trans (by omega)), ⟨by omega, by omega⟩, ⟨by omega, by omega⟩, hB.alloc hB.size _⟩
            case measure => simp [intOf]; omega
      · have hki : ¬ (k : Int) < (n : Int) := by omega
        go_wp2_with fail
        go_ret
        exact ⟨ret_int (by rw [← HM.out, ← HR.out, List.take_of_length_le (by rw [HN.out]; omega)]), hB⟩
theorem pfM_next {xs : List (Int × Int)} {k : Nat} (hk : k < xs.length) (s m : Int) : pfM s m (xs.drop k) = pfM (s + xs[k].2 - xs[k].1) (max m (s + xs[k].2 - xs[k].1)) (xs.drop (k + 1)) := by
  rw [List.drop_eq_getElem_cons hk]; rfl
theorem ssM_next {xs : List (Int × Int)} {k : Nat} (hk : k < xs.length) (m : Int) : ssM (xs.drop k) m = ssM (xs.drop (k + 1)) (pfM 0 m (xs.drop k)) := by
  rw [List.drop_eq_getElem_cons hk]; rfl
theorem ss_gap {xs : List (Int × Int)} (h : hrB xs = true) : ssM xs 0 = gpM 0 0 xs := by
  rw [ssM_gap xs 0 (Int.le_refl _)]; have := gap_bd h; omega
set_option maxRecDepth 100000 in
set_option maxHeartbeats 4000000 in
theorem sGp_is (A : Option Addr) (cap : Nat) (xs : List VHour) {n : Nat} {r : Int} (w : World) (hn : xs.length = n) (h : SRow encHour w A xs) (hl : n ≤ 2000000) (hr : gapI xs = r) :
    Calls Try.prog 30 #[.slice A n cap] w fun E w' => E = .returned (.int .i64 r) ∧ Below w.heap.size w w' := by
  cases hv : hrB xs
  · obtain rfl : r = -1 := by rw [← hr]; exact gapI_no hv
    have HV := Lib.hid hv
    clear hv hr
    go_enter Try.func30, Try.ntmps30
    go_wp2_with fail
    refine (sHv_is A cap xs _ hn h hl HV.out).mono ?_; rintro E w1 ⟨rfl, hw1⟩
    go_wp2
    go_ret
    exact ⟨rfl, hw1⟩
  · have hr2 : ssM xs 0 = r := by rw [ss_gap hv, ← hr]; exact (gapI_yes hv).symm
    have hn10 : n ≤ 10 := by have := (hrB_iff.1 hv).1; omega
    have HV := Lib.hid hv
    have HR := Lib.hid hr2
    have HN := Lib.hid hn
    clear hv hr hr2 hn
    go_enter Try.func30, Try.ntmps30
    go_wp2_with fail
    refine (sHv_is A cap xs _ HN.out h hl HV.out).mono ?_; rintro E w1 ⟨rfl, hB1⟩
    go_wp2_with fail
    go_loopw [3, 4] (fun mv v wr => ∃ (k : Nat) (t : Int), v = .int .i64 k ∧ k ≤ n ∧ mv = .int .i64 t ∧ Hid (ssM (xs.drop k) t = r) ∧ Below w.heap.size w wr) (fun _ v _ => (n - intOf v).toNat)
    case atStart => exact ⟨0, 0, rfl, by omega, rfl, Lib.hid (by rw [List.drop_zero]; exact HR.out), hB1⟩
    case round =>
      clear hB1
      obtain ⟨a, t, rfl, a1, rfl, HT, hBa⟩ := hrel
      by_cases hla : a < n
      · have hka : a < xs.length := by rw [HN.out]; exact hla
        have hai : (a : Int) < (n : Int) := by omega
        obtain ⟨p, hp⟩ : ∃ p, pfM 0 t (xs.drop a) = p := ⟨_, rfl⟩
        have HP := Lib.hid hp
        have HN2 : Hid (ssM (xs.drop (a + 1)) p = r) := Lib.hid (by rw [← hp, ← ssM_next hka]; exact HT.out)
        clear hp
        obtain ⟨wo, rfl⟩ : ∃ wo : World, wo = wr := ⟨_, rfl⟩
        go_wp2_with fail
        go_loopw [3, 5, 6] (fun mv sv v wr => ∃ (k : Nat) (s t : Int), v = .int .i64 k ∧ k ≤ n ∧ sv = .int .i64 s ∧ mv = .int .i64 t ∧ Hid (pfM s t (xs.drop k) = p) ∧ (-(20 * (k : Int)) ≤ s ∧ s ≤ 20 * k) ∧ Below w.heap.size w wr) (fun _ _ v _ => (n - intOf v).toNat)
        case atStart => exact ⟨a, 0, t, rfl, by omega, rfl, rfl, HP, by omega, hBa⟩
        case round =>
          clear hBa HT
          obtain ⟨k, s, t, rfl, k1, rfl, rfl, HE, ⟨s0, s1⟩, hB⟩ := hrel
          by_cases hlt : k < n
          · have hk : k < xs.length := by rw [HN.out]; exact hlt
            have hki : (k : Int) < (n : Int) := by omega
            obtain ⟨b, off, rfl, hb, c0, c1⟩ := rowHour (h.next hB) hk
            obtain ⟨hg0, hg1, hd0, hd1⟩ := hrB_at HV.out hk
            have HE1 := Lib.hid ((pfM_next hk s t).symm.trans HE.out)
            clear HE
            generalize xs[k].1 = g at c0 hg0 hg1 HE1
            generalize xs[k].2 = d at c1 hd0 hd1 HE1
            have wz1 : IntKind.i64.wrap (s + d) = s + d := IntWalk.i64_in _ (by omega)
            have wz2 : IntKind.i64.wrap (s + d - g) = s + d - g := IntWalk.i64_in _ (by omega)
            by_cases hy : t < s + d - g
            · have hmx : max t (s + d - g) = s + d - g := by omega
              rw [hmx] at HE1
              clear hmx
              go_wp2_with fail
              refine wp_region_held_drew (S := (fun w' => w'.cell? ⟨b, off + k * 2, none⟩ = some (.int .i64 g) ∧ w'.cell? ⟨b, off + k * 2 + 1, none⟩ = some (.int .i64 d) ∧ Below w.heap.size w w')) (by kernel_rfl) ⟨c0, c1, hB.drew⟩ (fun hHeld => ?_)
              obtain ⟨hC_0, hD_0, hB_0⟩ := id hHeld
              refine wpAnyH_take (i := 0) (oi := _) (v := ?_) rfl (by kernel_rfl) (by kernel_rfl) (by kernel_rfl) (fun _ _ _ h => h) (Or.inl ⟨by rfl, ?_⟩) (by assumption) ?_
              (rotate_left); (focus (intro wv hSw; (obtain ⟨qC, qD, qB⟩ := hSw);  go_simp; (try with_reducible rfl)))
              try simp only [Act.put, List.getElem_toArray, List.getElem_cons_succ, List.getElem_cons_zero, List.setIfInBounds_toArray, List.set_cons_zero, List.set_cons_succ]
              refine wpAnyH_take (i := 1) (oi := _) (v := ?_) rfl (by kernel_rfl) (by kernel_rfl) (by kernel_rfl) (fun _ _ _ h => h) (Or.inl ⟨by rfl, ?_⟩) (by assumption) ?_
              (rotate_left); (focus (intro wv hSw; (obtain ⟨qC, qD, qB⟩ := hSw);  go_simp; (try with_reducible rfl)))
              try simp only [Act.put, List.getElem_toArray, List.getElem_cons_succ, List.getElem_cons_zero, List.setIfInBounds_toArray, List.set_cons_zero, List.set_cons_succ]
              refine wpAnyH_take (i := 2) (oi := _) (v := ?_) rfl (by kernel_rfl) (by kernel_rfl) (by kernel_rfl) (fun _ _ _ h => h) (Or.inl ⟨by rfl, ?_⟩) (by assumption) ?_
              (rotate_left); (focus (intro wv hSw; (obtain ⟨qC, qD, qB⟩ := hSw);  go_simp; (try with_reducible rfl)))
              try simp only [Act.put, List.getElem_toArray, List.getElem_cons_succ, List.getElem_cons_zero, List.setIfInBounds_toArray, List.set_cons_zero, List.set_cons_succ]
              refine wpAnyH_take (i := 3) (oi := _) (v := ?_) rfl (by kernel_rfl) (by kernel_rfl) (by kernel_rfl) (fun _ _ _ h => h) (Or.inl ⟨by rfl, ?_⟩) (by assumption) ?_
              (rotate_left); (focus (intro wv hSw; (obtain ⟨qC, qD, qB⟩ := hSw);  go_simp; (try with_reducible rfl)))
              try simp only [Act.put, List.getElem_toArray, List.getElem_cons_succ, List.getElem_cons_zero, List.setIfInBounds_toArray, List.set_cons_zero, List.set_cons_succ]
              refine wpAnyH_take (i := 4) (oi := _) (v := ?_) rfl (by kernel_rfl) (by kernel_rfl) (by kernel_rfl) (fun _ _ _ h => h) (Or.inl ⟨by rfl, ?_⟩) (by assumption) ?_
              (rotate_left); (focus (intro wv hSw; (obtain ⟨qC, qD, qB⟩ := hSw);  go_simp; (try with_reducible rfl)))
              try simp only [Act.put, List.getElem_toArray, List.getElem_cons_succ, List.getElem_cons_zero, List.setIfInBounds_toArray, List.set_cons_zero, List.set_cons_succ]
              refine wpAnyH_take (i := 5) (oi := _) (v := ?_) rfl (by kernel_rfl) (by kernel_rfl) (by kernel_rfl) (fun _ _ _ h => h) (Or.inl ⟨by rfl, ?_⟩) (by assumption) ?_
              (rotate_left); (focus (intro wv hSw; (obtain ⟨qC, qD, qB⟩ := hSw);  go_simp; (try with_reducible rfl)))
              try simp only [Act.put, List.getElem_toArray, List.getElem_cons_succ, List.getElem_cons_zero, List.setIfInBounds_toArray, List.set_cons_zero, List.set_cons_succ]
              refine wpAnyH_take (i := 6) (oi := _) (v := ?_) rfl (by kernel_rfl) (by kernel_rfl) (by kernel_rfl) (fun _ _ _ h => h) (Or.inl ⟨by rfl, ?_⟩) (by assumption) ?_
              (rotate_left); (focus (intro wv hSw; (obtain ⟨qC, qD, qB⟩ := hSw);  go_simp; (try with_reducible rfl)))
              try simp only [Act.put, List.getElem_toArray, List.getElem_cons_succ, List.getElem_cons_zero, List.setIfInBounds_toArray, List.set_cons_zero, List.set_cons_succ]
              refine wpAnyH_take (i := 7) (oi := _) (v := ?_) rfl (by kernel_rfl) (by kernel_rfl) (by kernel_rfl) (fun _ _ _ h => h) (Or.inl ⟨by rfl, ?_⟩) (by assumption) ?_
              (rotate_left); (focus (intro wv hSw; (obtain ⟨qC, qD, qB⟩ := hSw);  go_simp; (try with_reducible rfl)))
              try simp only [Act.put, List.getElem_toArray, List.getElem_cons_succ, List.getElem_cons_zero, List.setIfInBounds_toArray, List.set_cons_zero, List.set_cons_succ]
              refine wpAnyH_take (i := 8) (oi := _) (v := ?_) rfl (by kernel_rfl) (by kernel_rfl) (by kernel_rfl) (fun _ _ _ h => h) (Or.inl ⟨by rfl, ?_⟩) (by assumption) ?_
              (rotate_left); (focus (intro wv hSw; (obtain ⟨qC, qD, qB⟩ := hSw);  go_simp; (try with_reducible rfl)))
              try simp only [Act.put, List.getElem_toArray, List.getElem_cons_succ, List.getElem_cons_zero, List.setIfInBounds_toArray, List.set_cons_zero, List.set_cons_succ]
              refine wpAnyH_take (i := 9) (oi := _) (v := ?_) rfl (by kernel_rfl) (by kernel_rfl) (by kernel_rfl) (fun _ _ _ h => h) (Or.inl ⟨by rfl, ?_⟩) (by assumption) ?_
              (rotate_left); (focus (intro wv hSw; (obtain ⟨qC, qD, qB⟩ := hSw);  go_simp; (try with_reducible rfl)))
              try simp only [Act.put, List.getElem_toArray, List.getElem_cons_succ, List.getElem_cons_zero, List.setIfInBounds_toArray, List.set_cons_zero, List.set_cons_succ]
              refine wpAnyH_take (i := 10) (oi := _) (v := ?_) rfl (by kernel_rfl) (by kernel_rfl) (by kernel_rfl) (fun _ _ _ h => h) (Or.inl ⟨by rfl, ?_⟩) (by assumption) ?_
              (rotate_left); (focus (intro wv hSw; (obtain ⟨qC, qD, qB⟩ := hSw);  go_simp; (try with_reducible rfl)))
              try simp only [Act.put, List.getElem_toArray, List.getElem_cons_succ, List.getElem_cons_zero, List.setIfInBounds_toArray, List.set_cons_zero, List.set_cons_succ]
              refine wpAnyH_take (i := 11) (oi := _) (v := ?_) rfl (by kernel_rfl) (by kernel_rfl) (by kernel_rfl) (fun _ _ _ h => h) (Or.inl ⟨by rfl, ?_⟩) (by assumption) ?_
              (rotate_left); (focus (intro wv hSw; (obtain ⟨qC, qD, qB⟩ := hSw);  go_simp; (try with_reducible rfl)))
              try simp only [Act.put, List.getElem_toArray, List.getElem_cons_succ, List.getElem_cons_zero, List.setIfInBounds_toArray, List.set_cons_zero, List.set_cons_succ]
              refine wpAnyH_take (i := 12) (oi := _) (v := ?_) rfl (by kernel_rfl) (by kernel_rfl) (by kernel_rfl) (fun _ _ _ h => h) (Or.inl ⟨by rfl, ?_⟩) (by assumption) ?_
              (rotate_left); (focus (intro wv hSw; (obtain ⟨qC, qD, qB⟩ := hSw);  go_simp; (try with_reducible rfl)))
              try simp only [Act.put, List.getElem_toArray, List.getElem_cons_succ, List.getElem_cons_zero, List.setIfInBounds_toArray, List.set_cons_zero, List.set_cons_succ]
              refine wpAnyH_take (i := 13) (oi := _) (v := ?_) rfl (by kernel_rfl) (by kernel_rfl) (by kernel_rfl) (fun _ _ _ h => h) (Or.inl ⟨by rfl, ?_⟩) (by assumption) ?_
              (rotate_left); (focus (intro wv hSw; (obtain ⟨qC, qD, qB⟩ := hSw);  go_simp; (try with_reducible rfl)))
              try simp only [Act.put, List.getElem_toArray, List.getElem_cons_succ, List.getElem_cons_zero, List.setIfInBounds_toArray, List.set_cons_zero, List.set_cons_succ]
              refine wpAnyH_done (by kernel_rfl) ?_ _
              go_wp2_with fail
              go_roundw
              case rel => exact ⟨k + 1, s + d - g, s + d - g, by go_num, by omega, rfl, rfl, HE1, ⟨by omega, by omega⟩, hB_0⟩
              case measure => simp [intOf]; omega
            · have hmx : max t (s + d - g) = t := by omega
              rw [hmx] at HE1
              clear hmx
              go_wp2_with fail
              refine wp_region_held_drew (S := (fun w' => w'.cell? ⟨b, off + k * 2, none⟩ = some (.int .i64 g) ∧ w'.cell? ⟨b, off + k * 2 + 1, none⟩ = some (.int .i64 d) ∧ Below w.heap.size w w')) (by kernel_rfl) ⟨c0, c1, hB.drew⟩ (fun hHeld => ?_)
              obtain ⟨hC_0, hD_0, hB_0⟩ := id hHeld
              refine wpAnyH_take (i := 0) (oi := _) (v := ?_) rfl (by kernel_rfl) (by kernel_rfl) (by kernel_rfl) (fun _ _ _ h => h) (Or.inl ⟨by rfl, ?_⟩) (by assumption) ?_
              (rotate_left); (focus (intro wv hSw; (obtain ⟨qC, qD, qB⟩ := hSw);  go_simp; (try with_reducible rfl)))
              try simp only [Act.put, List.getElem_toArray, List.getElem_cons_succ, List.getElem_cons_zero, List.setIfInBounds_toArray, List.set_cons_zero, List.set_cons_succ]
              refine wpAnyH_take (i := 1) (oi := _) (v := ?_) rfl (by kernel_rfl) (by kernel_rfl) (by kernel_rfl) (fun _ _ _ h => h) (Or.inl ⟨by rfl, ?_⟩) (by assumption) ?_
              (rotate_left); (focus (intro wv hSw; (obtain ⟨qC, qD, qB⟩ := hSw);  go_simp; (try with_reducible rfl)))
              try simp only [Act.put, List.getElem_toArray, List.getElem_cons_succ, List.getElem_cons_zero, List.setIfInBounds_toArray, List.set_cons_zero, List.set_cons_succ]
              refine wpAnyH_take (i := 2) (oi := _) (v := ?_) rfl (by kernel_rfl) (by kernel_rfl) (by kernel_rfl) (fun _ _ _ h => h) (Or.inl ⟨by rfl, ?_⟩) (by assumption) ?_
              (rotate_left); (focus (intro wv hSw; (obtain ⟨qC, qD, qB⟩ := hSw);  go_simp; (try with_reducible rfl)))
              try simp only [Act.put, List.getElem_toArray, List.getElem_cons_succ, List.getElem_cons_zero, List.setIfInBounds_toArray, List.set_cons_zero, List.set_cons_succ]
              refine wpAnyH_take (i := 3) (oi := _) (v := ?_) rfl (by kernel_rfl) (by kernel_rfl) (by kernel_rfl) (fun _ _ _ h => h) (Or.inl ⟨by rfl, ?_⟩) (by assumption) ?_
              (rotate_left); (focus (intro wv hSw; (obtain ⟨qC, qD, qB⟩ := hSw);  go_simp; (try with_reducible rfl)))
              try simp only [Act.put, List.getElem_toArray, List.getElem_cons_succ, List.getElem_cons_zero, List.setIfInBounds_toArray, List.set_cons_zero, List.set_cons_succ]
              refine wpAnyH_take (i := 4) (oi := _) (v := ?_) rfl (by kernel_rfl) (by kernel_rfl) (by kernel_rfl) (fun _ _ _ h => h) (Or.inl ⟨by rfl, ?_⟩) (by assumption) ?_
              (rotate_left); (focus (intro wv hSw; (obtain ⟨qC, qD, qB⟩ := hSw);  go_simp; (try with_reducible rfl)))
              try simp only [Act.put, List.getElem_toArray, List.getElem_cons_succ, List.getElem_cons_zero, List.setIfInBounds_toArray, List.set_cons_zero, List.set_cons_succ]
              refine wpAnyH_take (i := 5) (oi := _) (v := ?_) rfl (by kernel_rfl) (by kernel_rfl) (by kernel_rfl) (fun _ _ _ h => h) (Or.inl ⟨by rfl, ?_⟩) (by assumption) ?_
              (rotate_left); (focus (intro wv hSw; (obtain ⟨qC, qD, qB⟩ := hSw);  go_simp; (try with_reducible rfl)))
              try simp only [Act.put, List.getElem_toArray, List.getElem_cons_succ, List.getElem_cons_zero, List.setIfInBounds_toArray, List.set_cons_zero, List.set_cons_succ]
              refine wpAnyH_take (i := 6) (oi := _) (v := ?_) rfl (by kernel_rfl) (by kernel_rfl) (by kernel_rfl) (fun _ _ _ h => h) (Or.inl ⟨by rfl, ?_⟩) (by assumption) ?_
              (rotate_left); (focus (intro wv hSw; (obtain ⟨qC, qD, qB⟩ := hSw);  go_simp; (try with_reducible rfl)))
              try simp only [Act.put, List.getElem_toArray, List.getElem_cons_succ, List.getElem_cons_zero, List.setIfInBounds_toArray, List.set_cons_zero, List.set_cons_succ]
              refine wpAnyH_take (i := 7) (oi := _) (v := ?_) rfl (by kernel_rfl) (by kernel_rfl) (by kernel_rfl) (fun _ _ _ h => h) (Or.inl ⟨by rfl, ?_⟩) (by assumption) ?_
              (rotate_left); (focus (intro wv hSw; (obtain ⟨qC, qD, qB⟩ := hSw);  go_simp; (try with_reducible rfl)))
              try simp only [Act.put, List.getElem_toArray, List.getElem_cons_succ, List.getElem_cons_zero, List.setIfInBounds_toArray, List.set_cons_zero, List.set_cons_succ]
              refine wpAnyH_take (i := 8) (oi := _) (v := ?_) rfl (by kernel_rfl) (by kernel_rfl) (by kernel_rfl) (fun _ _ _ h => h) (Or.inl ⟨by rfl, ?_⟩) (by assumption) ?_
              (rotate_left); (focus (intro wv hSw; (obtain ⟨qC, qD, qB⟩ := hSw);  go_simp; (try with_reducible rfl)))
              try simp only [Act.put, List.getElem_toArray, List.getElem_cons_succ, List.getElem_cons_zero, List.setIfInBounds_toArray, List.set_cons_zero, List.set_cons_succ]
              refine wpAnyH_take (i := 9) (oi := _) (v := ?_) rfl (by kernel_rfl) (by kernel_rfl) (by kernel_rfl) (fun _ _ _ h => h) (Or.inl ⟨by rfl, ?_⟩) (by assumption) ?_
              (rotate_left); (focus (intro wv hSw; (obtain ⟨qC, qD, qB⟩ := hSw);  go_simp; (try with_reducible rfl)))
              try simp only [Act.put, List.getElem_toArray, List.getElem_cons_succ, List.getElem_cons_zero, List.setIfInBounds_toArray, List.set_cons_zero, List.set_cons_succ]
              refine wpAnyH_take (i := 10) (oi := _) (v := ?_) rfl (by kernel_rfl) (by kernel_rfl) (by kernel_rfl) (fun _ _ _ h => h) (Or.inl ⟨by rfl, ?_⟩) (by assumption) ?_
              (rotate_left); (focus (intro wv hSw; (obtain ⟨qC, qD, qB⟩ := hSw);  go_simp; (try with_reducible rfl)))
              try simp only [Act.put, List.getElem_toArray, List.getElem_cons_succ, List.getElem_cons_zero, List.setIfInBounds_toArray, List.set_cons_zero, List.set_cons_succ]
              refine wpAnyH_take (i := 11) (oi := _) (v := ?_) rfl (by kernel_rfl) (by kernel_rfl) (by kernel_rfl) (fun _ _ _ h => h) (Or.inl ⟨by rfl, ?_⟩) (by assumption) ?_
              (rotate_left); (focus (intro wv hSw; (obtain ⟨qC, qD, qB⟩ := hSw);  go_simp; (try with_reducible rfl)))
              try simp only [Act.put, List.getElem_toArray, List.getElem_cons_succ, List.getElem_cons_zero, List.setIfInBounds_toArray, List.set_cons_zero, List.set_cons_succ]
              refine wpAnyH_take (i := 12) (oi := _) (v := ?_) rfl (by kernel_rfl) (by kernel_rfl) (by kernel_rfl) (fun _ _ _ h => h) (Or.inl ⟨by rfl, ?_⟩) (by assumption) ?_
              (rotate_left); (focus (intro wv hSw; (obtain ⟨qC, qD, qB⟩ := hSw);  go_simp; (try with_reducible rfl)))
              try simp only [Act.put, List.getElem_toArray, List.getElem_cons_succ, List.getElem_cons_zero, List.setIfInBounds_toArray, List.set_cons_zero, List.set_cons_succ]
              refine wpAnyH_take (i := 13) (oi := _) (v := ?_) rfl (by kernel_rfl) (by kernel_rfl) (by kernel_rfl) (fun _ _ _ h => h) (Or.inl ⟨by rfl, ?_⟩) (by assumption) ?_
              (rotate_left); (focus (intro wv hSw; (obtain ⟨qC, qD, qB⟩ := hSw);  go_simp; (try with_reducible rfl)))
              try simp only [Act.put, List.getElem_toArray, List.getElem_cons_succ, List.getElem_cons_zero, List.setIfInBounds_toArray, List.set_cons_zero, List.set_cons_succ]
              refine wpAnyH_done (by kernel_rfl) ?_ _
              go_wp2_with fail
              go_roundw
              case rel => exact ⟨k + 1, s + d - g, t, by go_num, by omega, rfl, rfl, HE1, ⟨by omega, by omega⟩, hB_0⟩
              case measure => simp [intOf]; omega
          · obtain rfl : k = n := by omega
            have hki : ¬ (k : Int) < (k : Int) := by omega
            have hpe : t = p := by rw [← HE.out, List.drop_eq_nil_of_le (by rw [HN.out]; omega)]; rfl
            subst hpe
            go_wp2_with fail
            go_roundw
            case rel => exact ⟨a + 1, t, by go_num, by omega, rfl, HN2, hB⟩
            case measure => simp [intOf]; omega
      · have hki : ¬ (a : Int) < (n : Int) := by omega
        go_wp2_with fail
        go_ret
        exact ⟨ret_int (by rw [← HT.out, List.drop_eq_nil_of_le (by rw [HN.out]; omega)]; rfl), hBa⟩
set_option maxHeartbeats 4000000 in
theorem sSf_is (A : Option Addr) (cap : Nat) (xs : List VHour) {n : Nat} {r : Int} (w : World) (hn : xs.length = n) (h : SRow encHour w A xs) (hl : n ≤ 2000000) (hr : gapI xs = r) :
    Calls Try.prog 27 #[.slice A n cap] w fun E w' => E = .returned (.int .i64 r) ∧ Below w.heap.size w w' := by
  cases hv : hrB xs
  · obtain rfl : r = -1 := by rw [← hr]; exact gapI_no hv
    have HV := Lib.hid hv
    have HN := Lib.hid hn
    clear hv hr hn
    go_enter Try.func27, Try.ntmps27
    go_wp2_with fail
    go_loopw [3] (fun v wr => v = .int .i64 0 ∧ Below w.heap.size w wr) (fun v _ => (1 - intOf v).toNat)
    case atStart => exact ⟨rfl, Below.refl _ _⟩
    case round =>
      obtain ⟨rfl, hB⟩ := hrel
      go_wp2_with fail
      refine (sHv_is A cap xs _ HN.out (h.next hB) hl HV.out).mono ?_; rintro E w1 ⟨rfl, hw1⟩
      go_wp2
      go_ret
      exact ⟨rfl, bel_next hB hw1⟩
  · obtain ⟨g0, g1⟩ := gap_bd hv
    have hr2 : gpM 0 0 xs = r := by rw [← hr]; exact (gapI_yes hv).symm
    rw [hr2] at g0 g1
    have HL : Hid (∀ k : Int, 0 ≤ k → k ≤ 200 → (laI xs k k = 0 ↔ r ≤ k)) := Lib.hid (fun k h0 h1 => by rw [← hr2]; exact (laI_gap hv h0 h1).2)
    have HV := Lib.hid hv
    have HN := Lib.hid hn
    clear hv hr hr2 hn
    go_enter Try.func27, Try.ntmps27
    go_wp2_with fail
    go_loopw [3] (fun v wr => ∃ k : Int, v = .int .i64 k ∧ 0 ≤ k ∧ k ≤ r ∧ Below w.heap.size w wr) (fun v _ => (r + 1 - intOf v).toNat)
    case atStart => exact ⟨0, rfl, by omega, by omega, Below.refl _ _⟩
    case round =>
      obtain ⟨k, rfl, k0, k1, hB⟩ := hrel
      have hk2 : k ≤ 200 := by omega
      have hl9 := HL.out k k0 hk2
      obtain ⟨u, hu⟩ : ∃ u, laI xs k k = u := ⟨_, rfl⟩
      rw [hu] at hl9
      have HU := Lib.hid hu
      clear hu
      go_wp2_with fail
      refine (sHv_is A cap xs _ HN.out (h.next hB) hl HV.out).mono ?_; rintro E w1 ⟨rfl, hw1⟩
      have hB1 := bel_next hB hw1
      go_wp2_with fail
      refine (sSl_is A cap xs _ HN.out (h.next hB1) hl HU.out).mono ?_; rintro E w2 ⟨rfl, hw2⟩
      have hB2 := bel_next hB1 hw2
      by_cases hk : r ≤ k
      · obtain rfl : k = r := by omega
        obtain rfl : u = 0 := hl9.2 hk
        go_wp2
        go_ret
        exact ⟨rfl, hB2⟩
      · have hu0 : (u == 0) = false := by rw [beq_eq_false_iff_ne]; exact fun e => hk (hl9.1 e)
        clear hl9
        go_wp2_with fail
        go_roundw
        case rel => exact ⟨k + 1, by go_num, by omega, by omega, hB2⟩
        case measure => simp [intOf]; omega
set_option maxHeartbeats 4000000 in
theorem iSfc (A : Option Addr) (cap : Nat) (xs : List VHour) {n B : Nat} {k : Int} {r : Bool} (w : World) (hn : xs.length = n) (h : SRow encHour w A xs) (hl : n ≤ 2000000) (hc : w.cell? ⟨B, 0, none⟩ = some (.slice A n cap)) (hr : (laI xs k k == 0) = r) :
    Calls Try.prog 47 #[.int .i64 k, .pointer (some ⟨B, 0, none⟩)] w fun E w' => E = .returned (.bool r) ∧ Below w.heap.size w w' := by
  obtain ⟨u, hu⟩ : ∃ u, laI xs k k = u := ⟨_, rfl⟩
  rw [hu] at hr
  have HU := Lib.hid hu
  have HR := Lib.hid hr
  clear hu hr
  go_enter Try.func47, Try.ntmps47
  go_wp2_with fail
  refine (iSl_is A cap xs _ hn h hl HU.out).mono ?_; rintro E w1 ⟨rfl, hw1⟩
  go_wp2
  go_ret
  exact ⟨ret_bool HR.out, hw1⟩
set_option maxHeartbeats 4000000 in
theorem iSfs (A : Option Addr) (cap : Nat) (xs : List VHour) {n B : Nat} {r : Int} (w : World) (hn : xs.length = n) (h : SRow encHour w A xs) (hl : n ≤ 2000000) (hc : w.cell? ⟨B, 0, none⟩ = some (.slice A n cap)) (g0 : 0 ≤ r) (g1 : r ≤ 200) (hL : ∀ k : Int, 0 ≤ k → k ≤ 200 → (laI xs k k = 0 ↔ r ≤ k)) :
    Calls Try.prog 46 #[.int .i64 200, .func (.func 47) #[] #[.pointer (some ⟨B, 0, none⟩)]] w fun E w' => E = .returned (.int .i64 r) ∧ Below w.heap.size w w' := by
  have HL := Lib.hid hL
  have HN := Lib.hid hn
  clear hL hn
  go_enter Try.func46, Try.ntmps46
  go_wp2_with fail
  go_loopw [5, 6] (fun lv hv wr => ∃ a b : Int, lv = .int .i64 a ∧ hv = .int .i64 b ∧ 0 ≤ a ∧ a ≤ r ∧ r ≤ b ∧ b ≤ 200 ∧ wr.cell? ⟨B, 0, none⟩ = some (.slice A n cap) ∧ Below w.heap.size w wr) (fun lv hv _ => (intOf hv - intOf lv).toNat)
  case atStart => exact ⟨0, 200, rfl, rfl, by omega, g0, g1, by omega, hc, Below.refl _ _⟩
  case round =>
    obtain ⟨a, b, rfl, rfl, a0, ar, rb, b1, hC, hB⟩ := hrel
    by_cases hlt : a < b
    · have hm0 : a ≤ (a + b) / 2 := by omega
      have hm1 : (a + b) / 2 < b := by omega
      have hl9 := HL.out ((a + b) / 2) (by omega) (by omega)
      by_cases hk : r ≤ (a + b) / 2
      · have hu : (laI xs ((a + b) / 2) ((a + b) / 2) == 0) = true := by rw [beq_iff_eq]; exact hl9.2 hk
        have HU := Lib.hid hu
        clear hu hl9
        go_wp2_with fail
        refine (iSfc A cap xs _ HN.out (h.next hB) hl hC HU.out).mono ?_; rintro E w1 ⟨rfl, hw1⟩
        go_wp2_with fail
        go_roundw
        case rel => exact ⟨a, (a + b) / 2, rfl, rfl, a0, ar, hk, by omega, celS_next hC hw1, bel_next hB hw1⟩
        case measure => simp [intOf]; omega
      · have hu : (laI xs ((a + b) / 2) ((a + b) / 2) == 0) = false := by rw [beq_eq_false_iff_ne]; exact fun e => hk (hl9.1 e)
        have HU := Lib.hid hu
        clear hu hl9
        go_wp2_with fail
        refine (iSfc A cap xs _ HN.out (h.next hB) hl hC HU.out).mono ?_; rintro E w1 ⟨rfl, hw1⟩
        go_wp2_with fail
        go_roundw
        case rel => exact ⟨(a + b) / 2 + 1, b, by go_num, rfl, by omega, by omega, rb, b1, celS_next hC hw1, bel_next hB hw1⟩
        case measure => simp [intOf]; omega
    · have hki : ¬ a < b := hlt
      obtain rfl : a = r := by omega
      go_wp2_with fail
      go_ret
      exact ⟨rfl, hB⟩
set_option maxHeartbeats 4000000 in
theorem iSf_is (A : Option Addr) (cap : Nat) (xs : List VHour) {n : Nat} {r : Int} (w : World) (hn : xs.length = n) (h : SRow encHour w A xs) (hl : n ≤ 2000000) (hr : gapI xs = r) :
    Calls Try.prog 26 #[.slice A n cap] w fun E w' => E = .returned (.int .i64 r) ∧ Below w.heap.size w w' := by
  cases hv : hrB xs
  · obtain rfl : r = -1 := by rw [← hr]; exact gapI_no hv
    have HV := Lib.hid hv
    have HN := Lib.hid hn
    clear hv hr hn
    go_enter Try.func26, Try.ntmps26
    go_wp2_with fail
    refine (iHv_is A cap xs _ HN.out (h.next (bel1 w _)) hl HV.out).mono ?_; rintro E w1 ⟨rfl, hw1⟩
    obtain ⟨hP1, hB1⟩ := ownb hw1
    have hc1 : w1.cell? ⟨w.heap.size, 0, none⟩ = some (.slice A n cap) := by simp [World.cell?, hP1]
    go_wp2
    go_ret
    exact ⟨rfl, hB1⟩
  · obtain ⟨g0, g1⟩ := gap_bd hv
    have hr2 : gpM 0 0 xs = r := by rw [← hr]; exact (gapI_yes hv).symm
    rw [hr2] at g0 g1
    have HL : Hid (∀ k : Int, 0 ≤ k → k ≤ 200 → (laI xs k k = 0 ↔ r ≤ k)) := Lib.hid (fun k h0 h1 => by rw [← hr2]; exact (laI_gap hv h0 h1).2)
    have HV := Lib.hid hv
    have HN := Lib.hid hn
    clear hv hr hr2 hn
    go_enter Try.func26, Try.ntmps26
    go_wp2_with fail
    refine (iHv_is A cap xs _ HN.out (h.next (bel1 w _)) hl HV.out).mono ?_; rintro E w1 ⟨rfl, hw1⟩
    obtain ⟨hP1, hB1⟩ := ownb hw1
    have hc1 : w1.cell? ⟨w.heap.size, 0, none⟩ = some (.slice A n cap) := by simp [World.cell?, hP1]
    go_wp2_with fail
    refine (iSfs A cap xs _ HN.out (h.next hB1) hl hc1 g0 g1 HL.out).mono ?_; rintro E w2 ⟨rfl, hw2⟩
    have hB2 := bel_next hB1 hw2
    go_wp2
    go_ret
    exact ⟨rfl, hB2⟩
end Go.Proofs.Ytfgaggdiepielab
