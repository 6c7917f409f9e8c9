/- Contracts of chapter 9: the most plants in beds, on both sides. -/
import Derived.Test.YtaikodebmkjafaaPpb
import Derived.Test.YtaikodebmkjafaaQp
namespace Go.Proofs.Ytaikodebmkjafaa
open Go Go.ChangeShapes Go.WideShapes Go.ChangeAt Go.RowKit
set_option linter.unusedSimpArgs false
set_option linter.unusedVariables false

set_option maxRecDepth 100000 in
set_option maxHeartbeats 4000000 in
theorem sMo_any (A A2 : Option Addr) (cap cap2 : Nat) (bs : List Int) (ps : List VPlant) {n m : Nat} (hn : bs.length = n) (hm : ps.length = m) (hn6 : n ≤ 6) (hm6 : m ≤ 6) : ∀ (d k : Nat) (s : Int) (w : World), m - k = d → k ≤ m → 0 ≤ s → s < 64 → SRow encNum w A bs → SRow encPlant w A2 ps →
    Calls Try.prog 68 #[.slice A n cap, .slice A2 m cap2, .int .i64 k, .int .i64 s] w fun E w' => E = .returned (.int .i64 (moI bs (ps.drop k) s)) ∧ Below w.heap.size w w' := by
  intro d
  have HN := Lib.hid hn
  have HM := Lib.hid hm
  clear hn hm
  induction d with
  | zero =>
    intro k s w hd hk hs0 hs1 h h2
    obtain rfl : k = m := by omega
    have HE : Hid (moI bs (ps.drop k) s = 0) := Lib.hid (by rw [List.drop_of_length_le (by rw [HM.out]; omega)]; rfl)
    have hkk : ((k : Int) == (k : Int)) = true := by rw [beq_iff_eq]
    clear hd
    go_enter Try.func68, Try.ntmps68
    go_wp2
    go_ret
    exact ⟨ret_int HE.out.symm, Below.refl _ _⟩
  | succ d ih =>
    intro k s w hd hk hs0 hs1 h h2
    have hkm : k < m := by omega
    have HIH := Lib.hid ih
    have hkx : k < ps.length := by rw [HM.out]; exact hkm
    have HDR : Hid (moI bs (ps.drop k) s = moB bs ps[k] (moI bs (ps.drop (k + 1))) s (moI bs (ps.drop (k + 1)) s) n) := Lib.hid (by rw [List.drop_eq_getElem_cons hkx, moI, HN.out])
    have hrec : ∀ t, 0 ≤ moI bs (ps.drop (k + 1)) t ∧ moI bs (ps.drop (k + 1)) t ≤ 6 := fun t => by
      have := moI_bd bs (ps.drop (k + 1)) t
      rw [List.length_drop, HM.out] at this; omega
    have HREC := Lib.hid hrec
    have HPK : Hid (∀ wv, Below w.heap.size w wv → ∃ b2 off2, A2 = some ⟨b2, off2, none⟩ ∧ wv.cell? ⟨b2, off2 + k * 2, none⟩ = some (.int .i64 ps[k].1) ∧ wv.cell? ⟨b2, off2 + k * 2 + 1, none⟩ = some (.int .i64 ps[k].2)) := Lib.hid (fun wv h9 => by obtain ⟨b2, off2, e, _, c, c'⟩ := rowPlant (h2.next h9) hkx; exact ⟨b2, off2, e, c, c'⟩)
    generalize hp : ps[k] = p at HDR HPK
    obtain ⟨lo, hi⟩ := p
    have hkk : ((k : Int) == (m : Int)) = false := by rw [beq_eq_false_iff_ne]; omega
    have hki : (k : Int) < (m : Int) := by omega
    have hk0 : (0 : Int) ≤ (k : Int) := by omega
    have HDK : Hid (m - (k + 1) = d) := Lib.hid (by omega)
    have hcast : ((k : Int) + 1) = ((k + 1 : Nat) : Int) := by omega
    have HCA := Lib.hid hcast
    clear hrec ih hd hp hcast
    obtain ⟨v0, hv0⟩ : ∃ v, moI bs (ps.drop (k + 1)) s = v := ⟨_, rfl⟩
    have hvb := HREC.out s
    rw [hv0] at hvb HDR
    obtain ⟨hv1, hv2⟩ := hvb
    have HV0 := Lib.hid hv0
    clear hv0
    go_enter Try.func68, Try.ntmps68
    go_wp2_with fail
    rw [HCA.out]
    refine (HIH.out (k + 1) s _ HDK.out (by omega) hs0 hs1 h h2).mono ?_; rintro E w1 ⟨rfl, hB1⟩
    rw [HV0.out]
    go_wp2_with fail
    go_loopw [9, 10] (fun vb vj wr => ∃ (b : Nat) (v : Int), vj = .int .i64 b ∧ vb = .int .i64 v ∧ b ≤ n ∧ 0 ≤ v ∧ v ≤ 7 ∧ Hid (moB bs (lo, hi) (moI bs (ps.drop (k + 1))) s v0 b = v) ∧ Below w.heap.size w wr) (fun _ vj _ => (n - intOf vj).toNat)
    case atStart => exact ⟨0, v0, rfl, rfl, by omega, by omega, by omega, Lib.hid rfl, hB1⟩
    case round =>
      clear hB1
      obtain ⟨b, v, rfl, rfl, b1_, v1, v2, HV, hB⟩ := hrel
      by_cases hlb : b < n
      · have hbx : b < bs.length := by rw [HN.out]; exact hlb
        have hbn : (b : Int) < (n : Int) := by omega
        have hb0 : (0 : Int) ≤ (b : Int) := by omega
        have hb64 : (b : Int) ≤ 64 := by omega
        have hgd : bs.getD b 0 = bs[b] := by simp [hbx]
        obtain ⟨b1, off1, rfl, _, x0⟩ := rowNum (h.next hB) hbx
        obtain ⟨b2, off2, rfl, c0, c1⟩ := HPK.out _ hB
        have HST : Hid (moB bs (lo, hi) (moI bs (ps.drop (k + 1))) s v0 (b + 1) = if isB s b = true ∧ lo ≤ bs[b] ∧ bs[b] ≤ hi then max v (1 + moI bs (ps.drop (k + 1)) (s - 2 ^ b)) else v) := Lib.hid (by rw [moB, HV.out, hgd])
        clear hgd
        generalize bs[b] = x at x0 HST
        cases hib : isB s b
        · have y1 : (s / 2 ^ b).tmod 2 = 0 := (isB_tmod hs0).trans (isB_no hib)
          have HV2 : Hid (moB bs (lo, hi) (moI bs (ps.drop (k + 1))) s v0 (b + 1) = v) := Lib.hid (by rw [HST.out, if_neg (by rw [hib]; simp)])
          have HIB := Lib.hid hib
          clear hib HST
          go_wp2_with fail
          refine wp_region_held_drew (S := (fun w' => w'.cell? ⟨b1, off1 + b, none⟩ = some (.int .i64 x) ∧ w'.cell? ⟨b2, off2 + k * 2, none⟩ = some (.int .i64 lo) ∧ w'.cell? ⟨b2, off2 + k * 2 + 1, none⟩ = some (.int .i64 hi) ∧ Below w.heap.size w w')) (by kernel_rfl) ⟨x0, c0, c1, hB.drew⟩ (fun hHeld => ?_)
          obtain ⟨hC_0, hD_0, hE_0, hB_0⟩ := id hHeld
          refine wpAnyH_take (i := 0) (oi := _) (v := ?_) rfl (by kernel_rfl) (by kernel_rfl) (by kernel_rfl) (fun _ _ _ h => h) (Or.inl ⟨by rfl, ?_⟩) (by assumption) ?_
          (rotate_left); (focus (intro wv hSw; (obtain ⟨qC, qD, qE, qB⟩ := hSw);  go_simp; (try with_reducible rfl)))
          try simp only [Act.put, List.getElem_toArray, List.getElem_cons_succ, List.getElem_cons_zero, List.setIfInBounds_toArray, List.set_cons_zero, List.set_cons_succ]
          refine wpAnyH_take (i := 1) (oi := _) (v := ?_) rfl (by kernel_rfl) (by kernel_rfl) (by kernel_rfl) (fun _ _ _ h => h) (Or.inl ⟨by rfl, ?_⟩) (by assumption) ?_
          (rotate_left); (focus (intro wv hSw; (obtain ⟨qC, qD, qE, qB⟩ := hSw);  go_simp; (try with_reducible rfl)))
          try simp only [Act.put, List.getElem_toArray, List.getElem_cons_succ, List.getElem_cons_zero, List.setIfInBounds_toArray, List.set_cons_zero, List.set_cons_succ]
          refine wpAnyH_take (i := 2) (oi := _) (v := ?_) rfl (by kernel_rfl) (by kernel_rfl) (by kernel_rfl) (fun _ _ _ h => h) (Or.inl ⟨by rfl, ?_⟩) (by assumption) ?_
          (rotate_left); (focus (intro wv hSw; (obtain ⟨qC, qD, qE, qB⟩ := hSw);  go_simp; (try with_reducible rfl)))
          try simp only [Act.put, List.getElem_toArray, List.getElem_cons_succ, List.getElem_cons_zero, List.setIfInBounds_toArray, List.set_cons_zero, List.set_cons_succ]
          refine wpAnyH_take (i := 3) (oi := _) (v := ?_) rfl (by kernel_rfl) (by kernel_rfl) (by kernel_rfl) (fun _ _ _ h => h) (Or.inl ⟨by rfl, ?_⟩) (by assumption) ?_
          (rotate_left); (focus (intro wv hSw; (obtain ⟨qC, qD, qE, qB⟩ := hSw);  go_simp; (try with_reducible rfl)))
          try simp only [Act.put, List.getElem_toArray, List.getElem_cons_succ, List.getElem_cons_zero, List.setIfInBounds_toArray, List.set_cons_zero, List.set_cons_succ]
          refine wpAnyH_take (i := 4) (oi := _) (v := ?_) rfl (by kernel_rfl) (by kernel_rfl) (by kernel_rfl) (fun _ _ _ h => h) (Or.inl ⟨by rfl, ?_⟩) (by assumption) ?_
          (rotate_left); (focus (intro wv hSw; (obtain ⟨qC, qD, qE, qB⟩ := hSw);  go_simp; (try with_reducible rfl)))
          try simp only [Act.put, List.getElem_toArray, List.getElem_cons_succ, List.getElem_cons_zero, List.setIfInBounds_toArray, List.set_cons_zero, List.set_cons_succ]
          refine wpAnyH_take (i := 5) (oi := _) (v := ?_) rfl (by kernel_rfl) (by kernel_rfl) (by kernel_rfl) (fun _ _ _ h => h) (Or.inl ⟨by rfl, ?_⟩) (by assumption) ?_
          (rotate_left); (focus (intro wv hSw; (obtain ⟨qC, qD, qE, qB⟩ := hSw);  go_simp; (try with_reducible rfl)))
          try simp only [Act.put, List.getElem_toArray, List.getElem_cons_succ, List.getElem_cons_zero, List.setIfInBounds_toArray, List.set_cons_zero, List.set_cons_succ]
          refine wpAnyH_take (i := 6) (oi := _) (v := undef) rfl (by kernel_rfl) (by kernel_rfl) (by kernel_rfl) (fun _ _ _ h => h) (Or.inr ⟨by kernel_rfl, rfl⟩) (by assumption) ?_
          try simp only [Act.put, List.getElem_toArray, List.getElem_cons_succ, List.getElem_cons_zero, List.setIfInBounds_toArray, List.set_cons_zero, List.set_cons_succ]
          refine wpAnyH_take (i := 7) (oi := _) (v := undef) rfl (by kernel_rfl) (by kernel_rfl) (by kernel_rfl) (fun _ _ _ h => h) (Or.inr ⟨by kernel_rfl, rfl⟩) (by assumption) ?_
          try simp only [Act.put, List.getElem_toArray, List.getElem_cons_succ, List.getElem_cons_zero, List.setIfInBounds_toArray, List.set_cons_zero, List.set_cons_succ]
          refine wpAnyH_take (i := 8) (oi := _) (v := undef) rfl (by kernel_rfl) (by kernel_rfl) (by kernel_rfl) (fun _ _ _ h => h) (Or.inr ⟨by kernel_rfl, rfl⟩) (by assumption) ?_
          try simp only [Act.put, List.getElem_toArray, List.getElem_cons_succ, List.getElem_cons_zero, List.setIfInBounds_toArray, List.set_cons_zero, List.set_cons_succ]
          refine wpAnyH_take (i := 9) (oi := _) (v := undef) rfl (by kernel_rfl) (by kernel_rfl) (by kernel_rfl) (fun _ _ _ h => h) (Or.inr ⟨by kernel_rfl, rfl⟩) (by assumption) ?_
          try simp only [Act.put, List.getElem_toArray, List.getElem_cons_succ, List.getElem_cons_zero, List.setIfInBounds_toArray, List.set_cons_zero, List.set_cons_succ]
          refine wpAnyH_take (i := 10) (oi := _) (v := undef) rfl (by kernel_rfl) (by kernel_rfl) (by kernel_rfl) (fun _ _ _ h => h) (Or.inr ⟨by kernel_rfl, rfl⟩) (by assumption) ?_
          try simp only [Act.put, List.getElem_toArray, List.getElem_cons_succ, List.getElem_cons_zero, List.setIfInBounds_toArray, List.set_cons_zero, List.set_cons_succ]
          refine wpAnyH_take (i := 11) (oi := _) (v := undef) rfl (by kernel_rfl) (by kernel_rfl) (by kernel_rfl) (fun _ _ _ h => h) (Or.inr ⟨by kernel_rfl, rfl⟩) (by assumption) ?_
          try simp only [Act.put, List.getElem_toArray, List.getElem_cons_succ, List.getElem_cons_zero, List.setIfInBounds_toArray, List.set_cons_zero, List.set_cons_succ]
          refine wpAnyH_take (i := 12) (oi := _) (v := undef) rfl (by kernel_rfl) (by kernel_rfl) (by kernel_rfl) (fun _ _ _ h => h) (Or.inr ⟨by kernel_rfl, rfl⟩) (by assumption) ?_
          try simp only [Act.put, List.getElem_toArray, List.getElem_cons_succ, List.getElem_cons_zero, List.setIfInBounds_toArray, List.set_cons_zero, List.set_cons_succ]
          refine wpAnyH_take (i := 13) (oi := _) (v := undef) rfl (by kernel_rfl) (by kernel_rfl) (by kernel_rfl) (fun _ _ _ h => h) (Or.inr ⟨by kernel_rfl, rfl⟩) (by assumption) ?_
          try simp only [Act.put, List.getElem_toArray, List.getElem_cons_succ, List.getElem_cons_zero, List.setIfInBounds_toArray, List.set_cons_zero, List.set_cons_succ]
          refine wpAnyH_take (i := 14) (oi := _) (v := undef) rfl (by kernel_rfl) (by kernel_rfl) (by kernel_rfl) (fun _ _ _ h => h) (Or.inr ⟨by kernel_rfl, rfl⟩) (by assumption) ?_
          try simp only [Act.put, List.getElem_toArray, List.getElem_cons_succ, List.getElem_cons_zero, List.setIfInBounds_toArray, List.set_cons_zero, List.set_cons_succ]
          refine wpAnyH_take (i := 15) (oi := _) (v := undef) rfl (by kernel_rfl) (by kernel_rfl) (by kernel_rfl) (fun _ _ _ h => h) (Or.inr ⟨by kernel_rfl, rfl⟩) (by assumption) ?_
          try simp only [Act.put, List.getElem_toArray, List.getElem_cons_succ, List.getElem_cons_zero, List.setIfInBounds_toArray, List.set_cons_zero, List.set_cons_succ]
          refine wpAnyH_take (i := 16) (oi := _) (v := undef) rfl (by kernel_rfl) (by kernel_rfl) (by kernel_rfl) (fun _ _ _ h => h) (Or.inr ⟨by kernel_rfl, rfl⟩) (by assumption) ?_
          try simp only [Act.put, List.getElem_toArray, List.getElem_cons_succ, List.getElem_cons_zero, List.setIfInBounds_toArray, List.set_cons_zero, List.set_cons_succ]
          refine wpAnyH_take (i := 17) (oi := _) (v := undef) rfl (by kernel_rfl) (by kernel_rfl) (by kernel_rfl) (fun _ _ _ h => h) (Or.inr ⟨by kernel_rfl, rfl⟩) (by assumption) ?_
          try simp only [Act.put, List.getElem_toArray, List.getElem_cons_succ, List.getElem_cons_zero, List.setIfInBounds_toArray, List.set_cons_zero, List.set_cons_succ]
          refine wpAnyH_take (i := 18) (oi := _) (v := undef) rfl (by kernel_rfl) (by kernel_rfl) (by kernel_rfl) (fun _ _ _ h => h) (Or.inr ⟨by kernel_rfl, rfl⟩) (by assumption) ?_
          try simp only [Act.put, List.getElem_toArray, List.getElem_cons_succ, List.getElem_cons_zero, List.setIfInBounds_toArray, List.set_cons_zero, List.set_cons_succ]
          refine wpAnyH_take (i := 19) (oi := _) (v := undef) rfl (by kernel_rfl) (by kernel_rfl) (by kernel_rfl) (fun _ _ _ h => h) (Or.inr ⟨by kernel_rfl, rfl⟩) (by assumption) ?_
          try simp only [Act.put, List.getElem_toArray, List.getElem_cons_succ, List.getElem_cons_zero, List.setIfInBounds_toArray, List.set_cons_zero, List.set_cons_succ]
          refine wpAnyH_take (i := 20) (oi := _) (v := undef) rfl (by kernel_rfl) (by kernel_rfl) (by kernel_rfl) (fun _ _ _ h => h) (Or.inr ⟨by kernel_rfl, rfl⟩) (by assumption) ?_
          try simp only [Act.put, List.getElem_toArray, List.getElem_cons_succ, List.getElem_cons_zero, List.setIfInBounds_toArray, List.set_cons_zero, List.set_cons_succ]
          refine wpAnyH_take (i := 21) (oi := _) (v := ?_) rfl (by kernel_rfl) (by kernel_rfl) (by kernel_rfl) (fun _ _ _ h => h) (Or.inl ⟨by rfl, ?_⟩) (by assumption) ?_
          (rotate_left); (focus (intro wv hSw; (obtain ⟨qC, qD, qE, qB⟩ := hSw);  go_simp; (try with_reducible rfl)))
          try simp only [Act.put, List.getElem_toArray, List.getElem_cons_succ, List.getElem_cons_zero, List.setIfInBounds_toArray, List.set_cons_zero, List.set_cons_succ]
          refine wpAnyH_done (by kernel_rfl) ?_ _
          clear y1
          go_wp2_with fail
          go_roundw
          case rel => exact ⟨b + 1, v, by go_num, rfl, by omega, v1, v2, HV2, hB_0⟩
          case measure => simp [intOf]; omega
        · have y1 : (s / 2 ^ b).tmod 2 = 1 := (isB_tmod hs0).trans (isB_yes hib)
          obtain ⟨t0, t1, _⟩ := sub_bit hs0 hs1 (show b < 6 by omega) hib
          have HIB := Lib.hid hib
          clear hib
          cases hw : inV x lo hi
          · have HV2 : Hid (moB bs (lo, hi) (moI bs (ps.drop (k + 1))) s v0 (b + 1) = v) := Lib.hid (by rw [HST.out, if_neg (by rw [inV_no] at hw; exact fun c => hw c.2)])
            have HW := Lib.hid hw
            clear hw HST
            go_wp2_with fail
            refine wp_region_held_drew (S := (fun w' => w'.cell? ⟨b1, off1 + b, none⟩ = some (.int .i64 x) ∧ w'.cell? ⟨b2, off2 + k * 2, none⟩ = some (.int .i64 lo) ∧ w'.cell? ⟨b2, off2 + k * 2 + 1, none⟩ = some (.int .i64 hi) ∧ Below w.heap.size w w')) (by kernel_rfl) ⟨x0, c0, c1, hB.drew⟩ (fun hHeld => ?_)
            obtain ⟨hC_0, hD_0, hE_0, hB_0⟩ := id hHeld
            refine wpAnyH_take (i := 0) (oi := _) (v := ?_) rfl (by kernel_rfl) (by kernel_rfl) (by kernel_rfl) (fun _ _ _ h => h) (Or.inl ⟨by rfl, ?_⟩) (by assumption) ?_
            (rotate_left); (focus (intro wv hSw; (obtain ⟨qC, qD, qE, qB⟩ := hSw);  go_simp; (try with_reducible rfl)))
            try simp only [Act.put, List.getElem_toArray, List.getElem_cons_succ, List.getElem_cons_zero, List.setIfInBounds_toArray, List.set_cons_zero, List.set_cons_succ]
            refine wpAnyH_take (i := 1) (oi := _) (v := ?_) rfl (by kernel_rfl) (by kernel_rfl) (by kernel_rfl) (fun _ _ _ h => h) (Or.inl ⟨by rfl, ?_⟩) (by assumption) ?_
            (rotate_left); (focus (intro wv hSw; (obtain ⟨qC, qD, qE, qB⟩ := hSw);  go_simp; (try with_reducible rfl)))
            try simp only [Act.put, List.getElem_toArray, List.getElem_cons_succ, List.getElem_cons_zero, List.setIfInBounds_toArray, List.set_cons_zero, List.set_cons_succ]
            refine wpAnyH_take (i := 2) (oi := _) (v := ?_) rfl (by kernel_rfl) (by kernel_rfl) (by kernel_rfl) (fun _ _ _ h => h) (Or.inl ⟨by rfl, ?_⟩) (by assumption) ?_
            (rotate_left); (focus (intro wv hSw; (obtain ⟨qC, qD, qE, qB⟩ := hSw);  go_simp; (try with_reducible rfl)))
            try simp only [Act.put, List.getElem_toArray, List.getElem_cons_succ, List.getElem_cons_zero, List.setIfInBounds_toArray, List.set_cons_zero, List.set_cons_succ]
            refine wpAnyH_take (i := 3) (oi := _) (v := ?_) rfl (by kernel_rfl) (by kernel_rfl) (by kernel_rfl) (fun _ _ _ h => h) (Or.inl ⟨by rfl, ?_⟩) (by assumption) ?_
            (rotate_left); (focus (intro wv hSw; (obtain ⟨qC, qD, qE, qB⟩ := hSw);  go_simp; (try with_reducible rfl)))
            try simp only [Act.put, List.getElem_toArray, List.getElem_cons_succ, List.getElem_cons_zero, List.setIfInBounds_toArray, List.set_cons_zero, List.set_cons_succ]
            refine wpAnyH_take (i := 4) (oi := _) (v := ?_) rfl (by kernel_rfl) (by kernel_rfl) (by kernel_rfl) (fun _ _ _ h => h) (Or.inl ⟨by rfl, ?_⟩) (by assumption) ?_
            (rotate_left); (focus (intro wv hSw; (obtain ⟨qC, qD, qE, qB⟩ := hSw);  go_simp; (try with_reducible rfl)))
            try simp only [Act.put, List.getElem_toArray, List.getElem_cons_succ, List.getElem_cons_zero, List.setIfInBounds_toArray, List.set_cons_zero, List.set_cons_succ]
            refine wpAnyH_take (i := 5) (oi := _) (v := ?_) rfl (by kernel_rfl) (by kernel_rfl) (by kernel_rfl) (fun _ _ _ h => h) (Or.inl ⟨by rfl, ?_⟩) (by assumption) ?_
            (rotate_left); (focus (intro wv hSw; (obtain ⟨qC, qD, qE, qB⟩ := hSw);  go_simp; (try with_reducible rfl)))
            try simp only [Act.put, List.getElem_toArray, List.getElem_cons_succ, List.getElem_cons_zero, List.setIfInBounds_toArray, List.set_cons_zero, List.set_cons_succ]
            refine wpAnyH_take (i := 6) (oi := _) (v := ?_) rfl (by kernel_rfl) (by kernel_rfl) (by kernel_rfl) (fun _ _ _ h => h) (Or.inl ⟨by rfl, ?_⟩) (by assumption) ?_
            (rotate_left); (focus (intro wv hSw; (obtain ⟨qC, qD, qE, qB⟩ := hSw);  go_simp; (try with_reducible rfl)))
            try simp only [Act.put, List.getElem_toArray, List.getElem_cons_succ, List.getElem_cons_zero, List.setIfInBounds_toArray, List.set_cons_zero, List.set_cons_succ]
            refine wpAnyH_take (i := 7) (oi := _) (v := ?_) rfl (by kernel_rfl) (by kernel_rfl) (by kernel_rfl) (fun _ _ _ h => h) (Or.inl ⟨by rfl, ?_⟩) (by assumption) ?_
            (rotate_left); (focus (intro wv hSw; (obtain ⟨qC, qD, qE, qB⟩ := hSw);  go_simp; (try with_reducible rfl)))
            try simp only [Act.put, List.getElem_toArray, List.getElem_cons_succ, List.getElem_cons_zero, List.setIfInBounds_toArray, List.set_cons_zero, List.set_cons_succ]
            refine wpAnyH_take (i := 8) (oi := _) (v := ?_) rfl (by kernel_rfl) (by kernel_rfl) (by kernel_rfl) (fun _ _ _ h => h) (Or.inl ⟨by rfl, ?_⟩) (by assumption) ?_
            (rotate_left); (focus (intro wv hSw; (obtain ⟨qC, qD, qE, qB⟩ := hSw);  go_simp; (try with_reducible rfl)))
            try simp only [Act.put, List.getElem_toArray, List.getElem_cons_succ, List.getElem_cons_zero, List.setIfInBounds_toArray, List.set_cons_zero, List.set_cons_succ]
            refine wpAnyH_take (i := 9) (oi := _) (v := ?_) rfl (by kernel_rfl) (by kernel_rfl) (by kernel_rfl) (fun _ _ _ h => h) (Or.inl ⟨by rfl, ?_⟩) (by assumption) ?_
            (rotate_left); (focus (intro wv hSw; (obtain ⟨qC, qD, qE, qB⟩ := hSw);  go_simp; (try with_reducible rfl)))
            try simp only [Act.put, List.getElem_toArray, List.getElem_cons_succ, List.getElem_cons_zero, List.setIfInBounds_toArray, List.set_cons_zero, List.set_cons_succ]
            refine wpAnyH_take (i := 10) (oi := _) (v := ?_) rfl (by kernel_rfl) (by kernel_rfl) (by kernel_rfl) (fun _ _ _ h => h) (Or.inl ⟨by rfl, ?_⟩) (by assumption) ?_
            (rotate_left); (focus (intro wv hSw; (obtain ⟨qC, qD, qE, qB⟩ := hSw);  go_simp; (try with_reducible rfl)))
            try simp only [Act.put, List.getElem_toArray, List.getElem_cons_succ, List.getElem_cons_zero, List.setIfInBounds_toArray, List.set_cons_zero, List.set_cons_succ]
            refine wpAnyH_take (i := 11) (oi := _) (v := ?_) rfl (by kernel_rfl) (by kernel_rfl) (by kernel_rfl) (fun _ _ _ h => h) (Or.inl ⟨by rfl, ?_⟩) (by assumption) ?_
            (rotate_left); (focus (intro wv hSw; (obtain ⟨qC, qD, qE, qB⟩ := hSw);  go_simp; (try with_reducible rfl)))
            try simp only [Act.put, List.getElem_toArray, List.getElem_cons_succ, List.getElem_cons_zero, List.setIfInBounds_toArray, List.set_cons_zero, List.set_cons_succ]
            refine wpAnyH_take (i := 12) (oi := _) (v := ?_) rfl (by kernel_rfl) (by kernel_rfl) (by kernel_rfl) (fun _ _ _ h => h) (Or.inl ⟨by rfl, ?_⟩) (by assumption) ?_
            (rotate_left); (focus (intro wv hSw; (obtain ⟨qC, qD, qE, qB⟩ := hSw);  go_simp; (try with_reducible rfl)))
            try simp only [Act.put, List.getElem_toArray, List.getElem_cons_succ, List.getElem_cons_zero, List.setIfInBounds_toArray, List.set_cons_zero, List.set_cons_succ]
            refine wpAnyH_take (i := 13) (oi := _) (v := ?_) rfl (by kernel_rfl) (by kernel_rfl) (by kernel_rfl) (fun _ _ _ h => h) (Or.inl ⟨by rfl, ?_⟩) (by assumption) ?_
            (rotate_left); (focus (intro wv hSw; (obtain ⟨qC, qD, qE, qB⟩ := hSw);  go_simp; (try with_reducible rfl)))
            try simp only [Act.put, List.getElem_toArray, List.getElem_cons_succ, List.getElem_cons_zero, List.setIfInBounds_toArray, List.set_cons_zero, List.set_cons_succ]
            refine wpAnyH_take (i := 14) (oi := _) (v := ?_) rfl (by kernel_rfl) (by kernel_rfl) (by kernel_rfl) (fun _ _ _ h => h) (Or.inl ⟨by rfl, ?_⟩) (by assumption) ?_
            (rotate_left); (focus (intro wv hSw; (obtain ⟨qC, qD, qE, qB⟩ := hSw);  go_simp; (try with_reducible rfl)))
            try simp only [Act.put, List.getElem_toArray, List.getElem_cons_succ, List.getElem_cons_zero, List.setIfInBounds_toArray, List.set_cons_zero, List.set_cons_succ]
            refine wpAnyH_take (i := 15) (oi := _) (v := ?_) rfl (by kernel_rfl) (by kernel_rfl) (by kernel_rfl) (fun _ _ _ h => h) (Or.inl ⟨by rfl, ?_⟩) (by assumption) ?_
            (rotate_left); (focus (intro wv hSw; (obtain ⟨qC, qD, qE, qB⟩ := hSw);  go_simp; (try with_reducible rfl)))
            try simp only [Act.put, List.getElem_toArray, List.getElem_cons_succ, List.getElem_cons_zero, List.setIfInBounds_toArray, List.set_cons_zero, List.set_cons_succ]
            refine wpAnyH_take (i := 16) (oi := _) (v := ?_) rfl (by kernel_rfl) (by kernel_rfl) (by kernel_rfl) (fun _ _ _ h => h) (Or.inl ⟨by rfl, ?_⟩) (by assumption) ?_
            (rotate_left); (focus (intro wv hSw; (obtain ⟨qC, qD, qE, qB⟩ := hSw);  go_simp; (try with_reducible rfl)))
            try simp only [Act.put, List.getElem_toArray, List.getElem_cons_succ, List.getElem_cons_zero, List.setIfInBounds_toArray, List.set_cons_zero, List.set_cons_succ]
            refine wpAnyH_take (i := 17) (oi := _) (v := ?_) rfl (by kernel_rfl) (by kernel_rfl) (by kernel_rfl) (fun _ _ _ h => h) (Or.inl ⟨by rfl, ?_⟩) (by assumption) ?_
            (rotate_left); (focus (intro wv hSw; (obtain ⟨qC, qD, qE, qB⟩ := hSw);  go_simp; (try with_reducible rfl)))
            try simp only [Act.put, List.getElem_toArray, List.getElem_cons_succ, List.getElem_cons_zero, List.setIfInBounds_toArray, List.set_cons_zero, List.set_cons_succ]
            refine wpAnyH_take (i := 18) (oi := _) (v := ?_) rfl (by kernel_rfl) (by kernel_rfl) (by kernel_rfl) (fun _ _ _ h => h) (Or.inl ⟨by rfl, ?_⟩) (by assumption) ?_
            (rotate_left); (focus (intro wv hSw; (obtain ⟨qC, qD, qE, qB⟩ := hSw);  go_simp; (try with_reducible rfl)))
            try simp only [Act.put, List.getElem_toArray, List.getElem_cons_succ, List.getElem_cons_zero, List.setIfInBounds_toArray, List.set_cons_zero, List.set_cons_succ]
            refine wpAnyH_take (i := 19) (oi := _) (v := ?_) rfl (by kernel_rfl) (by kernel_rfl) (by kernel_rfl) (fun _ _ _ h => h) (Or.inl ⟨by rfl, ?_⟩) (by assumption) ?_
            (rotate_left); (focus (intro wv hSw; (obtain ⟨qC, qD, qE, qB⟩ := hSw);  go_simp; (try with_reducible rfl)))
            try simp only [Act.put, List.getElem_toArray, List.getElem_cons_succ, List.getElem_cons_zero, List.setIfInBounds_toArray, List.set_cons_zero, List.set_cons_succ]
            refine wpAnyH_ready (rs := [20]) (by kernel_rfl) (by simp) ?_
            refine AllReadyH.cons (o := _) rfl (fun K hK => ?_) AllReadyH.nil
            go_simp
            (go_at_call 59; refine (sIn9_bw _ HW.out).mono ?_; rintro e x0c ⟨rfl, hw_0c⟩)
            refine hK.out _ _ ⟨celS_next hC_0 hw_0c, celS_next hD_0 hw_0c, celS_next hE_0 hw_0c, bel_next hB_0 hw_0c⟩ (fun hHeld => ?_)
            clear hK K
            try simp only [Act.put, List.getElem_toArray, List.getElem_cons_succ, List.getElem_cons_zero, List.setIfInBounds_toArray, List.set_cons_zero, List.set_cons_succ]
            obtain ⟨hC_0c, hD_0c, hE_0c, hB_0c⟩ := id hHeld
            refine wpAnyH_take (i := 21) (oi := _) (v := ?_) rfl (by kernel_rfl) (by kernel_rfl) (by kernel_rfl) (fun _ _ _ h => h) (Or.inl ⟨by rfl, ?_⟩) (by assumption) ?_
            (rotate_left); (focus (intro wv hSw; (obtain ⟨qC, qD, qE, qB⟩ := hSw);  go_simp; (try with_reducible rfl)))
            try simp only [Act.put, List.getElem_toArray, List.getElem_cons_succ, List.getElem_cons_zero, List.setIfInBounds_toArray, List.set_cons_zero, List.set_cons_succ]
            refine wpAnyH_done (by kernel_rfl) ?_ _
            clear y1
            go_wp2_with fail
            go_roundw
            case rel => exact ⟨b + 1, v, by go_num, rfl, by omega, v1, v2, HV2, hB_0c⟩
            case measure => simp [intOf]; omega
          · obtain ⟨u, hu⟩ : ∃ u, moI bs (ps.drop (k + 1)) (s - 2 ^ b) = u := ⟨_, rfl⟩
            obtain ⟨hu0, hu1⟩ := HREC.out (s - 2 ^ b)
            rw [hu] at hu0 hu1
            have HV2 : Hid (moB bs (lo, hi) (moI bs (ps.drop (k + 1))) s v0 (b + 1) = max v (1 + u)) := Lib.hid (by rw [HST.out, if_pos ⟨HIB.out, inV_iff.1 hw⟩, hu])
            have HU := Lib.hid hu
            have HW := Lib.hid hw
            obtain ⟨p0, p1⟩ := two_bd (n := b) (by omega)
            have HTW := Lib.hid (two_w (n := b) (by omega))
            have HSW : Hid (IntKind.i64.wrap (s - 2 ^ b) = s - 2 ^ b) := Lib.hid (IntWalk.i64_in _ (by omega))
            clear hw HST hu
            go_wp2_with fail
            refine wp_region_held_drew (S := (fun w' => w'.cell? ⟨b1, off1 + b, none⟩ = some (.int .i64 x) ∧ w'.cell? ⟨b2, off2 + k * 2, none⟩ = some (.int .i64 lo) ∧ w'.cell? ⟨b2, off2 + k * 2 + 1, none⟩ = some (.int .i64 hi) ∧ Below w.heap.size w w')) (by kernel_rfl) ⟨x0, c0, c1, hB.drew⟩ (fun hHeld => ?_)
            obtain ⟨hC_0, hD_0, hE_0, hB_0⟩ := id hHeld
            refine wpAnyH_take (i := 0) (oi := _) (v := ?_) rfl (by kernel_rfl) (by kernel_rfl) (by kernel_rfl) (fun _ _ _ h => h) (Or.inl ⟨by rfl, ?_⟩) (by assumption) ?_
            (rotate_left); (focus (intro wv hSw; (obtain ⟨qC, qD, qE, qB⟩ := hSw);  go_simp; (try with_reducible rfl)))
            try simp only [Act.put, List.getElem_toArray, List.getElem_cons_succ, List.getElem_cons_zero, List.setIfInBounds_toArray, List.set_cons_zero, List.set_cons_succ]
            refine wpAnyH_take (i := 1) (oi := _) (v := ?_) rfl (by kernel_rfl) (by kernel_rfl) (by kernel_rfl) (fun _ _ _ h => h) (Or.inl ⟨by rfl, ?_⟩) (by assumption) ?_
            (rotate_left); (focus (intro wv hSw; (obtain ⟨qC, qD, qE, qB⟩ := hSw);  go_simp; (try with_reducible rfl)))
            try simp only [Act.put, List.getElem_toArray, List.getElem_cons_succ, List.getElem_cons_zero, List.setIfInBounds_toArray, List.set_cons_zero, List.set_cons_succ]
            refine wpAnyH_take (i := 2) (oi := _) (v := ?_) rfl (by kernel_rfl) (by kernel_rfl) (by kernel_rfl) (fun _ _ _ h => h) (Or.inl ⟨by rfl, ?_⟩) (by assumption) ?_
            (rotate_left); (focus (intro wv hSw; (obtain ⟨qC, qD, qE, qB⟩ := hSw);  go_simp; (try with_reducible rfl)))
            try simp only [Act.put, List.getElem_toArray, List.getElem_cons_succ, List.getElem_cons_zero, List.setIfInBounds_toArray, List.set_cons_zero, List.set_cons_succ]
            refine wpAnyH_take (i := 3) (oi := _) (v := ?_) rfl (by kernel_rfl) (by kernel_rfl) (by kernel_rfl) (fun _ _ _ h => h) (Or.inl ⟨by rfl, ?_⟩) (by assumption) ?_
            (rotate_left); (focus (intro wv hSw; (obtain ⟨qC, qD, qE, qB⟩ := hSw);  go_simp; (try with_reducible rfl)))
            try simp only [Act.put, List.getElem_toArray, List.getElem_cons_succ, List.getElem_cons_zero, List.setIfInBounds_toArray, List.set_cons_zero, List.set_cons_succ]
            refine wpAnyH_take (i := 4) (oi := _) (v := ?_) rfl (by kernel_rfl) (by kernel_rfl) (by kernel_rfl) (fun _ _ _ h => h) (Or.inl ⟨by rfl, ?_⟩) (by assumption) ?_
            (rotate_left); (focus (intro wv hSw; (obtain ⟨qC, qD, qE, qB⟩ := hSw);  go_simp; (try with_reducible rfl)))
            try simp only [Act.put, List.getElem_toArray, List.getElem_cons_succ, List.getElem_cons_zero, List.setIfInBounds_toArray, List.set_cons_zero, List.set_cons_succ]
            refine wpAnyH_take (i := 5) (oi := _) (v := ?_) rfl (by kernel_rfl) (by kernel_rfl) (by kernel_rfl) (fun _ _ _ h => h) (Or.inl ⟨by rfl, ?_⟩) (by assumption) ?_
            (rotate_left); (focus (intro wv hSw; (obtain ⟨qC, qD, qE, qB⟩ := hSw);  go_simp; (try with_reducible rfl)))
            try simp only [Act.put, List.getElem_toArray, List.getElem_cons_succ, List.getElem_cons_zero, List.setIfInBounds_toArray, List.set_cons_zero, List.set_cons_succ]
            refine wpAnyH_take (i := 6) (oi := _) (v := ?_) rfl (by kernel_rfl) (by kernel_rfl) (by kernel_rfl) (fun _ _ _ h => h) (Or.inl ⟨by rfl, ?_⟩) (by assumption) ?_
            (rotate_left); (focus (intro wv hSw; (obtain ⟨qC, qD, qE, qB⟩ := hSw);  go_simp; (try with_reducible rfl)))
            try simp only [Act.put, List.getElem_toArray, List.getElem_cons_succ, List.getElem_cons_zero, List.setIfInBounds_toArray, List.set_cons_zero, List.set_cons_succ]
            refine wpAnyH_take (i := 7) (oi := _) (v := ?_) rfl (by kernel_rfl) (by kernel_rfl) (by kernel_rfl) (fun _ _ _ h => h) (Or.inl ⟨by rfl, ?_⟩) (by assumption) ?_
            (rotate_left); (focus (intro wv hSw; (obtain ⟨qC, qD, qE, qB⟩ := hSw);  go_simp; (try with_reducible rfl)))
            try simp only [Act.put, List.getElem_toArray, List.getElem_cons_succ, List.getElem_cons_zero, List.setIfInBounds_toArray, List.set_cons_zero, List.set_cons_succ]
            refine wpAnyH_take (i := 8) (oi := _) (v := ?_) rfl (by kernel_rfl) (by kernel_rfl) (by kernel_rfl) (fun _ _ _ h => h) (Or.inl ⟨by rfl, ?_⟩) (by assumption) ?_
            (rotate_left); (focus (intro wv hSw; (obtain ⟨qC, qD, qE, qB⟩ := hSw);  go_simp; (try with_reducible rfl)))
            try simp only [Act.put, List.getElem_toArray, List.getElem_cons_succ, List.getElem_cons_zero, List.setIfInBounds_toArray, List.set_cons_zero, List.set_cons_succ]
            refine wpAnyH_take (i := 9) (oi := _) (v := ?_) rfl (by kernel_rfl) (by kernel_rfl) (by kernel_rfl) (fun _ _ _ h => h) (Or.inl ⟨by rfl, ?_⟩) (by assumption) ?_
            (rotate_left); (focus (intro wv hSw; (obtain ⟨qC, qD, qE, qB⟩ := hSw);  go_simp; (try with_reducible rfl)))
            try simp only [Act.put, List.getElem_toArray, List.getElem_cons_succ, List.getElem_cons_zero, List.setIfInBounds_toArray, List.set_cons_zero, List.set_cons_succ]
            refine wpAnyH_take (i := 10) (oi := _) (v := ?_) rfl (by kernel_rfl) (by kernel_rfl) (by kernel_rfl) (fun _ _ _ h => h) (Or.inl ⟨by rfl, ?_⟩) (by assumption) ?_
            (rotate_left); (focus (intro wv hSw; (obtain ⟨qC, qD, qE, qB⟩ := hSw);  go_simp; (try with_reducible rfl)))
            try simp only [Act.put, List.getElem_toArray, List.getElem_cons_succ, List.getElem_cons_zero, List.setIfInBounds_toArray, List.set_cons_zero, List.set_cons_succ]
            refine wpAnyH_take (i := 11) (oi := _) (v := ?_) rfl (by kernel_rfl) (by kernel_rfl) (by kernel_rfl) (fun _ _ _ h => h) (Or.inl ⟨by rfl, ?_⟩) (by assumption) ?_
            (rotate_left); (focus (intro wv hSw; (obtain ⟨qC, qD, qE, qB⟩ := hSw);  go_simp; (try with_reducible rfl)))
            try simp only [Act.put, List.getElem_toArray, List.getElem_cons_succ, List.getElem_cons_zero, List.setIfInBounds_toArray, List.set_cons_zero, List.set_cons_succ]
            refine wpAnyH_take (i := 12) (oi := _) (v := ?_) rfl (by kernel_rfl) (by kernel_rfl) (by kernel_rfl) (fun _ _ _ h => h) (Or.inl ⟨by rfl, ?_⟩) (by assumption) ?_
            (rotate_left); (focus (intro wv hSw; (obtain ⟨qC, qD, qE, qB⟩ := hSw);  go_simp; (try with_reducible rfl)))
            try simp only [Act.put, List.getElem_toArray, List.getElem_cons_succ, List.getElem_cons_zero, List.setIfInBounds_toArray, List.set_cons_zero, List.set_cons_succ]
            refine wpAnyH_take (i := 13) (oi := _) (v := ?_) rfl (by kernel_rfl) (by kernel_rfl) (by kernel_rfl) (fun _ _ _ h => h) (Or.inl ⟨by rfl, ?_⟩) (by assumption) ?_
            (rotate_left); (focus (intro wv hSw; (obtain ⟨qC, qD, qE, qB⟩ := hSw);  go_simp; (try with_reducible rfl)))
            try simp only [Act.put, List.getElem_toArray, List.getElem_cons_succ, List.getElem_cons_zero, List.setIfInBounds_toArray, List.set_cons_zero, List.set_cons_succ]
            refine wpAnyH_take (i := 14) (oi := _) (v := ?_) rfl (by kernel_rfl) (by kernel_rfl) (by kernel_rfl) (fun _ _ _ h => h) (Or.inl ⟨by rfl, ?_⟩) (by assumption) ?_
            (rotate_left); (focus (intro wv hSw; (obtain ⟨qC, qD, qE, qB⟩ := hSw);  go_simp; (try with_reducible rfl)))
            try simp only [Act.put, List.getElem_toArray, List.getElem_cons_succ, List.getElem_cons_zero, List.setIfInBounds_toArray, List.set_cons_zero, List.set_cons_succ]
            refine wpAnyH_take (i := 15) (oi := _) (v := ?_) rfl (by kernel_rfl) (by kernel_rfl) (by kernel_rfl) (fun _ _ _ h => h) (Or.inl ⟨by rfl, ?_⟩) (by assumption) ?_
            (rotate_left); (focus (intro wv hSw; (obtain ⟨qC, qD, qE, qB⟩ := hSw);  go_simp; (try with_reducible rfl)))
            try simp only [Act.put, List.getElem_toArray, List.getElem_cons_succ, List.getElem_cons_zero, List.setIfInBounds_toArray, List.set_cons_zero, List.set_cons_succ]
            refine wpAnyH_take (i := 16) (oi := _) (v := ?_) rfl (by kernel_rfl) (by kernel_rfl) (by kernel_rfl) (fun _ _ _ h => h) (Or.inl ⟨by rfl, ?_⟩) (by assumption) ?_
            (rotate_left); (focus (intro wv hSw; (obtain ⟨qC, qD, qE, qB⟩ := hSw);  go_simp; (try with_reducible rfl)))
            try simp only [Act.put, List.getElem_toArray, List.getElem_cons_succ, List.getElem_cons_zero, List.setIfInBounds_toArray, List.set_cons_zero, List.set_cons_succ]
            refine wpAnyH_take (i := 17) (oi := _) (v := ?_) rfl (by kernel_rfl) (by kernel_rfl) (by kernel_rfl) (fun _ _ _ h => h) (Or.inl ⟨by rfl, ?_⟩) (by assumption) ?_
            (rotate_left); (focus (intro wv hSw; (obtain ⟨qC, qD, qE, qB⟩ := hSw);  go_simp; (try with_reducible rfl)))
            try simp only [Act.put, List.getElem_toArray, List.getElem_cons_succ, List.getElem_cons_zero, List.setIfInBounds_toArray, List.set_cons_zero, List.set_cons_succ]
            refine wpAnyH_take (i := 18) (oi := _) (v := ?_) rfl (by kernel_rfl) (by kernel_rfl) (by kernel_rfl) (fun _ _ _ h => h) (Or.inl ⟨by rfl, ?_⟩) (by assumption) ?_
            (rotate_left); (focus (intro wv hSw; (obtain ⟨qC, qD, qE, qB⟩ := hSw);  go_simp; (try with_reducible rfl)))
            try simp only [Act.put, List.getElem_toArray, List.getElem_cons_succ, List.getElem_cons_zero, List.setIfInBounds_toArray, List.set_cons_zero, List.set_cons_succ]
            refine wpAnyH_take (i := 19) (oi := _) (v := ?_) rfl (by kernel_rfl) (by kernel_rfl) (by kernel_rfl) (fun _ _ _ h => h) (Or.inl ⟨by rfl, ?_⟩) (by assumption) ?_
            (rotate_left); (focus (intro wv hSw; (obtain ⟨qC, qD, qE, qB⟩ := hSw);  go_simp; (try with_reducible rfl)))
            try simp only [Act.put, List.getElem_toArray, List.getElem_cons_succ, List.getElem_cons_zero, List.setIfInBounds_toArray, List.set_cons_zero, List.set_cons_succ]
            refine wpAnyH_ready (rs := [20]) (by kernel_rfl) (by simp) ?_
            refine AllReadyH.cons (o := _) rfl (fun K hK => ?_) AllReadyH.nil
            go_simp
            (go_at_call 59; refine (sIn9_bw _ HW.out).mono ?_; rintro e x0c ⟨rfl, hw_0c⟩)
            refine hK.out _ _ ⟨celS_next hC_0 hw_0c, celS_next hD_0 hw_0c, celS_next hE_0 hw_0c, bel_next hB_0 hw_0c⟩ (fun hHeld => ?_)
            clear hK K
            try simp only [Act.put, List.getElem_toArray, List.getElem_cons_succ, List.getElem_cons_zero, List.setIfInBounds_toArray, List.set_cons_zero, List.set_cons_succ]
            obtain ⟨hC_0c, hD_0c, hE_0c, hB_0c⟩ := id hHeld
            refine wpAnyH_take (i := 21) (oi := _) (v := ?_) rfl (by kernel_rfl) (by kernel_rfl) (by kernel_rfl) (fun _ _ _ h => h) (Or.inl ⟨by rfl, ?_⟩) (by assumption) ?_
            (rotate_left); (focus (intro wv hSw; (obtain ⟨qC, qD, qE, qB⟩ := hSw);  go_simp; (try with_reducible rfl)))
            try simp only [Act.put, List.getElem_toArray, List.getElem_cons_succ, List.getElem_cons_zero, List.setIfInBounds_toArray, List.set_cons_zero, List.set_cons_succ]
            refine wpAnyH_done (by kernel_rfl) ?_ _
            clear y1
            have hBq := hB_0c
            have hq1 := HTW.out
            have hq2 := HSW.out
            go_wp2_with fail
            try rw [HCA.out]
            refine (HIH.out (k + 1) (s - 2 ^ b) _ HDK.out (by omega) t0 t1 (h.next hBq) (h2.next hBq)).mono ?_; rintro E w6 ⟨rfl, hw6⟩
            rw [HU.out]
            have hB6 := bel_next hBq hw6
            clear hq1 hq2
            by_cases hmx : v < 1 + u
            · have HMX : Hid (max v (1 + u) = 1 + u) := Lib.hid (by omega)
              go_wp2_with fail
              go_roundw
              case rel => exact ⟨b + 1, 1 + u, by go_num, (by first | rfl | rw [if_pos hmx] | rw [if_neg hmx] | simp [hmx]), by omega, by omega, by omega, Lib.hid (HV2.out.trans HMX.out), hB6⟩
              case measure => simp [intOf]; omega
            · have HMX : Hid (max v (1 + u) = v) := Lib.hid (by omega)
              go_wp2_with fail
              go_roundw
              case rel => exact ⟨b + 1, v, by go_num, (by first | rfl | rw [if_pos hmx] | rw [if_neg hmx] | simp [hmx]), by omega, by omega, by omega, Lib.hid (HV2.out.trans HMX.out), hB6⟩
              case measure => simp [intOf]; omega
      · obtain rfl : b = n := by omega
        have hbn : ¬ (b : Int) < (b : Int) := by omega
        go_wp2_with fail
        go_ret
        exact ⟨ret_int (by rw [HDR.out, HV.out]), hB⟩
set_option maxHeartbeats 4000000 in
theorem iPx_is (A A2 : Option Addr) (cap cap2 : Nat) (bs : List Int) (ps : List VPlant) {n m : Nat} {r : Int} (w : World) (hn : bs.length = n) (hm : ps.length = m) (h : SRow encNum w A bs) (h2 : SRow encPlant w A2 ps) (hn2 : n ≤ 2000000) (hm2 : m ≤ 2000000) (hr : pxI bs ps = r) :
    Calls Try.prog 19 #[.slice A n cap, .slice A2 m cap2] w fun E w' => E = .returned (.int .i64 r) ∧ Below w.heap.size w w' := by
  obtain ⟨l9, hl9⟩ : ∃ l, pbL bs ps = l := ⟨_, rfl⟩
  have hl6 : l9.length ≤ 6 := by rw [← hl9]; exact pbL_len
  have hr9 : pmI bs ps l9 = r := by rw [← hl9]; exact hr
  obtain ⟨q, hq⟩ : ∃ q, l9.length = q := ⟨_, rfl⟩
  rw [hq] at hl6
  have HL := Lib.hid hl9
  have HQ := Lib.hid hq
  have HR := Lib.hid hr9
  clear hl9 hq hr9 hr
  have HN := Lib.hid hn
  have HM := Lib.hid hm
  clear hn hm
  go_enter Try.func19, Try.ntmps19
  go_wp2_with fail
  refine (iPb_is A A2 cap cap2 bs ps _ HN.out HM.out h h2 hn2 hm2 HL.out).mono ?_; rintro E w1 ⟨V, cv, rfl, hO, hB1⟩
  rw [HQ.out]
  have hcv : q ≤ cv := by have := hO.cap.1; rw [HQ.out] at this; exact this
  go_wp2_with fail
  refine (iPm_is A A2 V cap cap2 cv bs ps l9 _ HN.out HM.out HQ.out (h.next hB1) (h2.next hB1) hO.row hn2 hm2 (by omega) hcv HR.out).mono ?_; rintro E w2 ⟨rfl, hw2⟩
  have hB2 := bel_next hB1 hw2
  go_wp2
  go_ret
  exact ⟨rfl, hB2⟩
set_option maxHeartbeats 4000000 in
theorem sPx_is (A A2 : Option Addr) (cap cap2 : Nat) (bs : List Int) (ps : List VPlant) {n m : Nat} {r : Int} (w : World) (hn : bs.length = n) (hm : ps.length = m) (h : SRow encNum w A bs) (h2 : SRow encPlant w A2 ps) (hn2 : n ≤ 2000000) (hm2 : m ≤ 2000000) (hr : pxI bs ps = r) :
    Calls Try.prog 29 #[.slice A n cap, .slice A2 m cap2] w fun E w' => E = .returned (.int .i64 r) ∧ Below w.heap.size w w' := by
  cases hv : bsB bs
  · obtain rfl : r = -1 := by rw [← hr]; exact pxI_no1 hv
    have HV := Lib.hid hv
    clear hv hr
    have HN := Lib.hid hn
    have HM := Lib.hid hm
    clear hn hm
    go_enter Try.func29, Try.ntmps29
    go_wp2_with fail
    refine (sBe_is A cap bs _ HN.out h hn2 HV.out).mono ?_; rintro E w1 ⟨rfl, hB1⟩
    go_wp2
    go_ret
    exact ⟨rfl, hB1⟩
  · cases hv2 : ptB ps
    · obtain rfl : r = -1 := by rw [← hr]; exact pxI_no2 hv2
      have HV := Lib.hid hv
      have HV2 := Lib.hid hv2
      clear hv hv2 hr
      have HN := Lib.hid hn
      have HM := Lib.hid hm
      clear hn hm
      go_enter Try.func29, Try.ntmps29
      go_wp2_with fail
      refine (sBe_is A cap bs _ HN.out h hn2 HV.out).mono ?_; rintro E w1 ⟨rfl, hB1⟩
      go_wp2_with fail
      refine (sPt_is A2 cap2 ps _ HM.out (h2.next hB1) hm2 HV2.out).mono ?_; rintro E w2 ⟨rfl, hw2⟩
      have hB2 := bel_next hB1 hw2
      go_wp2
      go_ret
      exact ⟨rfl, hB2⟩
    · have hn6 : n ≤ 6 := by have := (bsB_iff.1 hv).1; omega
      have hm6 : m ≤ 6 := by have := (ptB_iff.1 hv2).1; omega
      have HRR : Hid (moI bs (ps.drop 0) (alI n) = r) := Lib.hid (by rw [← hr, ← mo_px hv hv2, hn, List.drop_zero]; rfl)
      obtain ⟨a0, a1⟩ := alI_bd hn6
      have HALW := Lib.hid (all_w hn6)
      have HV := Lib.hid hv
      have HV2 := Lib.hid hv2
      clear hv hv2 hr
      have HN := Lib.hid hn
      have HM := Lib.hid hm
      clear hn hm
      have hni : (n : Int) ≤ 64 := by omega
      go_enter Try.func29, Try.ntmps29
      go_wp2_with fail
      refine (sBe_is A cap bs _ HN.out h hn2 HV.out).mono ?_; rintro E w1 ⟨rfl, hB1⟩
      go_wp2_with fail
      refine (sPt_is A2 cap2 ps _ HM.out (h2.next hB1) hm2 HV2.out).mono ?_; rintro E w2 ⟨rfl, hw2⟩
      have hB2 := bel_next hB1 hw2
      go_wp2_with fail
      rw [HALW.out]
      refine (sMo_any A A2 cap cap2 bs ps HN.out HM.out hn6 hm6 m 0 (alI n) _ (by omega) (by omega) a0 (by omega) (h.next hB2) (h2.next hB2)).mono ?_; rintro E w3 ⟨rfl, hw3⟩
      have hB3 := bel_next hB2 hw3
      rw [HRR.out]
      go_wp2
      go_ret
      exact ⟨rfl, hB3⟩
end Go.Proofs.Ytaikodebmkjafaa
