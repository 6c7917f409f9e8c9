/- Contracts of chapter 5: how many directions light a place. -/
import Derived.Test.YtiicohbghpknhaaVl
namespace Go.Proofs.Ytiicohbghpknhaa
open Go Go.ChangeShapes Go.WideShapes Go.ChangeAt Go.RowKit
set_option linter.unusedSimpArgs false
set_option linter.unusedVariables false

def liR (pe pn : Int) (xs : List VBlock) (r : VRay) : Bool := liB pe pn xs r.1 r.2.1 r.2.2
def rlV (pe pn : Int) (xs : List VBlock) (rs : List VRay) : Int := if (plB pe pn && (bsB xs && rs.all ryV)) = true then (rs.countP (liR pe pn xs) : Nat) else -1
theorem cnt_step {α : Type} {p : α → Bool} {xs : List α} {k c : Nat} (hk : k < xs.length) (h : (xs.take k).countP p = c) : (xs.take (k + 1)).countP p = c + (if p xs[k] = true then 1 else 0) := by
  rw [List.take_succ_eq_append_getElem hk, List.countP_append, h, List.countP_singleton]
theorem cnt_all {α : Type} {p : α → Bool} {xs : List α} {k c n : Nat} (hn : xs.length = n) (hk : n ≤ k) (h : (xs.take k).countP p = c) : xs.countP p = c := by
  rwa [List.take_of_length_le (by omega)] at h
set_option maxHeartbeats 4000000 in
theorem iRl_any (A A2 : Option Addr) (cap cap2 : Nat) (xs : List VBlock) (rs : List VRay) {n m : Nat} (pe pn : Int) (w : World) (hn : xs.length = n) (h : SRow encBlock w A xs) (hl : n ≤ 2000000) (hm : rs.length = m) (h2 : SRow encRay w A2 rs) (hl2 : m ≤ 2000000) :
    Calls Try.prog 21 #[.agg #[.int .i64 pe, .int .i64 pn], .slice A n cap, .slice A2 m cap2] w fun E w' => E = .returned (.int .i64 (rlV pe pn xs rs)) ∧ Below w.heap.size w w' := by
  have HN := Lib.hid hn
  have HM := Lib.hid hm
  clear hn hm
  cases hp : plB pe pn
  · have hv : rlV pe pn xs rs = -1 := by unfold rlV; rw [hp]; simp
    rw [hv]
    clear hv
    have HP := Lib.hid hp
    clear hp
    go_enter Try.func21, Try.ntmps21
    go_wp2_with fail
    refine (iPV_is _ HP.out).mono ?_; rintro E w1 ⟨rfl, hw1⟩
    obtain ⟨hP1, hB1⟩ := ownb hw1
    obtain ⟨cP1_0, cP1_1, fP1_0, fP1_1, zP1⟩ := blk2 hP1
    go_wp2
    go_ret
    exact ⟨rfl, hB1⟩
  · skip
    cases hb : bsB xs
    · have hv : rlV pe pn xs rs = -1 := by unfold rlV; rw [hp, hb]; simp
      rw [hv]
      clear hv
      have HP := Lib.hid hp
      have HBs := Lib.hid hb
      clear hp hb
      go_enter Try.func21, Try.ntmps21
      go_wp2_with fail
      refine (iPV_is _ HP.out).mono ?_; rintro E w1 ⟨rfl, hw1⟩
      obtain ⟨hP1, hB1⟩ := ownb hw1
      obtain ⟨cP1_0, cP1_1, fP1_0, fP1_1, zP1⟩ := blk2 hP1
      go_wp2_with fail
      refine (iBs_is A cap xs _ HN.out (h.next hB1) hl HBs.out).mono ?_; rintro E w2 ⟨rfl, hw2⟩
      have hP2 := blk_next hP1 hw2
      have hB2 := bel_next hB1 hw2
      obtain ⟨cP2_0, cP2_1, fP2_0, fP2_1, zP2⟩ := blk2 hP2
      go_wp2
      go_ret
      exact ⟨rfl, hB2⟩
    · skip
      cases hr : rs.all ryV
      · have hv : rlV pe pn xs rs = -1 := by unfold rlV; rw [hp, hb, hr]; simp
        rw [hv]
        clear hv
        have HP := Lib.hid hp
        have HBs := Lib.hid hb
        have HR := Lib.hid hr
        clear hp hb hr
        go_enter Try.func21, Try.ntmps21
        go_wp2_with fail
        refine (iPV_is _ HP.out).mono ?_; rintro E w1 ⟨rfl, hw1⟩
        obtain ⟨hP1, hB1⟩ := ownb hw1
        obtain ⟨cP1_0, cP1_1, fP1_0, fP1_1, zP1⟩ := blk2 hP1
        go_wp2_with fail
        refine (iBs_is A cap xs _ HN.out (h.next hB1) hl HBs.out).mono ?_; rintro E w2 ⟨rfl, hw2⟩
        have hP2 := blk_next hP1 hw2
        have hB2 := bel_next hB1 hw2
        obtain ⟨cP2_0, cP2_1, fP2_0, fP2_1, zP2⟩ := blk2 hP2
        go_wp2_with fail
        refine (iAllRay A2 cap2 rs _ HM.out (h2.next hB2) hl2 HR.out).mono ?_; rintro E w3 ⟨rfl, hw3⟩
        have hP3 := blk_next hP2 hw3
        have hB3 := bel_next hB2 hw3
        obtain ⟨cP3_0, cP3_1, fP3_0, fP3_1, zP3⟩ := blk2 hP3
        go_wp2
        go_ret
        exact ⟨rfl, hB3⟩
      · have HP := Lib.hid hp
        have HBs := Lib.hid hb
        have HR := Lib.hid hr
        clear hp hb hr
        go_enter Try.func21, Try.ntmps21
        go_wp2_with fail
        refine (iPV_is _ HP.out).mono ?_; rintro E w1 ⟨rfl, hw1⟩
        obtain ⟨hP1, hB1⟩ := ownb hw1
        obtain ⟨cP1_0, cP1_1, fP1_0, fP1_1, zP1⟩ := blk2 hP1
        go_wp2_with fail
        refine (iBs_is A cap xs _ HN.out (h.next hB1) hl HBs.out).mono ?_; rintro E w2 ⟨rfl, hw2⟩
        have hP2 := blk_next hP1 hw2
        have hB2 := bel_next hB1 hw2
        obtain ⟨cP2_0, cP2_1, fP2_0, fP2_1, zP2⟩ := blk2 hP2
        go_wp2_with fail
        refine (iAllRay A2 cap2 rs _ HM.out (h2.next hB2) hl2 HR.out).mono ?_; rintro E w3 ⟨rfl, hw3⟩
        have hP3 := blk_next hP2 hw3
        have hB3 := bel_next hB2 hw3
        obtain ⟨cP3_0, cP3_1, fP3_0, fP3_1, zP3⟩ := blk2 hP3
        go_wp2_with fail
        go_loopw [7, 25] (fun s7 v wr => ∃ k c : Nat, v = .int .i64 k ∧ s7 = .int .i64 c ∧ c ≤ k ∧ k ≤ m ∧ Hid ((rs.take k).countP (liR pe pn xs) = c) ∧ wr.heap[w.heap.size]? = some (.cells #[.int .i64 pe, .int .i64 pn] 41 (0, 0)) ∧ Below w.heap.size w wr) (fun _ v _ => (m - intOf v).toNat)
        case atStart => exact ⟨0, 0, rfl, rfl, by omega, by omega, (by show _ = _; rfl), hP3, hB3⟩
        case round =>
          obtain ⟨k, c, rfl, rfl, c1, k1, HC, hP, hB⟩ := hrel
          by_cases hlt : k < m
          · have hk : k < rs.length := by rw [HM.out]; exact hlt
            have hki : (k : Int) < (m : Int) := by omega
            obtain ⟨b, off, rfl, hb, c0, c1_, c2⟩ := rowRay (h2.next hB) hk
            obtain ⟨p0, p1, _, _, zp⟩ := blk2 hP
            obtain ⟨v, hv⟩ : ∃ v, liR pe pn xs rs[k] = v := ⟨_, rfl⟩
            have HV := Lib.hid hv
            have HC2 := Lib.hid (cnt_step hk HC.out)
            rw [hv] at HC2
            clear hv
            go_wp2_with fail
            refine (iLi_is A cap xs pe pn _ _ _ _ HN.out (h.next (hB.alloc hB.size _)) hl HV.out).mono ?_; rintro e w1 ⟨rfl, hw1⟩
            have hP1 := blk_next (blk_old hP _) hw1
            have hB1 := bel_next (hB.alloc hB.size _) hw1
            cases v
            · go_wp2_with fail
              go_roundw
              case rel => exact ⟨k + 1, c, by go_num, rfl, by omega, by omega, HC2, hP1, hB1⟩
              case measure => simp [intOf]; omega
            · go_wp2_with fail
              go_roundw
              case rel => exact ⟨k + 1, c + 1, by go_num, by go_num, by omega, by omega, HC2, hP1, hB1⟩
              case measure => simp [intOf]; omega
          · have hki : ¬ (k : Int) < (m : Int) := by omega
            have hv : rlV pe pn xs rs = c := by unfold rlV; rw [HP.out, HBs.out, HR.out, cnt_all HM.out (by omega) HC.out]; simp
            have HV := Lib.hid hv
            clear hv
            go_wp2_with fail
            go_ret
            exact ⟨ret_int HV.out.symm, hB⟩
set_option maxRecDepth 100000 in
set_option maxHeartbeats 4000000 in
theorem sRl_any (A A2 : Option Addr) (cap cap2 : Nat) (xs : List VBlock) (rs : List VRay) {n m : Nat} (pe pn : Int) (w : World) (hn : xs.length = n) (h : SRow encBlock w A xs) (hl : n ≤ 2000000) (hm : rs.length = m) (h2 : SRow encRay w A2 rs) (hl2 : m ≤ 2000000) :
    Calls Try.prog 22 #[.agg #[.int .i64 pe, .int .i64 pn], .slice A n cap, .slice A2 m cap2] w fun E w' => E = .returned (.int .i64 (rlV pe pn xs rs)) ∧ Below w.heap.size w w' := by
  have HN := Lib.hid hn
  have HM := Lib.hid hm
  clear hn hm
  cases hp : plB pe pn
  · have hv : rlV pe pn xs rs = -1 := by unfold rlV; rw [hp]; simp
    rw [hv]
    clear hv
    have HP := Lib.hid hp
    clear hp
    go_enter Try.func22, Try.ntmps22
    go_wp2_with fail
    refine (sPV_is _ HP.out).mono ?_; rintro E w1 ⟨rfl, hw1⟩
    obtain ⟨hP1, hB1⟩ := ownb hw1
    obtain ⟨cP1_0, cP1_1, fP1_0, fP1_1, zP1⟩ := blk2 hP1
    go_wp2
    go_ret
    exact ⟨rfl, hB1⟩
  · skip
    cases hb : bsB xs
    · have hv : rlV pe pn xs rs = -1 := by unfold rlV; rw [hp, hb]; simp
      rw [hv]
      clear hv
      have HP := Lib.hid hp
      have HBs := Lib.hid hb
      clear hp hb
      go_enter Try.func22, Try.ntmps22
      go_wp2_with fail
      refine (sPV_is _ HP.out).mono ?_; rintro E w1 ⟨rfl, hw1⟩
      obtain ⟨hP1, hB1⟩ := ownb hw1
      obtain ⟨cP1_0, cP1_1, fP1_0, fP1_1, zP1⟩ := blk2 hP1
      go_wp2_with fail
      refine (sBs_is A cap xs _ HN.out (h.next hB1) hl HBs.out).mono ?_; rintro E w2 ⟨rfl, hw2⟩
      have hP2 := blk_next hP1 hw2
      have hB2 := bel_next hB1 hw2
      obtain ⟨cP2_0, cP2_1, fP2_0, fP2_1, zP2⟩ := blk2 hP2
      go_wp2
      go_ret
      exact ⟨rfl, hB2⟩
    · have HP := Lib.hid hp
      have HBs := Lib.hid hb
      clear hp hb
      go_enter Try.func22, Try.ntmps22
      go_wp2_with fail
      refine (sPV_is _ HP.out).mono ?_; rintro E w1 ⟨rfl, hw1⟩
      obtain ⟨hP1, hB1⟩ := ownb hw1
      obtain ⟨cP1_0, cP1_1, fP1_0, fP1_1, zP1⟩ := blk2 hP1
      go_wp2_with fail
      refine (sBs_is A cap xs _ HN.out (h.next hB1) hl HBs.out).mono ?_; rintro E w2 ⟨rfl, hw2⟩
      have hP2 := blk_next hP1 hw2
      have hB2 := bel_next hB1 hw2
      obtain ⟨cP2_0, cP2_1, fP2_0, fP2_1, zP2⟩ := blk2 hP2
      go_wp2_with fail
      go_loopw [7, 8] (fun s7 v wr => ∃ k c : Nat, v = .int .i64 k ∧ s7 = .int .i64 c ∧ c ≤ k ∧ k ≤ m ∧ Hid ((rs.take k).all ryV = true) ∧ Hid ((rs.take k).countP (liR pe pn xs) = c) ∧ wr.heap[w.heap.size]? = some (.cells #[.int .i64 pe, .int .i64 pn] 41 (0, 0)) ∧ Below w.heap.size w wr) (fun _ v _ => (m - intOf v).toNat)
      case atStart => exact ⟨0, 0, rfl, rfl, by omega, by omega, (by show _ = _; rfl), (by show _ = _; rfl), hP2, hB2⟩
      case round =>
        obtain ⟨k, c, rfl, rfl, c1, k1, HA_, HC, hP, hB⟩ := hrel
        by_cases hlt : k < m
        · have hk : k < rs.length := by rw [HM.out]; exact hlt
          have hki : (k : Int) < (m : Int) := by omega
          obtain ⟨b, off, rfl, hb, c0, c1_, c2⟩ := rowRay (h2.next hB) hk
          obtain ⟨u, hu⟩ : ∃ u, ryV rs[k] = u := ⟨_, rfl⟩
          have HU := Lib.hid hu
          clear hu
          go_wp2_with fail
          refine (sRV_is _ HU.out).mono ?_; rintro e w1 ⟨rfl, hw1⟩
          have hP1 := blk_next hP hw1
          have hB1 := bel_next hB hw1
          clear c0 c1_ c2 hb
          cases u
          · have hv : rlV pe pn xs rs = -1 := by unfold rlV; rw [all_no hk HU.out]; simp
            have HV := Lib.hid hv
            clear hv
            go_wp2_with fail
            go_ret
            exact ⟨ret_int HV.out.symm, hB1⟩
          · obtain ⟨v, hv⟩ : ∃ v, liR pe pn xs rs[k] = v := ⟨_, rfl⟩
            have HV := Lib.hid hv
            have HC2 := Lib.hid (cnt_step hk HC.out)
            rw [hv] at HC2
            clear hv
            have HA : Hid (∀ wv, Below w.heap.size w wv → wv.cell? ⟨b, off + k * 3, none⟩ = some (.int .i64 rs[k].1) ∧ wv.cell? ⟨b, off + k * 3 + 1, none⟩ = some (.int .i64 rs[k].2.1) ∧ wv.cell? ⟨b, off + k * 3 + 2, none⟩ = some (.int .i64 rs[k].2.2)) := by
              intro wv hw
              obtain ⟨_, _, e, _, hc⟩ := rowRay (h2.next hw) hk
              simp only [Option.some.injEq, Addr.mk.injEq, and_true] at e
              obtain ⟨rfl, rfl⟩ := e
              exact hc
            have HA2 := Lib.hid (all_step hk HA_.out HU.out)
            go_wp2_with fail
            refine wp_region_held_drew (S := (fun w' => w'.heap[w.heap.size]? = some (.cells #[.int .i64 pe, .int .i64 pn] 41 (0, 0)) ∧ Below w.heap.size w w')) (by kernel_rfl) ⟨hP1, hB1.drew⟩ (fun hHeld => ?_)
            obtain ⟨hP_0, hB_0⟩ := id hHeld
            refine wpAnyH_take (i := 0) (oi := _) (v := ?_) rfl (by kernel_rfl) (by kernel_rfl) (by kernel_rfl) (fun _ _ _ h => h) (Or.inl ⟨by rfl, ?_⟩) (by assumption) ?_
            (rotate_left); (focus (intro wv hSw; (obtain ⟨qP, qB⟩ := hSw); obtain ⟨m0, m1, _, _, mz⟩ := blk2 qP; go_simp; (try with_reducible rfl)))
            try simp only [Act.put, List.getElem_toArray, List.getElem_cons_succ, List.getElem_cons_zero, List.setIfInBounds_toArray, List.set_cons_zero, List.set_cons_succ]
            refine wpAnyH_take (i := 1) (oi := _) (v := ?_) rfl (by kernel_rfl) (by kernel_rfl) (by kernel_rfl) (fun _ _ _ h => h) (Or.inl ⟨by rfl, ?_⟩) (by assumption) ?_
            (rotate_left); (focus (intro wv hSw; (obtain ⟨qP, qB⟩ := hSw);  go_simp; (try with_reducible rfl)))
            try simp only [Act.put, List.getElem_toArray, List.getElem_cons_succ, List.getElem_cons_zero, List.setIfInBounds_toArray, List.set_cons_zero, List.set_cons_succ]
            refine wpAnyH_take (i := 2) (oi := _) (v := ?_) rfl (by kernel_rfl) (by kernel_rfl) (by kernel_rfl) (fun _ _ _ h => h) (Or.inl ⟨by rfl, ?_⟩) (by assumption) ?_
            (rotate_left); (focus (intro wv hSw; (obtain ⟨qP, qB⟩ := hSw);  go_simp; (try with_reducible rfl)))
            try simp only [Act.put, List.getElem_toArray, List.getElem_cons_succ, List.getElem_cons_zero, List.setIfInBounds_toArray, List.set_cons_zero, List.set_cons_succ]
            refine wpAnyH_take (i := 3) (oi := _) (v := ?_) rfl (by kernel_rfl) (by kernel_rfl) (by kernel_rfl) (fun _ _ _ h => h) (Or.inl ⟨by rfl, ?_⟩) (by assumption) ?_
            (rotate_left); (focus (intro wv hSw; (obtain ⟨qP, qB⟩ := hSw);  go_simp; (try with_reducible rfl)))
            try simp only [Act.put, List.getElem_toArray, List.getElem_cons_succ, List.getElem_cons_zero, List.setIfInBounds_toArray, List.set_cons_zero, List.set_cons_succ]
            refine wpAnyH_take (i := 4) (oi := _) (v := ?_) rfl (by kernel_rfl) (by kernel_rfl) (by kernel_rfl) (fun _ _ _ h => h) (Or.inl ⟨by rfl, ?_⟩) (by assumption) ?_
            (rotate_left); (focus (intro wv hSw; (obtain ⟨qP, qB⟩ := hSw);  go_simp; (try with_reducible rfl)))
            try simp only [Act.put, List.getElem_toArray, List.getElem_cons_succ, List.getElem_cons_zero, List.setIfInBounds_toArray, List.set_cons_zero, List.set_cons_succ]
            refine wpAnyH_take (i := 5) (oi := _) (v := ?_) rfl (by kernel_rfl) (by kernel_rfl) (by kernel_rfl) (fun _ _ _ h => h) (Or.inl ⟨by rfl, ?_⟩) (by assumption) ?_
            (rotate_left); (focus (intro wv hSw; (obtain ⟨qP, qB⟩ := hSw); obtain ⟨m0, m1, m2⟩ := HA.out wv qB; go_simp; (try with_reducible rfl)))
            try simp only [Act.put, List.getElem_toArray, List.getElem_cons_succ, List.getElem_cons_zero, List.setIfInBounds_toArray, List.set_cons_zero, List.set_cons_succ]
            refine wpAnyH_ready (rs := [6]) (by kernel_rfl) (by simp) ?_
            refine AllReadyH.cons (o := _) rfl (fun K hK => ?_) AllReadyH.nil
            go_simp
            (go_at_call 57; refine (sLi_is A cap xs pe pn _ _ _ _ HN.out (h.next hB_0) hl HV.out).mono ?_; rintro e x0c ⟨rfl, hw_0c⟩)
            refine hK.out _ _ ⟨blk_next hP_0 hw_0c, bel_next hB_0 hw_0c⟩ (fun hHeld => ?_)
            clear hK K
            try simp only [Act.put, List.getElem_toArray, List.getElem_cons_succ, List.getElem_cons_zero, List.setIfInBounds_toArray, List.set_cons_zero, List.set_cons_succ]
            obtain ⟨hP_0c, hB_0c⟩ := id hHeld
            refine wpAnyH_done (by kernel_rfl) ?_ _
            cases v
            · go_wp2_with fail
              go_roundw
              case rel => exact ⟨k + 1, c, by go_num, rfl, by omega, by omega, HA2, HC2, hP_0c, hB_0c⟩
              case measure => simp [intOf]; omega
            · go_wp2_with fail
              go_roundw
              case rel => exact ⟨k + 1, c + 1, by go_num, by go_num, by omega, by omega, HA2, HC2, hP_0c, hB_0c⟩
              case measure => simp [intOf]; omega
        · have hki : ¬ (k : Int) < (m : Int) := by omega
          have hv : rlV pe pn xs rs = c := by unfold rlV; rw [HP.out, HBs.out, all_yes HM.out (by omega) HA_.out, cnt_all HM.out (by omega) HC.out]; simp
          have HV := Lib.hid hv
          clear hv
          go_wp2_with fail
          go_ret
          exact ⟨ret_int HV.out.symm, hB⟩
theorem iRl_is (A A2 : Option Addr) (cap cap2 : Nat) (xs : List VBlock) (rs : List VRay) {n m : Nat} (pe pn : Int) (w : World) (hn : xs.length = n) (h : SRow encBlock w A xs) (hl : n ≤ 2000000) (hm : rs.length = m) (h2 : SRow encRay w A2 rs) (hl2 : m ≤ 2000000) {r : Int} (hr : rlV pe pn xs rs = r) : Calls Try.prog 21 #[.agg #[.int .i64 pe, .int .i64 pn], .slice A n cap, .slice A2 m cap2] w fun E w' => E = .returned (.int .i64 r) ∧ Below w.heap.size w w' := by subst hr; exact iRl_any A A2 cap cap2 xs rs pe pn w hn h hl hm h2 hl2
theorem sRl_is (A A2 : Option Addr) (cap cap2 : Nat) (xs : List VBlock) (rs : List VRay) {n m : Nat} (pe pn : Int) (w : World) (hn : xs.length = n) (h : SRow encBlock w A xs) (hl : n ≤ 2000000) (hm : rs.length = m) (h2 : SRow encRay w A2 rs) (hl2 : m ≤ 2000000) {r : Int} (hr : rlV pe pn xs rs = r) : Calls Try.prog 22 #[.agg #[.int .i64 pe, .int .i64 pn], .slice A n cap, .slice A2 m cap2] w fun E w' => E = .returned (.int .i64 r) ∧ Below w.heap.size w w' := by subst hr; exact sRl_any A A2 cap cap2 xs rs pe pn w hn h hl hm h2 hl2
end Go.Proofs.Ytiicohbghpknhaa
