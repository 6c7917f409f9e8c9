/- Contracts of chapter 6: cities that are turned. -/
import Derived.Test.YtidppabconifkaaYl
import Derived.Laws.AppendOwn
import Derived.RegionTactic
import Derived.Deep.CutBlock
import Derived.Deep.DeepCutAuto
namespace Go.Proofs.Ytidppabconifkaa
open Go Go.Deep Go.ChangeShapes Go.WideShapes Go.ChangeAt Go.RowKit
set_option linter.unusedSimpArgs false
set_option linter.unusedVariables false

theorem wp_make_structsY {P : Program} (w : World) {o : Oper} {a : Act} {Q : Exit → Act → World → Prop} {K : Act → World → Prop} {α : Type} (E : Enc α) (z0 : α)
    (l c : Operand) (t : TypeId) (hop : o.op = Op.makeSlice t l c)
    (e : TypeId) (i : TypeInfo) (z : Value) (ht : P.underlying t = some (.slice e)) (hi : P.info? e = some i) (hz : i.zero = some z) (hsize : i.size = E.k) (hz2 : z.cells = (E.enc z0).toArray)
    (kl kc : IntKind) (n : Nat) (hl : a.eval l = .int kl (n : Int)) (hc : a.eval c = .int kc (n : Int)) (hbytes : i.bytes * n ≤ 281474976710656) (h63 : n ≤ 9223372036854775807)
    (hK : K (a.put o.dst (.slice (some ⟨w.heap.size, 0, none⟩) n n)) (w.alloc (.cells (E.flat (List.replicate n z0)).toArray e))) :
    o.wp P a w K Q := by
  have hb' : (i.bytes : Int) * (n : Int) ≤ 281474976710656 := by
    have h : ((i.bytes * n : Nat) : Int) ≤ 281474976710656 := by omega
    rwa [Int.natCast_mul] at h
  have hrun := run_make (P := P) w t e i z ht hi hz kl kc n n (by omega) (Int.le_refl _) hb' (by omega)
  have hmade : madeCells z.cells (n * i.size) = (E.flat (List.replicate n z0)).toArray := by
    rw [hz2, hsize, E.flat_rep, ← E.len z0]
    exact mod_mul_cells _ (by rw [E.len]; exact E.pos) n
  simp only [Int.toNat_natCast, hmade] at hrun
  unfold Oper.wp
  simp [execOp, hop, hl, hc, hrun, Result.andThen]
  exact hK
theorem blk_drwY {w : World} {k : Nat} {o : Obj} (h : w.heap[k]? = some o) : w.drew.heap[k]? = some o := h
def tnI (d k : Int) : Int := k % d * d + d - 1 - k / d
def ctT (d : Int) (xs : List Int) (n : Nat) : Nat → List Int
  | 0 => List.replicate n 0
  | k + 1 => (ctT d xs n k).set (tnI d k).toNat (xs.getD k 0)
theorem ct_len (d : Int) (xs : List Int) (n : Nat) : ∀ k, (ctT d xs n k).length = n
  | 0 => by simp [ctT]
  | k + 1 => by rw [ctT, List.length_set, ct_len d xs n k]
def ctL (d : Int) (xs : List Int) : List Int := if cvB d xs = true then ctT d xs xs.length xs.length else []
def ctD (d : Int) (xs : List Int) : Int := if cvB d xs = true then d else 0
theorem ctL_len (d : Int) (xs : List Int) : (ctL d xs).length ≤ xs.length := by unfold ctL; split; rw [ct_len]; exact Nat.le_refl _; simp
theorem tn_in {d k : Int} (h : InC d k) : 0 ≤ tnI d k ∧ tnI d k < d * d := by
  refine h.all (P := fun d k => 0 ≤ tnI d k ∧ tnI d k < d * d) ?_ ?_ ?_ ?_ ?_ ?_
  all_goals (intro c a b; unfold tnI; omega)
def CityRet (d : Int) (l : List Int) (w : World) (e : Ending) (w' : World) : Prop := ∃ (A : Option Addr) (cap : Nat), e = .returned (.agg #[.int .i64 d, .slice A l.length cap]) ∧ SOwn encNum w' w.heap.size 3 A cap l ∧ Below w.heap.size w w'
set_option maxRecDepth 100000 in
set_option maxHeartbeats 4000000 in
theorem iCt_any (d : Int) (A : Option Addr) (cap : Nat) (xs : List Int) {n : Nat} (w : World) (hn : xs.length = n) (h : SRow encNum w A xs) (hl : n ≤ 2000000) :
    Calls Try.prog 31 #[.agg #[.int .i64 d, .slice A n cap]] w fun E w' => CityRet (ctD d xs) (ctL d xs) w E w' := by
  cases h1 : cvB d xs
  · have HD : Hid (ctD d xs = 0) := by show _ = _; unfold ctD; rw [h1]; rfl
    have HL : Hid (ctL d xs = []) := by show _ = _; unfold ctL; rw [h1]; rfl
    rw [HD.out, HL.out]
    have H1 := Lib.hid h1
    have HN := Lib.hid hn
    clear h1 hn
    go_enter Try.func31, Try.ntmps31
    go_wp2_with fail
    refine (iCv_is d A cap xs _ HN.out (h.next (bel2 w (.cells #[.int .i64 d, .slice A n cap] 25 (0, 0)) (.cells #[.int .i64 0, .slice none 0 0] 25 (0, 0)))) hl H1.out).mono ?_; rintro E w1 ⟨rfl, hw1⟩
    obtain ⟨hP1, hQ1, hB1⟩ := ownb2 hw1
    have hQ2 := blk2_set (a := .int .i64 0) (b := .slice none 0 0) hQ1
    obtain ⟨q0, q1, _, _, _⟩ := blk2 hQ2
    obtain ⟨_, _, _, _, hql⟩ := blk2 hQ1
    go_wp2
    exact bodyPost_ret (v := .agg #[.int .i64 0, .slice none 0 0]) (by simp [results, Try.results31, go_sem, q0, q1]) rfl ⟨none, 0, rfl, SOwn.nil _ _ _, store2_bel hB1 (by omega) _ _⟩
  · obtain ⟨i0, hi0, hz0, hz1, hz2⟩ := info_parts infoNum
    have hbn : i0.bytes * n ≤ 281474976710656 := by rw [hz2]; omega
    have HI := Lib.hid (And.intro hi0 (And.intro hz0 (And.intro hz1 hbn)))
    clear hi0 hz0 hz1 hz2 hbn
    have HD : Hid (ctD d xs = d) := by show _ = _; unfold ctD; rw [h1]; rfl
    have HL : Hid (ctL d xs = ctT d xs n n) := by show _ = _; unfold ctL; rw [h1, hn]; rfl
    rw [HD.out, HL.out]
    obtain ⟨hAll, hdd⟩ := cv_cells h1 hn
    have HALL := Lib.hid (And.intro hAll hdd)
    have hn36 : n ≤ 36 := by have := cv_len h1; omega
    have H1 := Lib.hid h1
    have HN := Lib.hid hn
    clear h1 hn hAll hdd
    go_enter Try.func31, Try.ntmps31
    go_wp2_with fail
    refine (iCv_is d A cap xs _ HN.out (h.next (bel2 w (.cells #[.int .i64 d, .slice A n cap] 25 (0, 0)) (.cells #[.int .i64 0, .slice none 0 0] 25 (0, 0)))) hl H1.out).mono ?_; rintro E w1 ⟨rfl, hw1⟩
    obtain ⟨hP1, hQ1, hB1⟩ := ownb2 hw1
    obtain ⟨p0, p1, f0, f1, zp⟩ := blk2 hP1
    obtain ⟨q0, q1, g0, g1, zq⟩ := blk2 hQ1
    go_upto_region 3 with fail
    go_cut [3] from 12 to 18 (fun s3 wx => ∃ C g : Nat, s3 = .pointer (some ⟨C, 0, none⟩) ∧ wx.heap[C]? = some (.cells #[.int .i64 d, .slice (some ⟨g, 0, none⟩) n n] 25 (0, 0)) ∧ SBlk encNum wx g 3 (List.replicate n (0 : Int)) ∧ C ≠ g ∧ w1.heap.size ≤ C ∧ w1.heap.size ≤ g ∧ Below w1.heap.size w1 wx)
    case first =>
      refine wp_region_held_drew (S := (fun w' => w'.heap[w.heap.size]? = some (.cells #[.int .i64 d, .slice A n cap] 25 (0, 0)) ∧ Below w1.heap.size w1 w')) (by kernel_rfl) ⟨hP1, (Below.refl _ _).drew⟩ (fun hHeld => ?_)
      obtain ⟨hP_0, hB_0⟩ := id hHeld
      refine wpAnyH_take (i := 0) (oi := _) (v := ?_) rfl (by kernel_rfl) (by kernel_rfl) (by kernel_rfl) (fun _ _ _ h => h) (Or.inl ⟨by rfl, ?_⟩) (by assumption) ?_
      (rotate_left); (focus (intro wv hSw; (obtain ⟨qP, qB⟩ := hSw);  go_simp; (try with_reducible rfl)))
      try simp only [Act.put, List.getElem_toArray, List.getElem_cons_succ, List.getElem_cons_zero, List.setIfInBounds_toArray, List.set_cons_zero, List.set_cons_succ]
      refine wpAnyH_take (i := 1) (oi := _) (v := ?_) rfl (by kernel_rfl) (by kernel_rfl) (by kernel_rfl) (fun _ _ _ h => h) (Or.inl ⟨by rfl, ?_⟩) (by assumption) ?_
      (rotate_left); (focus (intro wv hSw; (obtain ⟨qP, qB⟩ := hSw); obtain ⟨u0, u1, _, _, _⟩ := blk2 qP; go_simp; (try with_reducible rfl)))
      try simp only [Act.put, List.getElem_toArray, List.getElem_cons_succ, List.getElem_cons_zero, List.setIfInBounds_toArray, List.set_cons_zero, List.set_cons_succ]
      refine wpAnyH_take (i := 2) (oi := _) (v := ?_) rfl (by kernel_rfl) (by kernel_rfl) (by kernel_rfl) (fun _ _ _ h => h) (Or.inl ⟨by rfl, ?_⟩) (by assumption) ?_
      (rotate_left); (focus (intro wv hSw; (obtain ⟨qP, qB⟩ := hSw);  go_simp; (try with_reducible rfl)))
      try simp only [Act.put, List.getElem_toArray, List.getElem_cons_succ, List.getElem_cons_zero, List.setIfInBounds_toArray, List.set_cons_zero, List.set_cons_succ]
      refine wpAnyH_take (i := 3) (oi := _) (v := ?_) rfl (by kernel_rfl) (by kernel_rfl) (by kernel_rfl) (fun _ _ _ h => h) (Or.inl ⟨by rfl, ?_⟩) (by assumption) ?_
      (rotate_left); (focus (intro wv hSw; (obtain ⟨qP, qB⟩ := hSw); obtain ⟨u0, u1, _, _, _⟩ := blk2 qP; go_simp; (try with_reducible rfl)))
      try simp only [Act.put, List.getElem_toArray, List.getElem_cons_succ, List.getElem_cons_zero, List.setIfInBounds_toArray, List.set_cons_zero, List.set_cons_succ]
      refine wpAnyH_take (i := 4) (oi := _) (v := ?_) rfl (by kernel_rfl) (by kernel_rfl) (by kernel_rfl) (fun _ _ _ h => h) (Or.inl ⟨by rfl, ?_⟩) (by assumption) ?_
      (rotate_left); (focus (intro wv hSw; (obtain ⟨qP, qB⟩ := hSw);  go_simp; (try with_reducible rfl)))
      try simp only [Act.put, List.getElem_toArray, List.getElem_cons_succ, List.getElem_cons_zero, List.setIfInBounds_toArray, List.set_cons_zero, List.set_cons_succ]
      refine wpAnyH_ready (rs := [5, 7]) (by kernel_rfl) (by simp) ?_
      refine AllReadyH.cons (o := _) rfl (fun K hK => ?_) (AllReadyH.cons (o := _) rfl (fun K hK => ?_) (AllReadyH.nil))
      · rw [if_pos (by kernel_rfl)]
        refine wp_make_structsY _ encNum (0 : Int) _ _ 23 rfl 3 i0 _ Try.underlying23 HI.out.1 HI.out.2.1 HI.out.2.2.1 rfl .i64 .i64 n rfl rfl HI.out.2.2.2 (by omega) ?_
        refine hK.out _ _ ⟨blk_old hP_0 _, hB_0.alloc hB_0.size _⟩ (fun hHeld => ?_)
        clear hK K
        try simp only [Act.put, List.getElem_toArray, List.getElem_cons_succ, List.getElem_cons_zero, List.setIfInBounds_toArray, List.set_cons_zero, List.set_cons_succ]
        refine wpAnyH_take (i := 6) (oi := _) (v := ?_) rfl (by kernel_rfl) (by kernel_rfl) (by kernel_rfl) (fun _ _ _ h => h) (Or.inl ⟨by rfl, ?_⟩) (by assumption) ?_
        (rotate_left); (focus (intro wv hSw; go_simp; (try with_reducible rfl)))
        try simp only [Act.put, List.getElem_toArray, List.getElem_cons_succ, List.getElem_cons_zero, List.setIfInBounds_toArray, List.set_cons_zero, List.set_cons_succ]
        refine wpAnyH_ready (rs := [7]) (by kernel_rfl) (by simp) ?_
        refine AllReadyH.cons (o := _) rfl (fun K hK => ?_) AllReadyH.nil
        go_simp
        refine hK.out _ _ ⟨blk_old (blk_old hP_0 _) _, (hB_0.alloc hB_0.size _).alloc (hB_0.alloc hB_0.size _).size _⟩ (fun hHeld => ?_)
        clear hK K
        try simp only [Act.put, List.getElem_toArray, List.getElem_cons_succ, List.getElem_cons_zero, List.setIfInBounds_toArray, List.set_cons_zero, List.set_cons_succ]
        refine wpAnyH_ready (rs := [8]) (by kernel_rfl) (by simp) ?_
        refine AllReadyH.cons (o := _) rfl (fun K hK => ?_) AllReadyH.nil
        go_simp
        refine hK.out _ _ ⟨by first | exact blk_old (blk_old hP1 _) _ | exact blk_drwY (blk_old (blk_old hP1 _) _), by first | exact bel2 _ _ _ | exact (bel2 _ _ _).drew⟩ (fun hHeld => ?_)
        clear hK K
        try simp only [Act.put, List.getElem_toArray, List.getElem_cons_succ, List.getElem_cons_zero, List.setIfInBounds_toArray, List.set_cons_zero, List.set_cons_succ]
        refine wpAnyH_done (by kernel_rfl) ?_ _
        go_wp2_with fail
        go_meet
        exact ⟨w1.heap.size + 1, w1.heap.size, rfl, new2 w1 _ _, blk_old (blk_new w1 _) _, by omega, by omega, by omega, by first | exact bel2 _ _ _ | exact (bel2 _ _ _).drew⟩
      · go_simp
        refine hK.out _ _ ⟨blk_old hP_0 _, hB_0.alloc hB_0.size _⟩ (fun hHeld => ?_)
        clear hK K
        try simp only [Act.put, List.getElem_toArray, List.getElem_cons_succ, List.getElem_cons_zero, List.setIfInBounds_toArray, List.set_cons_zero, List.set_cons_succ]
        refine wpAnyH_ready (rs := [5]) (by kernel_rfl) (by simp) ?_
        refine AllReadyH.cons (o := _) rfl (fun K hK => ?_) AllReadyH.nil
        rw [if_pos (by kernel_rfl)]
        refine wp_make_structsY _ encNum (0 : Int) _ _ 23 rfl 3 i0 _ Try.underlying23 HI.out.1 HI.out.2.1 HI.out.2.2.1 rfl .i64 .i64 n rfl rfl HI.out.2.2.2 (by omega) ?_
        refine hK.out _ _ ⟨blk_old (blk_old hP_0 _) _, (hB_0.alloc hB_0.size _).alloc (hB_0.alloc hB_0.size _).size _⟩ (fun hHeld => ?_)
        clear hK K
        try simp only [Act.put, List.getElem_toArray, List.getElem_cons_succ, List.getElem_cons_zero, List.setIfInBounds_toArray, List.set_cons_zero, List.set_cons_succ]
        refine wpAnyH_take (i := 6) (oi := _) (v := ?_) rfl (by kernel_rfl) (by kernel_rfl) (by kernel_rfl) (fun _ _ _ h => h) (Or.inl ⟨by rfl, ?_⟩) (by assumption) ?_
        (rotate_left); (focus (intro wv hSw; go_simp; (try with_reducible rfl)))
        try simp only [Act.put, List.getElem_toArray, List.getElem_cons_succ, List.getElem_cons_zero, List.setIfInBounds_toArray, List.set_cons_zero, List.set_cons_succ]
        have hC7 : ((w1.drew.alloc (.cells #[.int .i64 0, .slice none 0 0] 25 (0, 0))).alloc (.cells (encNum.flat (List.replicate n (0 : Int))).toArray 3)).heap[w1.heap.size]? = some (.cells #[.int .i64 0, .slice none 0 0] 25 (0, 0)) := by have := blk_old (blk_new w1.drew (.cells #[.int .i64 0, .slice none 0 0] 25 (0, 0))) (.cells (encNum.flat (List.replicate n (0 : Int))).toArray 3); simpa using this
        obtain ⟨_, _, _, _, _⟩ := blk2 hC7
        refine wpAnyH_ready (rs := [8]) (by kernel_rfl) (by simp) ?_
        refine AllReadyH.cons (o := _) rfl (fun K hK => ?_) AllReadyH.nil
        go_simp
        refine hK.out _ _ ⟨by first | exact blk_old (blk_old hP1 _) _ | exact blk_drwY (blk_old (blk_old hP1 _) _), by first | exact bel2 _ _ _ | exact (bel2 _ _ _).drew⟩ (fun hHeld => ?_)
        clear hK K
        try simp only [Act.put, List.getElem_toArray, List.getElem_cons_succ, List.getElem_cons_zero, List.setIfInBounds_toArray, List.set_cons_zero, List.set_cons_succ]
        refine wpAnyH_done (by kernel_rfl) ?_ _
        go_wp2_with fail
        go_meet
        exact ⟨w1.heap.size, w1.heap.size + 1, rfl, blk_old (blk_new w1 _) _, new2 w1 _ _, by omega, by omega, by omega, by first | exact bel2 _ _ _ | exact (bel2 _ _ _).drew⟩
    case rest =>
      obtain ⟨C, g, rfl, hC, hM, hCg, hC1, hg1, hwc⟩ := hcut
      have hPc := blk_next hP1 hwc
      have hQc := blk_next hQ1 hwc
      have hBc := bel_next hB1 hwc
      have hz1 := hB1.size
      obtain ⟨_, _, _, _, hql⟩ := blk2 hQ1
      have hct0 : ctT d xs n 0 = List.replicate n (0 : Int) := rfl
      rw [← hct0] at hM
      clear hct0 p0 p1 f0 f1 zp q0 q1 g0 g1 zq
      obtain ⟨p0, p1, f0, f1, zp⟩ := blk2 hPc
      obtain ⟨c0, c1, e0, e1, zc⟩ := blk2 hC
      go_wp2_with fail
      go_loopw [22] (fun v wr => ∃ k : Nat, v = .int .i64 k ∧ k ≤ n ∧ SBlk encNum wr g 3 (ctT d xs n k) ∧ wr.heap[C]? = some (.cells #[.int .i64 d, .slice (some ⟨g, 0, none⟩) n n] 25 (0, 0)) ∧ wr.heap[w.heap.size]? = some (.cells #[.int .i64 d, .slice A n cap] 25 (0, 0)) ∧ wr.heap[w.heap.size + 1]? = some (.cells #[.int .i64 0, .slice none 0 0] 25 (0, 0)) ∧ Below w.heap.size w wr) (fun v _ => (n - intOf v).toNat)
      case atStart => exact ⟨0, rfl, by omega, hM, hC, hPc, hQc, hBc⟩
      case round =>
        obtain ⟨k, rfl, k1, hM, hC, hP1, hQ1, hB⟩ := hrel
        clear p0 p1 f0 f1 zp c0 c1 e0 e1 zc
        obtain ⟨p0, p1, f0, f1, zp⟩ := blk2 hP1
        obtain ⟨c0, c1, e0, e1, zc⟩ := blk2 hC
        by_cases hlt : k < n
        · have hk : k < xs.length := by rw [HN.out]; exact hlt
          have hki : (k : Int) < (n : Int) := by omega
          have hin := HALL.out.1 k hlt
          obtain ⟨x0, x1, y0, y1, hm, d0, d1, k0, k9⟩ := divs hin
          have ht := tn_in hin
          have htn : tnI d (k : Int) < n := by rw [HALL.out.2]; exact ht.2
          have htu : (k : Int) % d * d + d - 1 - (k : Int) / d = tnI d (k : Int) := rfl
          have hct : ctT d xs n (k + 1) = (ctT d xs n k).set (tnI d (k : Int)).toNat xs[k] := by simp [ctT, hk]
          have hlc := ct_len d xs n k
          have hdn : ¬ d = 0 := by omega
          have m0 : 0 ≤ (k : Int) % d * d := Int.mul_nonneg x0 (by omega)
          have m1 : (k : Int) % d * d ≤ 5 * 6 := Int.mul_le_mul (by omega) d1 (by omega) (by omega)
          obtain ⟨z, hz⟩ : ∃ z : Nat, tnI d (k : Int) = (z : Int) := ⟨(tnI d (k : Int)).toNat, by omega⟩
          rw [hz] at htn htu hct
          rw [Int.toNat_natCast] at hct
          have hzl : z < (ctT d xs n k).length := by rw [hlc]; omega
          have hzi : (z : Int) < (n : Int) := htn
          obtain ⟨b, off, eA, hb, a0⟩ := rowNum (h.next hB) hk
          have z0 := blkNum hM hzl
          have zf := hM.frozen z
          have HCT := Lib.hid hct
          clear hct hlc ht hz htn hm hin
          subst eA
          revert a0 HCT
          generalize xs[k] = t
          intro a0 HCT
          go_wp2_with fail
          go_region
          go_wp2_with fail
          go_roundw
          case rel => exact ⟨k + 1, by go_num, by omega, by rw [HCT.out]; exact setNumB hM z hzl t, blk_far hC hCg _, blk_far hP1 (by omega) _, blk_far hQ1 (by omega) _, by first | exact hB.setCell (p := ⟨g, z, none⟩) (show w.heap.size ≤ g by omega) _ | exact (hB.setCell (p := ⟨g, z, none⟩) (show w.heap.size ≤ g by omega) _).drew⟩
          case measure => simp [intOf]; omega
        · obtain rfl : k = n := by omega
          have hO := SOwn.of_blk (E := encNum) (base := w.heap.size) (n := k) hM (by omega) (ct_len _ _ _ _) (by unfold maxLen; omega)
          obtain ⟨q0, q1, g0, g1, zq⟩ := blk2 hQ1
          have hQ2 := blk2_set (a := .int .i64 d) (b := .slice (some ⟨g, 0, none⟩) k k) hQ1
          obtain ⟨u0, u1, _, _, _⟩ := blk2 hQ2
          have hne : g ≠ w.heap.size + 1 := by omega
          have hO2 := (SOwn.of_blk (E := encNum) (base := w.heap.size) (n := k) (show SBlk encNum _ g 3 (ctT d xs k k) from blk_store2 (C := w.heap.size + 1) hM hne (.int .i64 d) (.slice (some ⟨g, 0, none⟩) k k)) (by omega) (ct_len _ _ _ _) (by unfold maxLen; omega))
          clear hO
          go_wp2
          exact bodyPost_ret (v := .agg #[.int .i64 d, .slice (some ⟨g, 0, none⟩) k k]) (by simp [results, Try.results31, go_sem, u0, u1]) rfl ⟨some ⟨g, 0, none⟩, k, by rw [ct_len], hO2, store2_bel hB (by omega) _ _⟩
set_option maxRecDepth 100000 in
set_option maxHeartbeats 4000000 in
theorem sCt_any (d : Int) (A : Option Addr) (cap : Nat) (xs : List Int) {n : Nat} (w : World) (hn : xs.length = n) (h : SRow encNum w A xs) (hl : n ≤ 2000000) :
    Calls Try.prog 38 #[.agg #[.int .i64 d, .slice A n cap]] w fun E w' => CityRet (ctD d xs) (ctL d xs) w E w' := by
  cases h1 : cvB d xs
  · have HD : Hid (ctD d xs = 0) := by show _ = _; unfold ctD; rw [h1]; rfl
    have HL : Hid (ctL d xs = []) := by show _ = _; unfold ctL; rw [h1]; rfl
    rw [HD.out, HL.out]
    have H1 := Lib.hid h1
    have HN := Lib.hid hn
    clear h1 hn
    go_enter Try.func38, Try.ntmps38
    go_wp2_with fail
    refine (sCv_is d A cap xs _ HN.out (h.next (bel2 w (.cells #[.int .i64 d, .slice A n cap] 25 (0, 0)) (.cells #[.int .i64 0, .slice none 0 0] 25 (0, 0)))) hl H1.out).mono ?_; rintro E w1 ⟨rfl, hw1⟩
    obtain ⟨hP1, hQ1, hB1⟩ := ownb2 hw1
    have hQ2 := blk2_set (a := .int .i64 0) (b := .slice none 0 0) hQ1
    obtain ⟨q0, q1, _, _, _⟩ := blk2 hQ2
    obtain ⟨_, _, _, _, hql⟩ := blk2 hQ1
    go_wp2
    exact bodyPost_ret (v := .agg #[.int .i64 0, .slice none 0 0]) (by simp [results, Try.results38, go_sem, q0, q1]) rfl ⟨none, 0, rfl, SOwn.nil _ _ _, store2_bel hB1 (by omega) _ _⟩
  · obtain ⟨i0, hi0, hz0, hz1, hz2⟩ := info_parts infoNum
    have hbn : i0.bytes * n ≤ 281474976710656 := by rw [hz2]; omega
    have HI := Lib.hid (And.intro hi0 (And.intro hz0 (And.intro hz1 hbn)))
    clear hi0 hz0 hz1 hz2 hbn
    have HD : Hid (ctD d xs = d) := by show _ = _; unfold ctD; rw [h1]; rfl
    have HL : Hid (ctL d xs = ctT d xs n n) := by show _ = _; unfold ctL; rw [h1, hn]; rfl
    rw [HD.out, HL.out]
    obtain ⟨hAll, hdd⟩ := cv_cells h1 hn
    have HALL := Lib.hid (And.intro hAll hdd)
    have hn36 : n ≤ 36 := by have := cv_len h1; omega
    have H1 := Lib.hid h1
    have HN := Lib.hid hn
    clear h1 hn hAll hdd
    go_enter Try.func38, Try.ntmps38
    go_wp2_with fail
    refine (sCv_is d A cap xs _ HN.out (h.next (bel2 w (.cells #[.int .i64 d, .slice A n cap] 25 (0, 0)) (.cells #[.int .i64 0, .slice none 0 0] 25 (0, 0)))) hl H1.out).mono ?_; rintro E w1 ⟨rfl, hw1⟩
    obtain ⟨hP1, hQ1, hB1⟩ := ownb2 hw1
    obtain ⟨p0, p1, f0, f1, zp⟩ := blk2 hP1
    obtain ⟨q0, q1, g0, g1, zq⟩ := blk2 hQ1
    go_upto_region 3 with fail
    go_cut [3] from 9 to 15 (fun s3 wx => ∃ C g : Nat, s3 = .pointer (some ⟨C, 0, none⟩) ∧ wx.heap[C]? = some (.cells #[.int .i64 d, .slice (some ⟨g, 0, none⟩) n n] 25 (0, 0)) ∧ SBlk encNum wx g 3 (List.replicate n (0 : Int)) ∧ C ≠ g ∧ w1.heap.size ≤ C ∧ w1.heap.size ≤ g ∧ Below w1.heap.size w1 wx)
    case first =>
      refine wp_region_held_drew (S := (fun w' => w'.heap[w.heap.size]? = some (.cells #[.int .i64 d, .slice A n cap] 25 (0, 0)) ∧ Below w1.heap.size w1 w')) (by kernel_rfl) ⟨hP1, (Below.refl _ _).drew⟩ (fun hHeld => ?_)
      obtain ⟨hP_0, hB_0⟩ := id hHeld
      refine wpAnyH_take (i := 0) (oi := _) (v := ?_) rfl (by kernel_rfl) (by kernel_rfl) (by kernel_rfl) (fun _ _ _ h => h) (Or.inl ⟨by rfl, ?_⟩) (by assumption) ?_
      (rotate_left); (focus (intro wv hSw; (obtain ⟨qP, qB⟩ := hSw);  go_simp; (try with_reducible rfl)))
      try simp only [Act.put, List.getElem_toArray, List.getElem_cons_succ, List.getElem_cons_zero, List.setIfInBounds_toArray, List.set_cons_zero, List.set_cons_succ]
      refine wpAnyH_take (i := 1) (oi := _) (v := ?_) rfl (by kernel_rfl) (by kernel_rfl) (by kernel_rfl) (fun _ _ _ h => h) (Or.inl ⟨by rfl, ?_⟩) (by assumption) ?_
      (rotate_left); (focus (intro wv hSw; (obtain ⟨qP, qB⟩ := hSw); obtain ⟨u0, u1, _, _, _⟩ := blk2 qP; go_simp; (try with_reducible rfl)))
      try simp only [Act.put, List.getElem_toArray, List.getElem_cons_succ, List.getElem_cons_zero, List.setIfInBounds_toArray, List.set_cons_zero, List.set_cons_succ]
      refine wpAnyH_take (i := 2) (oi := _) (v := ?_) rfl (by kernel_rfl) (by kernel_rfl) (by kernel_rfl) (fun _ _ _ h => h) (Or.inl ⟨by rfl, ?_⟩) (by assumption) ?_
      (rotate_left); (focus (intro wv hSw; (obtain ⟨qP, qB⟩ := hSw);  go_simp; (try with_reducible rfl)))
      try simp only [Act.put, List.getElem_toArray, List.getElem_cons_succ, List.getElem_cons_zero, List.setIfInBounds_toArray, List.set_cons_zero, List.set_cons_succ]
      refine wpAnyH_take (i := 3) (oi := _) (v := ?_) rfl (by kernel_rfl) (by kernel_rfl) (by kernel_rfl) (fun _ _ _ h => h) (Or.inl ⟨by rfl, ?_⟩) (by assumption) ?_
      (rotate_left); (focus (intro wv hSw; (obtain ⟨qP, qB⟩ := hSw); obtain ⟨u0, u1, _, _, _⟩ := blk2 qP; go_simp; (try with_reducible rfl)))
      try simp only [Act.put, List.getElem_toArray, List.getElem_cons_succ, List.getElem_cons_zero, List.setIfInBounds_toArray, List.set_cons_zero, List.set_cons_succ]
      refine wpAnyH_take (i := 4) (oi := _) (v := ?_) rfl (by kernel_rfl) (by kernel_rfl) (by kernel_rfl) (fun _ _ _ h => h) (Or.inl ⟨by rfl, ?_⟩) (by assumption) ?_
      (rotate_left); (focus (intro wv hSw; (obtain ⟨qP, qB⟩ := hSw);  go_simp; (try with_reducible rfl)))
      try simp only [Act.put, List.getElem_toArray, List.getElem_cons_succ, List.getElem_cons_zero, List.setIfInBounds_toArray, List.set_cons_zero, List.set_cons_succ]
      refine wpAnyH_ready (rs := [5, 7]) (by kernel_rfl) (by simp) ?_
      refine AllReadyH.cons (o := _) rfl (fun K hK => ?_) (AllReadyH.cons (o := _) rfl (fun K hK => ?_) (AllReadyH.nil))
      · rw [if_pos (by kernel_rfl)]
        refine wp_make_structsY _ encNum (0 : Int) _ _ 23 rfl 3 i0 _ Try.underlying23 HI.out.1 HI.out.2.1 HI.out.2.2.1 rfl .i64 .i64 n rfl rfl HI.out.2.2.2 (by omega) ?_
        refine hK.out _ _ ⟨blk_old hP_0 _, hB_0.alloc hB_0.size _⟩ (fun hHeld => ?_)
        clear hK K
        try simp only [Act.put, List.getElem_toArray, List.getElem_cons_succ, List.getElem_cons_zero, List.setIfInBounds_toArray, List.set_cons_zero, List.set_cons_succ]
        refine wpAnyH_take (i := 6) (oi := _) (v := ?_) rfl (by kernel_rfl) (by kernel_rfl) (by kernel_rfl) (fun _ _ _ h => h) (Or.inl ⟨by rfl, ?_⟩) (by assumption) ?_
        (rotate_left); (focus (intro wv hSw; go_simp; (try with_reducible rfl)))
        try simp only [Act.put, List.getElem_toArray, List.getElem_cons_succ, List.getElem_cons_zero, List.setIfInBounds_toArray, List.set_cons_zero, List.set_cons_succ]
        refine wpAnyH_ready (rs := [7]) (by kernel_rfl) (by simp) ?_
        refine AllReadyH.cons (o := _) rfl (fun K hK => ?_) AllReadyH.nil
        go_simp
        refine hK.out _ _ ⟨blk_old (blk_old hP_0 _) _, (hB_0.alloc hB_0.size _).alloc (hB_0.alloc hB_0.size _).size _⟩ (fun hHeld => ?_)
        clear hK K
        try simp only [Act.put, List.getElem_toArray, List.getElem_cons_succ, List.getElem_cons_zero, List.setIfInBounds_toArray, List.set_cons_zero, List.set_cons_succ]
        refine wpAnyH_ready (rs := [8]) (by kernel_rfl) (by simp) ?_
        refine AllReadyH.cons (o := _) rfl (fun K hK => ?_) AllReadyH.nil
        go_simp
        refine hK.out _ _ ⟨by first | exact blk_old (blk_old hP1 _) _ | exact blk_drwY (blk_old (blk_old hP1 _) _), by first | exact bel2 _ _ _ | exact (bel2 _ _ _).drew⟩ (fun hHeld => ?_)
        clear hK K
        try simp only [Act.put, List.getElem_toArray, List.getElem_cons_succ, List.getElem_cons_zero, List.setIfInBounds_toArray, List.set_cons_zero, List.set_cons_succ]
        refine wpAnyH_done (by kernel_rfl) ?_ _
        go_wp2_with fail
        go_meet
        exact ⟨w1.heap.size + 1, w1.heap.size, rfl, new2 w1 _ _, blk_old (blk_new w1 _) _, by omega, by omega, by omega, by first | exact bel2 _ _ _ | exact (bel2 _ _ _).drew⟩
      · go_simp
        refine hK.out _ _ ⟨blk_old hP_0 _, hB_0.alloc hB_0.size _⟩ (fun hHeld => ?_)
        clear hK K
        try simp only [Act.put, List.getElem_toArray, List.getElem_cons_succ, List.getElem_cons_zero, List.setIfInBounds_toArray, List.set_cons_zero, List.set_cons_succ]
        refine wpAnyH_ready (rs := [5]) (by kernel_rfl) (by simp) ?_
        refine AllReadyH.cons (o := _) rfl (fun K hK => ?_) AllReadyH.nil
        rw [if_pos (by kernel_rfl)]
        refine wp_make_structsY _ encNum (0 : Int) _ _ 23 rfl 3 i0 _ Try.underlying23 HI.out.1 HI.out.2.1 HI.out.2.2.1 rfl .i64 .i64 n rfl rfl HI.out.2.2.2 (by omega) ?_
        refine hK.out _ _ ⟨blk_old (blk_old hP_0 _) _, (hB_0.alloc hB_0.size _).alloc (hB_0.alloc hB_0.size _).size _⟩ (fun hHeld => ?_)
        clear hK K
        try simp only [Act.put, List.getElem_toArray, List.getElem_cons_succ, List.getElem_cons_zero, List.setIfInBounds_toArray, List.set_cons_zero, List.set_cons_succ]
        refine wpAnyH_take (i := 6) (oi := _) (v := ?_) rfl (by kernel_rfl) (by kernel_rfl) (by kernel_rfl) (fun _ _ _ h => h) (Or.inl ⟨by rfl, ?_⟩) (by assumption) ?_
        (rotate_left); (focus (intro wv hSw; go_simp; (try with_reducible rfl)))
        try simp only [Act.put, List.getElem_toArray, List.getElem_cons_succ, List.getElem_cons_zero, List.setIfInBounds_toArray, List.set_cons_zero, List.set_cons_succ]
        have hC7 : ((w1.drew.alloc (.cells #[.int .i64 0, .slice none 0 0] 25 (0, 0))).alloc (.cells (encNum.flat (List.replicate n (0 : Int))).toArray 3)).heap[w1.heap.size]? = some (.cells #[.int .i64 0, .slice none 0 0] 25 (0, 0)) := by have := blk_old (blk_new w1.drew (.cells #[.int .i64 0, .slice none 0 0] 25 (0, 0))) (.cells (encNum.flat (List.replicate n (0 : Int))).toArray 3); simpa using this
        obtain ⟨_, _, _, _, _⟩ := blk2 hC7
        refine wpAnyH_ready (rs := [8]) (by kernel_rfl) (by simp) ?_
        refine AllReadyH.cons (o := _) rfl (fun K hK => ?_) AllReadyH.nil
        go_simp
        refine hK.out _ _ ⟨by first | exact blk_old (blk_old hP1 _) _ | exact blk_drwY (blk_old (blk_old hP1 _) _), by first | exact bel2 _ _ _ | exact (bel2 _ _ _).drew⟩ (fun hHeld => ?_)
        clear hK K
        try simp only [Act.put, List.getElem_toArray, List.getElem_cons_succ, List.getElem_cons_zero, List.setIfInBounds_toArray, List.set_cons_zero, List.set_cons_succ]
        refine wpAnyH_done (by kernel_rfl) ?_ _
        go_wp2_with fail
        go_meet
        exact ⟨w1.heap.size, w1.heap.size + 1, rfl, blk_old (blk_new w1 _) _, new2 w1 _ _, by omega, by omega, by omega, by first | exact bel2 _ _ _ | exact (bel2 _ _ _).drew⟩
    case rest =>
      obtain ⟨C, g, rfl, hC, hM, hCg, hC1, hg1, hwc⟩ := hcut
      have hPc := blk_next hP1 hwc
      have hQc := blk_next hQ1 hwc
      have hBc := bel_next hB1 hwc
      have hz1 := hB1.size
      obtain ⟨_, _, _, _, hql⟩ := blk2 hQ1
      have hct0 : ctT d xs n 0 = List.replicate n (0 : Int) := rfl
      rw [← hct0] at hM
      clear hct0 p0 p1 f0 f1 zp q0 q1 g0 g1 zq
      obtain ⟨p0, p1, f0, f1, zp⟩ := blk2 hPc
      obtain ⟨c0, c1, e0, e1, zc⟩ := blk2 hC
      go_wp2_with fail
      go_loopw [4] (fun v wr => ∃ k : Nat, v = .int .i64 k ∧ k ≤ n ∧ SBlk encNum wr g 3 (ctT d xs n k) ∧ wr.heap[C]? = some (.cells #[.int .i64 d, .slice (some ⟨g, 0, none⟩) n n] 25 (0, 0)) ∧ wr.heap[w.heap.size]? = some (.cells #[.int .i64 d, .slice A n cap] 25 (0, 0)) ∧ wr.heap[w.heap.size + 1]? = some (.cells #[.int .i64 0, .slice none 0 0] 25 (0, 0)) ∧ Below w.heap.size w wr) (fun v _ => (n - intOf v).toNat)
      case atStart => exact ⟨0, rfl, by omega, hM, hC, hPc, hQc, hBc⟩
      case round =>
        obtain ⟨k, rfl, k1, hM, hC, hP1, hQ1, hB⟩ := hrel
        clear p0 p1 f0 f1 zp c0 c1 e0 e1 zc
        obtain ⟨p0, p1, f0, f1, zp⟩ := blk2 hP1
        obtain ⟨c0, c1, e0, e1, zc⟩ := blk2 hC
        by_cases hlt : k < n
        · have hk : k < xs.length := by rw [HN.out]; exact hlt
          have hki : (k : Int) < (n : Int) := by omega
          have hin := HALL.out.1 k hlt
          obtain ⟨x0, x1, y0, y1, hm, d0, d1, k0, k9⟩ := divs hin
          have ht := tn_in hin
          have htn : tnI d (k : Int) < n := by rw [HALL.out.2]; exact ht.2
          have htu : (k : Int) % d * d + d - 1 - (k : Int) / d = tnI d (k : Int) := rfl
          have hct : ctT d xs n (k + 1) = (ctT d xs n k).set (tnI d (k : Int)).toNat xs[k] := by simp [ctT, hk]
          have hlc := ct_len d xs n k
          have hdn : ¬ d = 0 := by omega
          have m0 : 0 ≤ (k : Int) % d * d := Int.mul_nonneg x0 (by omega)
          have m1 : (k : Int) % d * d ≤ 5 * 6 := Int.mul_le_mul (by omega) d1 (by omega) (by omega)
          obtain ⟨z, hz⟩ : ∃ z : Nat, tnI d (k : Int) = (z : Int) := ⟨(tnI d (k : Int)).toNat, by omega⟩
          rw [hz] at htn htu hct
          rw [Int.toNat_natCast] at hct
          have hzl : z < (ctT d xs n k).length := by rw [hlc]; omega
          have hzi : (z : Int) < (n : Int) := htn
          obtain ⟨b, off, eA, hb, a0⟩ := rowNum (h.next hB) hk
          have z0 := blkNum hM hzl
          have zf := hM.frozen z
          have HCT := Lib.hid hct
          clear hct hlc ht hz htn hm hin
          subst eA
          revert a0 HCT
          generalize xs[k] = t
          intro a0 HCT
          go_wp2_with fail
          go_region
          go_wp2_with fail
          go_roundw
          case rel => exact ⟨k + 1, by go_num, by omega, by rw [HCT.out]; exact setNumB hM z hzl t, blk_far hC hCg _, blk_far hP1 (by omega) _, blk_far hQ1 (by omega) _, by first | exact hB.setCell (p := ⟨g, z, none⟩) (show w.heap.size ≤ g by omega) _ | exact (hB.setCell (p := ⟨g, z, none⟩) (show w.heap.size ≤ g by omega) _).drew⟩
          case measure => simp [intOf]; omega
        · obtain rfl : k = n := by omega
          have hO := SOwn.of_blk (E := encNum) (base := w.heap.size) (n := k) hM (by omega) (ct_len _ _ _ _) (by unfold maxLen; omega)
          obtain ⟨q0, q1, g0, g1, zq⟩ := blk2 hQ1
          have hQ2 := blk2_set (a := .int .i64 d) (b := .slice (some ⟨g, 0, none⟩) k k) hQ1
          obtain ⟨u0, u1, _, _, _⟩ := blk2 hQ2
          have hne : g ≠ w.heap.size + 1 := by omega
          have hO2 := (SOwn.of_blk (E := encNum) (base := w.heap.size) (n := k) (show SBlk encNum _ g 3 (ctT d xs k k) from blk_store2 (C := w.heap.size + 1) hM hne (.int .i64 d) (.slice (some ⟨g, 0, none⟩) k k)) (by omega) (ct_len _ _ _ _) (by unfold maxLen; omega))
          clear hO
          go_wp2
          exact bodyPost_ret (v := .agg #[.int .i64 d, .slice (some ⟨g, 0, none⟩) k k]) (by simp [results, Try.results38, go_sem, u0, u1]) rfl ⟨some ⟨g, 0, none⟩, k, by rw [ct_len], hO2, store2_bel hB (by omega) _ _⟩
theorem iCt_is (d : Int) (A : Option Addr) (cap : Nat) (xs : List Int) {r : Int} {l : List Int} {n : Nat} (w : World) (hn : xs.length = n) (h : SRow encNum w A xs) (hl : n ≤ 2000000) (hr : ctD d xs = r) (hl2 : ctL d xs = l) : Calls Try.prog 31 #[.agg #[.int .i64 d, .slice A n cap]] w (CityRet r l w) := by subst hr; subst hl2; exact iCt_any d A cap xs w hn h hl
theorem sCt_is (d : Int) (A : Option Addr) (cap : Nat) (xs : List Int) {r : Int} {l : List Int} {n : Nat} (w : World) (hn : xs.length = n) (h : SRow encNum w A xs) (hl : n ≤ 2000000) (hr : ctD d xs = r) (hl2 : ctL d xs = l) : Calls Try.prog 38 #[.agg #[.int .i64 d, .slice A n cap]] w (CityRet r l w) := by subst hr; subst hl2; exact sCt_any d A cap xs w hn h hl
end Go.Proofs.Ytidppabconifkaa
