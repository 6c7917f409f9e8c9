/- Contracts of chapter 8: blinds with a pause, minute by minute. -/
import Derived.Test.YtpmbjdfecbmgoaaBp
namespace Go.Proofs.Ytpmbjdfecbmgoaa
open Go Go.ChangeShapes Go.WideShapes Go.ChangeAt Go.RowKit
set_option linter.unusedSimpArgs false
set_option linter.unusedVariables false

theorem new_encN {α : Type} {E : Enc α} {n : Nat} (w : World) (hn : w.heap.size = n) (x : α) (T : TypeId) : ∀ j u, (E.enc x)[j]? = some u → (w.alloc (.cells (E.enc x).toArray T)).cell? ((⟨n, 0, none⟩ : Addr).add j) = some u := by
  subst hn; exact new_enc w x T
theorem ownb4 {w w1 : World} {o o' o'' o3 : Obj} (hb : Below ((((w.alloc o).alloc o').alloc o'').alloc o3).heap.size ((((w.alloc o).alloc o').alloc o'').alloc o3) w1) :
    w1.heap[w.heap.size]? = some o ∧ w1.heap[w.heap.size + 1]? = some o' ∧ w1.heap[w.heap.size + 1 + 1]? = some o'' ∧ w1.heap[w.heap.size + 1 + 1 + 1]? = some o3 ∧ Below w.heap.size w w1 := by
  have h3 := blk_new (((w.alloc o).alloc o').alloc o'') o3
  have h2 := blk_old (new2 (w.alloc o) o' o'') o3
  have h1 := blk_old (blk_old (new2 w o o') o'') o3
  have h0 := blk_old (blk_old (blk_old (blk_new w o) o') o'') o3
  have e : (w.alloc o).heap.size = w.heap.size + 1 := by simp
  have e3 : (((w.alloc o).alloc o').alloc o'').heap.size = w.heap.size + 1 + 1 + 1 := by simp
  rw [e] at h2
  rw [e3] at h3
  exact ⟨blk_next h0 hb, blk_next h1 hb, blk_next h2 hb, blk_next h3 hb, bel_next (((bel2 w o o').alloc (by simp; omega) o'').alloc (by simp; omega) o3) hb⟩
def PaRet (l : List Bool) (r : Bool) (u : Int) (w : World) (e : Ending) (w' : World) : Prop := ∃ (A : Option Addr) (cap : Nat), e = .returned (.tuple #[.slice A l.length cap, .agg #[.bool r, .int .i64 u]]) ∧ SOwn encBool w' w.heap.size 4 A cap l ∧ Below w.heap.size w w'
theorem ret_pa {A : Option Addr} {n m c : Nat} {r : Bool} {u : Int} (h : n = m) : Ending.returned (.tuple #[.slice A n c, .agg #[.bool r, .int .i64 u]]) = .returned (.tuple #[.slice A m c, .agg #[.bool r, .int .i64 u]]) := by rw [h]
theorem ret_pb {A : Option Addr} {n m c : Nat} {r r' : Bool} {u u' : Int} (h : n = m) (h1 : r = r') (h2 : u = u') : Ending.returned (.tuple #[.slice A n c, .agg #[.bool r, .int .i64 u]]) = .returned (.tuple #[.slice A m c, .agg #[.bool r', .int .i64 u']]) := by rw [h, h1, h2]
theorem paL_60 (s : Bool) (t lo hi p : Int) (xs : List Int) : (paL s t lo hi p xs).length ≤ 60 := by
  cases h : paB t lo hi p xs
  · rw [(pa_no h).1]; simp
  · rw [(pa_yes h).1, paR_len]; exact (ltB_iff.1 (paB_iff.1 h).2).1
theorem SOwn.far {α : Type} {E : Enc α} {w : World} {base b cap : Nat} {T : TypeId} {A : Option Addr} {xs : List α} (h : SOwn E w base T A cap xs) (hb : b < base) (u v : Value) : SOwn E ((w.setCell ⟨b, 0, none⟩ u).setCell ⟨b, 1, none⟩ v) base T A cap xs := h.far2 hb u v
set_option maxRecDepth 100000 in
set_option maxHeartbeats 4000000 in
theorem iPa_is (A : Option Addr) (cap : Nat) (xs : List Int) {n : Nat} {s r : Bool} {t lo hi p u : Int} {l : List Bool} (w : World) (hn : xs.length = n) (h : SRow encNum w A xs) (hl : n ≤ 2000000) (hL : paL s t lo hi p xs = l) (hR : paU s t lo hi p xs = r) (hU : paV s t lo hi p xs = u) :
    Calls Try.prog 39 #[.agg #[.bool s, .int .i64 t], .agg #[.int .i64 lo, .int .i64 hi], .int .i64 p, .slice A n cap] w fun E w' => PaRet l r u w E w' := by
  obtain ⟨i0, hi0, hz0, hz1, hz2⟩ := info_parts infoBool
  have HI := Lib.hid (And.intro hi0 (And.intro hz0 (And.intro hz1 hz2)))
  clear hi0 hz0 hz1 hz2
  subst hL hR hU
  cases hb9 : paB t lo hi p xs
  · rw [(pa_no hb9).1, (pa_no hb9).2.1, (pa_no hb9).2.2]
    rcases paB_false hb9 with hb8 | ⟨hb8, hv⟩
    · rcases psB_false hb8 with h1 | ⟨h1, h2⟩ | ⟨h1, h2, h3⟩
      · have HT := Lib.hid h1
        clear h1
        clear hb8 hb9
        go_enter Try.func39, Try.ntmps39
        go_wp2_with fail
        refine (iBl_is _ HT.out).mono ?_; rintro E w1 ⟨rfl, hw1⟩
        obtain ⟨hP1, hQ1, hR1, hB1⟩ := ownb3 hw1
        obtain ⟨p10, p11, _, _, zp1⟩ := blk2 hP1
        obtain ⟨q10, q11, _, _, zq1⟩ := blk2 hQ1
        obtain ⟨r10, r11, fr10, fr11, zr1⟩ := blk2 hR1
        have hZ := blk2_set (a := .bool false) (b := .int .i64 0) hR1
        obtain ⟨y0, y1, _⟩ := blk2 hZ
        go_wp2
        exact bodyPost_ret (v := .tuple #[.slice none 0 0, .agg #[.bool false, .int .i64 0]]) (by simp [results, Try.results39, go_sem, y0, y1]) rfl ⟨none, 0, rfl, SOwn.nil _ _ _, store2_bel hB1 (by omega) _ _⟩
      · have HT := Lib.hid h1
        have HB := Lib.hid h2
        clear h1 h2
        clear hb8 hb9
        go_enter Try.func39, Try.ntmps39
        go_wp2_with fail
        refine (iBl_is _ HT.out).mono ?_; rintro E w1 ⟨rfl, hw1⟩
        obtain ⟨hP1, hQ1, hR1, hB1⟩ := ownb3 hw1
        obtain ⟨p10, p11, _, _, zp1⟩ := blk2 hP1
        obtain ⟨q10, q11, _, _, zq1⟩ := blk2 hQ1
        obtain ⟨r10, r11, fr10, fr11, zr1⟩ := blk2 hR1
        go_wp2_with fail
        refine (iBd_is _ HB.out).mono ?_; rintro E w2 ⟨rfl, hw2⟩
        have hP2 := blk_next hP1 hw2
        have hQ2 := blk_next hQ1 hw2
        have hR2 := blk_next hR1 hw2
        have hB2 := bel_next hB1 hw2
        obtain ⟨p20, p21, _, _, zp2⟩ := blk2 hP2
        obtain ⟨q20, q21, _, _, zq2⟩ := blk2 hQ2
        obtain ⟨r20, r21, fr20, fr21, zr2⟩ := blk2 hR2
        have hZ := blk2_set (a := .bool false) (b := .int .i64 0) hR2
        obtain ⟨y0, y1, _⟩ := blk2 hZ
        go_wp2
        exact bodyPost_ret (v := .tuple #[.slice none 0 0, .agg #[.bool false, .int .i64 0]]) (by simp [results, Try.results39, go_sem, y0, y1]) rfl ⟨none, 0, rfl, SOwn.nil _ _ _, store2_bel hB2 (by omega) _ _⟩
      · have HT := Lib.hid h1
        have HB := Lib.hid h2
        have HP := Lib.hid h3
        clear h1 h2 h3
        clear hb8 hb9
        go_enter Try.func39, Try.ntmps39
        go_wp2_with fail
        refine (iBl_is _ HT.out).mono ?_; rintro E w1 ⟨rfl, hw1⟩
        obtain ⟨hP1, hQ1, hR1, hB1⟩ := ownb3 hw1
        obtain ⟨p10, p11, _, _, zp1⟩ := blk2 hP1
        obtain ⟨q10, q11, _, _, zq1⟩ := blk2 hQ1
        obtain ⟨r10, r11, fr10, fr11, zr1⟩ := blk2 hR1
        go_wp2_with fail
        refine (iBd_is _ HB.out).mono ?_; rintro E w2 ⟨rfl, hw2⟩
        have hP2 := blk_next hP1 hw2
        have hQ2 := blk_next hQ1 hw2
        have hR2 := blk_next hR1 hw2
        have hB2 := bel_next hB1 hw2
        obtain ⟨p20, p21, _, _, zp2⟩ := blk2 hP2
        obtain ⟨q20, q21, _, _, zq2⟩ := blk2 hQ2
        obtain ⟨r20, r21, fr20, fr21, zr2⟩ := blk2 hR2
        go_wp2_with fail
        refine (iPv_is _ HP.out).mono ?_; rintro E w' ⟨rfl, rfl⟩
        have hZ := blk2_set (a := .bool false) (b := .int .i64 0) hR2
        obtain ⟨y0, y1, _⟩ := blk2 hZ
        go_wp2
        exact bodyPost_ret (v := .tuple #[.slice none 0 0, .agg #[.bool false, .int .i64 0]]) (by simp [results, Try.results39, go_sem, y0, y1]) rfl ⟨none, 0, rfl, SOwn.nil _ _ _, store2_bel hB2 (by omega) _ _⟩
    · obtain ⟨h1, h2, h3⟩ := psB_true hb8
      have HV := Lib.hid hv
      have HT := Lib.hid h1
      have HB := Lib.hid h2
      have HP := Lib.hid h3
      clear h1 h2 h3
      clear hb8 hb9 hv
      have HN := Lib.hid hn
      clear hn
      go_enter Try.func39, Try.ntmps39
      go_wp2_with fail
      refine (iBl_is _ HT.out).mono ?_; rintro E w1 ⟨rfl, hw1⟩
      obtain ⟨hP1, hQ1, hR1, hB1⟩ := ownb3 hw1
      obtain ⟨p10, p11, _, _, zp1⟩ := blk2 hP1
      obtain ⟨q10, q11, _, _, zq1⟩ := blk2 hQ1
      obtain ⟨r10, r11, fr10, fr11, zr1⟩ := blk2 hR1
      go_wp2_with fail
      refine (iBd_is _ HB.out).mono ?_; rintro E w2 ⟨rfl, hw2⟩
      have hP2 := blk_next hP1 hw2
      have hQ2 := blk_next hQ1 hw2
      have hR2 := blk_next hR1 hw2
      have hB2 := bel_next hB1 hw2
      obtain ⟨p20, p21, _, _, zp2⟩ := blk2 hP2
      obtain ⟨q20, q21, _, _, zq2⟩ := blk2 hQ2
      obtain ⟨r20, r21, fr20, fr21, zr2⟩ := blk2 hR2
      go_wp2_with fail
      refine (iPv_is _ HP.out).mono ?_; rintro E w' ⟨rfl, rfl⟩
      go_wp2_with fail
      refine (iLt_is A cap xs _ HN.out (h.next hB2) hl HV.out).mono ?_; rintro E w3 ⟨rfl, hw3⟩
      have hP3 := blk_next hP2 hw3
      have hQ3 := blk_next hQ2 hw3
      have hR3 := blk_next hR2 hw3
      have hB3 := bel_next hB2 hw3
      obtain ⟨p30, p31, _, _, zp3⟩ := blk2 hP3
      obtain ⟨q30, q31, _, _, zq3⟩ := blk2 hQ3
      obtain ⟨r30, r31, fr30, fr31, zr3⟩ := blk2 hR3
      have hZ := blk2_set (a := .bool false) (b := .int .i64 0) hR3
      obtain ⟨y0, y1, _⟩ := blk2 hZ
      go_wp2
      exact bodyPost_ret (v := .tuple #[.slice none 0 0, .agg #[.bool false, .int .i64 0]]) (by simp [results, Try.results39, go_sem, y0, y1]) rfl ⟨none, 0, rfl, SOwn.nil _ _ _, store2_bel hB3 (by omega) _ _⟩
  · rw [(pa_yes hb9).1, (pa_yes hb9).2.1, (pa_yes hb9).2.2]
    obtain ⟨hb8, hv⟩ := paB_iff.1 hb9
    obtain ⟨⟨t0, t20⟩, hbb, ⟨pp0, pp20⟩⟩ := psB_iff.1 hb8
    have HPS := Lib.hid (psB_iff.1 hb8)
    have hn60 : n ≤ 60 := by have := (ltB_iff.1 hv).1; omega
    obtain ⟨h1, h2, h3⟩ := psB_true hb8
    have HV := Lib.hid hv
    have HT := Lib.hid h1
    have HB := Lib.hid h2
    have HP := Lib.hid h3
    clear h1 h2 h3
    clear hb8 hb9 hv hbb
    have HN := Lib.hid hn
    clear hn
    go_enter Try.func39, Try.ntmps39
    go_wp2_with fail
    refine (iBl_is _ HT.out).mono ?_; rintro E w1 ⟨rfl, hw1⟩
    obtain ⟨hP1, hQ1, hR1, hB1⟩ := ownb3 hw1
    obtain ⟨p10, p11, _, _, zp1⟩ := blk2 hP1
    obtain ⟨q10, q11, _, _, zq1⟩ := blk2 hQ1
    obtain ⟨r10, r11, fr10, fr11, zr1⟩ := blk2 hR1
    go_wp2_with fail
    refine (iBd_is _ HB.out).mono ?_; rintro E w2 ⟨rfl, hw2⟩
    have hP2 := blk_next hP1 hw2
    have hQ2 := blk_next hQ1 hw2
    have hR2 := blk_next hR1 hw2
    have hB2 := bel_next hB1 hw2
    obtain ⟨p20, p21, _, _, zp2⟩ := blk2 hP2
    obtain ⟨q20, q21, _, _, zq2⟩ := blk2 hQ2
    obtain ⟨r20, r21, fr20, fr21, zr2⟩ := blk2 hR2
    go_wp2_with fail
    refine (iPv_is _ HP.out).mono ?_; rintro E w' ⟨rfl, rfl⟩
    go_wp2_with fail
    refine (iLt_is A cap xs _ HN.out (h.next hB2) hl HV.out).mono ?_; rintro E w3 ⟨rfl, hw3⟩
    have hP3 := blk_next hP2 hw3
    have hQ3 := blk_next hQ2 hw3
    have hR3 := blk_next hR2 hw3
    have hB3 := bel_next hB2 hw3
    obtain ⟨p30, p31, _, _, zp3⟩ := blk2 hP3
    obtain ⟨q30, q31, _, _, zq3⟩ := blk2 hQ3
    obtain ⟨r30, r31, fr30, fr31, zr3⟩ := blk2 hR3
    go_wp2_with fail
    go_loopw [10, 34] (fun rv iv wr => ∃ (k m cv : Nat) (V : Option Addr) (us : List Bool) (s1 : Bool) (t1 : Int), k ≤ n ∧ m = k ∧ iv = .int .i64 k ∧ rv = .slice V m cv ∧ (0 ≤ t1 ∧ t1 ≤ 20) ∧ Hid (paS lo hi p s t (xs.take k) = s1) ∧ Hid (paT lo hi p s t (xs.take k) = t1) ∧ Hid (us.length = m) ∧ Hid (us = paR lo hi p s t (xs.take k)) ∧ SOwn encBool wr (w.heap.size + 3) 4 V cv us ∧ wr.heap[w.heap.size]? = some (.cells #[.bool s1, .int .i64 t1] 45) ∧ wr.heap[w.heap.size + 1]? = some (.cells #[.int .i64 lo, .int .i64 hi] 24) ∧ wr.heap[w.heap.size + 1 + 1]? = some (.cells #[.bool false, .int .i64 0] 45) ∧ Below w.heap.size w wr) (fun _ iv _ => (n - intOf iv).toNat)
    case atStart => exact ⟨0, 0, 0, none, [], s, t, by omega, rfl, rfl, rfl, ⟨t0, t20⟩, (by show _ = _; rfl), (by show _ = _; rfl), (by show _ = _; rfl), (by show _ = _; rfl), SOwn.nil _ _ _, hP3, hQ3, hR3, hB3⟩
    case round =>
      obtain ⟨k, m, cv, V, us, s1, t1, k1, mk, rfl, rfl, ⟨t10, t11⟩, HS, HT1, HM, HU, hO, hP, hQ, hR, hB⟩ := hrel
      have MK := Lib.hid mk
      have hm60 : m ≤ 60 := by omega
      by_cases hlt : k < n
      · clear mk
        have hk : k < xs.length := by rw [HN.out]; exact hlt
        have hki : (k : Int) < (n : Int) := by omega
        obtain ⟨b, off, rfl, hb, _⟩ := rowNum h hk
        have HA : Hid (∀ wv, Below w.heap.size w wv → wv.cell? ⟨b, off + k, none⟩ = some (.int .i64 xs[k])) := by
          intro wv hwv
          obtain ⟨_, _, e, _, hc⟩ := rowNum (h.next hwv) hk
          simp only [Option.some.injEq, Addr.mk.injEq, and_true] at e
          obtain ⟨rfl, rfl⟩ := e
          exact hc
        obtain ⟨hs1, hs2, hs3⟩ := pa_step hk lo hi p s t
        rw [HS.out, HT1.out] at hs2 hs3
        generalize xs[k] = x at HA hs2 hs3
        have hok : psB t1 lo hi p = true := psB_iff.2 ⟨⟨t10, t11⟩, HPS.out.2.1, HPS.out.2.2⟩
        obtain ⟨s2, hs⟩ : ∃ s2, psS s1 t1 lo hi p x = s2 := ⟨_, rfl⟩
        obtain ⟨t2, ht⟩ : ∃ t2, psT s1 t1 lo hi p x = t2 := ⟨_, rfl⟩
        have hbd := psT_bd (s := s1) (t := t1) (lo := lo) (hi := hi) (p := p) (x := x) t10
        rw [ht] at hbd
        obtain ⟨t20, t21⟩ := hbd
        have HX : Hid (pqS s1 t1 lo hi p x = s2) := Lib.hid ((pq_yes hok).1.trans hs)
        have HY : Hid (pqT s1 t1 lo hi p x = t2) := Lib.hid ((pq_yes hok).2.trans ht)
        rw [hs] at hs2
        rw [ht] at hs3
        rw [hs2] at hs1
        have H1 := Lib.hid hs1
        have H2 := Lib.hid hs2
        have H3 := Lib.hid hs3
        clear hs1 hs2 hs3 hs ht hok
        have c0 := HA.out wr hB
        obtain ⟨p0, p1, _, _, zp⟩ := blk2 hP
        obtain ⟨q0, q1, _, _, zq⟩ := blk2 hQ
        go_wp2_with fail
        refine (iPs_is _ HX.out HY.out).mono ?_; rintro E w5_ ⟨rfl, hw5_⟩
        have hP6 := blk_next hP hw5_
        have hQ6 := blk_next hQ hw5_
        have hR6 := blk_next hR hw5_
        have hB6 := bel_next hB hw5_
        have hO6 := hO.next hw5_
        obtain ⟨p60, p61, fp60, fp61, zp6⟩ := blk2 hP6
        have hP7 := blk2_set (a := .bool s2) (b := .int .i64 t2) hP6
        have hQ7 := blk_store2 (C := w.heap.size) hQ6 (by omega) (.bool s2) (.int .i64 t2)
        have hR7 := blk_store2 (C := w.heap.size) hR6 (by omega) (.bool s2) (.int .i64 t2)
        have hB7 := store2_bel hB6 (Nat.le_refl _) (.bool s2) (.int .i64 t2)
        have hO7 := hO6.far2 (b := w.heap.size) (by omega) (.bool s2) (.int .i64 t2)
        have hcp := blk_lt hR7
        have hcq : w.heap.size + 1 + 1 < w5_.heap.size := by have := hcp; simpa using this
        have hOa := hO7.alloc (.cells (encBool.enc (s2)).toArray 4)
        have hPa := blk_old hP7 (.cells (encBool.enc (s2)).toArray 4)
        have hQa := blk_old hQ7 (.cells (encBool.enc (s2)).toArray 4)
        have hRa := blk_old hR7 (.cells (encBool.enc (s2)).toArray 4)
        go_wp2_with (at_builtin; refine wpList_append_lies _ rfl (.tmp 43) (.tmp 46) _ rfl (w.heap.size + 3) 4 i0 _ 1 1 Try.underlying37 HI.out.1 HI.out.2.1 HI.out.2.2.1 HI.out.2.2.2 rfl (by omega) (.slice V m cv) m (encBool.flat us) rfl (by unfold SOwn at hOa; rw [HM.out] at hOa; exact hOa) ⟨w5_.heap.size, 0, none⟩ 1 1 (encBool.enc (s2)) rfl rfl (new_encN (E := encBool) (n := w5_.heap.size) ((w5_.setCell ⟨w.heap.size, 0, none⟩ (.bool s2)).setCell ⟨w.heap.size, 1, none⟩ (.int .i64 t2)) (by simp [World.setCell]) (s2) _) (encBool.one _) (by omega) (by simp only [maxLen]; omega) (by omega) (by simp; omega) _ rfl ?_; intro g5 cap5 w5 hown5 hgr5 hat5 hlt5)
        have hB5 := SOwn.below_grown (n := m) (hOa.mono (by omega)) (hB7.alloc hB7.size _) hgr5
        have hP5 := blk_grownS hPa hOa hgr5 (by omega)
        have hQ5 := blk_grownS hQa hOa hgr5 (by omega)
        have hR5 := blk_grownS hRa hOa hgr5 (by omega)
        have hsn := SOwn.snoc (E := encBool) (xs := us) (x := s2) (by rw [HM.out]; exact hown5)
        go_wp2_with fail
        go_roundw
        case rel =>
          exact ⟨k + 1, m + 1, cap5, some ⟨g5, 0, none⟩, us ++ [s2], s2, t2, by omega, by rw [MK.out], by go_num, rfl, ⟨t20, t21⟩, H2, H3, Lib.hid (by rw [List.length_append, HM.out]; rfl), Lib.hid (by rw [H1.out, HU.out]), hsn, hP5, hQ5, hR5, hB5⟩
        case measure => simp [intOf]; omega
      · obtain rfl : k = n := by omega
        obtain rfl : m = k := mk
        have hki : ¬ (m : Int) < (m : Int) := by omega
        have e9 : xs.take m = xs := List.take_of_length_le (by rw [HN.out]; omega)
        have HE9 := Lib.hid e9
        clear e9
        go_wp2_with fail
        have hRd : wr.drew.heap[w.heap.size + 1 + 1]? = some (.cells #[.bool false, .int .i64 0] 45) := hR
        refine wp_region_held_drew (S := (fun w' => w'.heap[w.heap.size]? = some (.cells #[.bool s1, .int .i64 t1] 45) ∧ Below w.heap.size w w')) (by kernel_rfl) ⟨hP, hB.drew⟩ (fun hHeld => ?_)
        obtain ⟨hP_0, hB_0⟩ := id hHeld
        refine wpAnyH_take (i := 0) (oi := _) (v := ?_) rfl (by kernel_rfl) (by kernel_rfl) (by kernel_rfl) (fun _ _ _ h => h) (Or.inl ⟨by rfl, ?_⟩) (by assumption) ?_
        (rotate_left); (focus (intro wv hSw; (obtain ⟨qP, qB⟩ := hSw);  go_simp; (try with_reducible rfl)))
        try simp only [Act.put, List.getElem_toArray, List.getElem_cons_succ, List.getElem_cons_zero, List.setIfInBounds_toArray, List.set_cons_zero, List.set_cons_succ]
        refine wpAnyH_take (i := 1) (oi := _) (v := ?_) rfl (by kernel_rfl) (by kernel_rfl) (by kernel_rfl) (fun _ _ _ h => h) (Or.inl ⟨by rfl, ?_⟩) (by assumption) ?_
        (rotate_left); (focus (intro wv hSw; (obtain ⟨qP, qB⟩ := hSw); obtain ⟨u0, u1, _, _, _⟩ := blk2 qP; go_simp; (try with_reducible rfl)))
        try simp only [Act.put, List.getElem_toArray, List.getElem_cons_succ, List.getElem_cons_zero, List.setIfInBounds_toArray, List.set_cons_zero, List.set_cons_succ]
        refine wpAnyH_take (i := 2) (oi := _) (v := ?_) rfl (by kernel_rfl) (by kernel_rfl) (by kernel_rfl) (fun _ _ _ h => h) (Or.inl ⟨by rfl, ?_⟩) (by assumption) ?_
        (rotate_left); (focus (intro wv hSw; (obtain ⟨qP, qB⟩ := hSw);  go_simp; (try with_reducible rfl)))
        try simp only [Act.put, List.getElem_toArray, List.getElem_cons_succ, List.getElem_cons_zero, List.setIfInBounds_toArray, List.set_cons_zero, List.set_cons_succ]
        obtain ⟨r0, r1, fr0, fr1, zr⟩ := blk2 hR
        refine wpAnyH_ready (rs := [3]) (by kernel_rfl) (by simp) ?_
        refine AllReadyH.cons (o := _) rfl (fun K hK => ?_) AllReadyH.nil
        go_simp
        refine hK.out _ _ ⟨blk_store2 (C := w.heap.size + 1 + 1) hP (by omega) _ _, (store2_bel (C := w.heap.size + 1 + 1) hB (by omega) _ _).drew⟩ (fun hHeld => ?_)
        clear hK K
        try simp only [Act.put, List.getElem_toArray, List.getElem_cons_succ, List.getElem_cons_zero, List.setIfInBounds_toArray, List.set_cons_zero, List.set_cons_succ]
        obtain ⟨hP_0w, hB_0w⟩ := id hHeld
        refine wpAnyH_done (by kernel_rfl) ?_ _
        have hZ := blk2_set (a := .bool s1) (b := .int .i64 t1) hR
        obtain ⟨y0, y1, _⟩ := blk2 hZ
        go_wp2
        exact bodyPost_ret (v := .tuple #[.slice V m cv, .agg #[.bool s1, .int .i64 t1]]) (by simp [results, Try.results39, go_sem, y0, y1]) rfl ⟨V, cv, ret_pb (by rw [paR_len, HN.out]) (by rw [← HS.out, HE9.out]) (by rw [← HT1.out, HE9.out]), by rw [← HE9.out, ← HU.out]; exact (hO.far (b := w.heap.size + 1 + 1) (by omega) (.bool s1) (.int .i64 t1)).drew.mono (by omega), hB_0w⟩
set_option maxRecDepth 100000 in
set_option maxHeartbeats 4000000 in
theorem sPa_is (A : Option Addr) (cap : Nat) (xs : List Int) {n : Nat} {s r : Bool} {t lo hi p u : Int} {l : List Bool} (w : World) (hn : xs.length = n) (h : SRow encNum w A xs) (hl : n ≤ 2000000) (hL : paL s t lo hi p xs = l) (hR : paU s t lo hi p xs = r) (hU : paV s t lo hi p xs = u) :
    Calls Try.prog 40 #[.agg #[.bool s, .int .i64 t], .agg #[.int .i64 lo, .int .i64 hi], .int .i64 p, .slice A n cap] w fun E w' => PaRet l r u w E w' := by
  obtain ⟨i0, hi0, hz0, hz1, hz2⟩ := info_parts infoBool
  have HI := Lib.hid (And.intro hi0 (And.intro hz0 (And.intro hz1 hz2)))
  clear hi0 hz0 hz1 hz2
  subst hL hR hU
  cases hb9 : paB t lo hi p xs
  · rw [(pa_no hb9).1, (pa_no hb9).2.1, (pa_no hb9).2.2]
    rcases paB_false hb9 with hb8 | ⟨hb8, hv⟩
    · rcases psB_false hb8 with h1 | ⟨h1, h2⟩ | ⟨h1, h2, h3⟩
      · have HT := Lib.hid h1
        clear h1
        clear hb8 hb9
        go_enter Try.func40, Try.ntmps40
        go_wp2_with fail
        refine (sBl_is _ HT.out).mono ?_; rintro E w1 ⟨rfl, hw1⟩
        obtain ⟨hP1, hQ1, hR1, hO1, hB1⟩ := ownb4 hw1
        obtain ⟨p10, p11, _, _, zp1⟩ := blk2 hP1
        obtain ⟨q10, q11, _, _, zq1⟩ := blk2 hQ1
        obtain ⟨r10, r11, fr10, fr11, zr1⟩ := blk2 hR1
        have hZ := blk2_set (a := .bool false) (b := .int .i64 0) hR1
        obtain ⟨y0, y1, _⟩ := blk2 hZ
        go_wp2
        exact bodyPost_ret (v := .tuple #[.slice (some ⟨w.heap.size + 1 + 1 + 1, 0, none⟩) 0 0, .agg #[.bool false, .int .i64 0]]) (by simp [results, Try.results40, go_sem, y0, y1]) rfl ⟨_, 0, rfl, SOwn.empty (blk_store2 hO1 (by omega) _ _) (by omega), store2_bel hB1 (by omega) _ _⟩
      · have HT := Lib.hid h1
        have HB := Lib.hid h2
        clear h1 h2
        clear hb8 hb9
        go_enter Try.func40, Try.ntmps40
        go_wp2_with fail
        refine (sBl_is _ HT.out).mono ?_; rintro E w1 ⟨rfl, hw1⟩
        obtain ⟨hP1, hQ1, hR1, hO1, hB1⟩ := ownb4 hw1
        obtain ⟨p10, p11, _, _, zp1⟩ := blk2 hP1
        obtain ⟨q10, q11, _, _, zq1⟩ := blk2 hQ1
        obtain ⟨r10, r11, fr10, fr11, zr1⟩ := blk2 hR1
        go_wp2_with fail
        refine (sBd_is _ HB.out).mono ?_; rintro E w2 ⟨rfl, hw2⟩
        have hP2 := blk_next hP1 hw2
        have hQ2 := blk_next hQ1 hw2
        have hR2 := blk_next hR1 hw2
        have hO2 := blk_next hO1 hw2
        have hB2 := bel_next hB1 hw2
        obtain ⟨p20, p21, _, _, zp2⟩ := blk2 hP2
        obtain ⟨q20, q21, _, _, zq2⟩ := blk2 hQ2
        obtain ⟨r20, r21, fr20, fr21, zr2⟩ := blk2 hR2
        have hZ := blk2_set (a := .bool false) (b := .int .i64 0) hR2
        obtain ⟨y0, y1, _⟩ := blk2 hZ
        go_wp2
        exact bodyPost_ret (v := .tuple #[.slice (some ⟨w.heap.size + 1 + 1 + 1, 0, none⟩) 0 0, .agg #[.bool false, .int .i64 0]]) (by simp [results, Try.results40, go_sem, y0, y1]) rfl ⟨_, 0, rfl, SOwn.empty (blk_store2 hO2 (by omega) _ _) (by omega), store2_bel hB2 (by omega) _ _⟩
      · have HT := Lib.hid h1
        have HB := Lib.hid h2
        have HP := Lib.hid h3
        clear h1 h2 h3
        clear hb8 hb9
        go_enter Try.func40, Try.ntmps40
        go_wp2_with fail
        refine (sBl_is _ HT.out).mono ?_; rintro E w1 ⟨rfl, hw1⟩
        obtain ⟨hP1, hQ1, hR1, hO1, hB1⟩ := ownb4 hw1
        obtain ⟨p10, p11, _, _, zp1⟩ := blk2 hP1
        obtain ⟨q10, q11, _, _, zq1⟩ := blk2 hQ1
        obtain ⟨r10, r11, fr10, fr11, zr1⟩ := blk2 hR1
        go_wp2_with fail
        refine (sBd_is _ HB.out).mono ?_; rintro E w2 ⟨rfl, hw2⟩
        have hP2 := blk_next hP1 hw2
        have hQ2 := blk_next hQ1 hw2
        have hR2 := blk_next hR1 hw2
        have hO2 := blk_next hO1 hw2
        have hB2 := bel_next hB1 hw2
        obtain ⟨p20, p21, _, _, zp2⟩ := blk2 hP2
        obtain ⟨q20, q21, _, _, zq2⟩ := blk2 hQ2
        obtain ⟨r20, r21, fr20, fr21, zr2⟩ := blk2 hR2
        go_wp2_with fail
        refine (sIn7_is _ HP.out).mono ?_; rintro E w' ⟨rfl, rfl⟩
        have hZ := blk2_set (a := .bool false) (b := .int .i64 0) hR2
        obtain ⟨y0, y1, _⟩ := blk2 hZ
        go_wp2
        exact bodyPost_ret (v := .tuple #[.slice (some ⟨w.heap.size + 1 + 1 + 1, 0, none⟩) 0 0, .agg #[.bool false, .int .i64 0]]) (by simp [results, Try.results40, go_sem, y0, y1]) rfl ⟨_, 0, rfl, SOwn.empty (blk_store2 hO2 (by omega) _ _) (by omega), store2_bel hB2 (by omega) _ _⟩
    · obtain ⟨h1, h2, h3⟩ := psB_true hb8
      have HV := Lib.hid hv
      have HT := Lib.hid h1
      have HB := Lib.hid h2
      have HP := Lib.hid h3
      clear h1 h2 h3
      clear hb8 hb9 hv
      have HN := Lib.hid hn
      clear hn
      go_enter Try.func40, Try.ntmps40
      go_wp2_with fail
      refine (sBl_is _ HT.out).mono ?_; rintro E w1 ⟨rfl, hw1⟩
      obtain ⟨hP1, hQ1, hR1, hO1, hB1⟩ := ownb4 hw1
      obtain ⟨p10, p11, _, _, zp1⟩ := blk2 hP1
      obtain ⟨q10, q11, _, _, zq1⟩ := blk2 hQ1
      obtain ⟨r10, r11, fr10, fr11, zr1⟩ := blk2 hR1
      go_wp2_with fail
      refine (sBd_is _ HB.out).mono ?_; rintro E w2 ⟨rfl, hw2⟩
      have hP2 := blk_next hP1 hw2
      have hQ2 := blk_next hQ1 hw2
      have hR2 := blk_next hR1 hw2
      have hO2 := blk_next hO1 hw2
      have hB2 := bel_next hB1 hw2
      obtain ⟨p20, p21, _, _, zp2⟩ := blk2 hP2
      obtain ⟨q20, q21, _, _, zq2⟩ := blk2 hQ2
      obtain ⟨r20, r21, fr20, fr21, zr2⟩ := blk2 hR2
      go_wp2_with fail
      refine (sIn7_is _ HP.out).mono ?_; rintro E w' ⟨rfl, rfl⟩
      go_wp2_with fail
      refine (sLt_is A cap xs _ HN.out (h.next hB2) hl HV.out).mono ?_; rintro E w3 ⟨rfl, hw3⟩
      have hP3 := blk_next hP2 hw3
      have hQ3 := blk_next hQ2 hw3
      have hR3 := blk_next hR2 hw3
      have hO3 := blk_next hO2 hw3
      have hB3 := bel_next hB2 hw3
      obtain ⟨p30, p31, _, _, zp3⟩ := blk2 hP3
      obtain ⟨q30, q31, _, _, zq3⟩ := blk2 hQ3
      obtain ⟨r30, r31, fr30, fr31, zr3⟩ := blk2 hR3
      have hZ := blk2_set (a := .bool false) (b := .int .i64 0) hR3
      obtain ⟨y0, y1, _⟩ := blk2 hZ
      go_wp2
      exact bodyPost_ret (v := .tuple #[.slice (some ⟨w.heap.size + 1 + 1 + 1, 0, none⟩) 0 0, .agg #[.bool false, .int .i64 0]]) (by simp [results, Try.results40, go_sem, y0, y1]) rfl ⟨_, 0, rfl, SOwn.empty (blk_store2 hO3 (by omega) _ _) (by omega), store2_bel hB3 (by omega) _ _⟩
  · rw [(pa_yes hb9).1, (pa_yes hb9).2.1, (pa_yes hb9).2.2]
    obtain ⟨hb8, hv⟩ := paB_iff.1 hb9
    obtain ⟨⟨t0, t20⟩, hbb, ⟨pp0, pp20⟩⟩ := psB_iff.1 hb8
    have HPS := Lib.hid (psB_iff.1 hb8)
    have hn60 : n ≤ 60 := by have := (ltB_iff.1 hv).1; omega
    obtain ⟨h1, h2, h3⟩ := psB_true hb8
    have HV := Lib.hid hv
    have HT := Lib.hid h1
    have HB := Lib.hid h2
    have HP := Lib.hid h3
    clear h1 h2 h3
    clear hb8 hb9 hv hbb
    have HN := Lib.hid hn
    clear hn
    go_enter Try.func40, Try.ntmps40
    go_wp2_with fail
    refine (sBl_is _ HT.out).mono ?_; rintro E w1 ⟨rfl, hw1⟩
    obtain ⟨hP1, hQ1, hR1, hO1, hB1⟩ := ownb4 hw1
    obtain ⟨p10, p11, _, _, zp1⟩ := blk2 hP1
    obtain ⟨q10, q11, _, _, zq1⟩ := blk2 hQ1
    obtain ⟨r10, r11, fr10, fr11, zr1⟩ := blk2 hR1
    go_wp2_with fail
    refine (sBd_is _ HB.out).mono ?_; rintro E w2 ⟨rfl, hw2⟩
    have hP2 := blk_next hP1 hw2
    have hQ2 := blk_next hQ1 hw2
    have hR2 := blk_next hR1 hw2
    have hO2 := blk_next hO1 hw2
    have hB2 := bel_next hB1 hw2
    obtain ⟨p20, p21, _, _, zp2⟩ := blk2 hP2
    obtain ⟨q20, q21, _, _, zq2⟩ := blk2 hQ2
    obtain ⟨r20, r21, fr20, fr21, zr2⟩ := blk2 hR2
    go_wp2_with fail
    refine (sIn7_is _ HP.out).mono ?_; rintro E w' ⟨rfl, rfl⟩
    go_wp2_with fail
    refine (sLt_is A cap xs _ HN.out (h.next hB2) hl HV.out).mono ?_; rintro E w3 ⟨rfl, hw3⟩
    have hP3 := blk_next hP2 hw3
    have hQ3 := blk_next hQ2 hw3
    have hR3 := blk_next hR2 hw3
    have hO3 := blk_next hO2 hw3
    have hB3 := bel_next hB2 hw3
    obtain ⟨p30, p31, _, _, zp3⟩ := blk2 hP3
    obtain ⟨q30, q31, _, _, zq3⟩ := blk2 hQ3
    obtain ⟨r30, r31, fr30, fr31, zr3⟩ := blk2 hR3
    go_wp2_with fail
    go_loopw [10, 11] (fun rv iv wr => ∃ (k m cv : Nat) (V : Option Addr) (us : List Bool) (s1 : Bool) (t1 : Int), k ≤ n ∧ m = k ∧ iv = .int .i64 k ∧ rv = .slice V m cv ∧ (0 ≤ t1 ∧ t1 ≤ 20) ∧ Hid (paS lo hi p s t (xs.take k) = s1) ∧ Hid (paT lo hi p s t (xs.take k) = t1) ∧ Hid (us.length = m) ∧ Hid (us = paR lo hi p s t (xs.take k)) ∧ SOwn encBool wr (w.heap.size + 3) 4 V cv us ∧ wr.heap[w.heap.size]? = some (.cells #[.bool s1, .int .i64 t1] 45) ∧ wr.heap[w.heap.size + 1]? = some (.cells #[.int .i64 lo, .int .i64 hi] 24) ∧ wr.heap[w.heap.size + 1 + 1]? = some (.cells #[.bool false, .int .i64 0] 45) ∧ Below w.heap.size w wr) (fun _ iv _ => (n - intOf iv).toNat)
    case atStart => exact ⟨0, 0, 0, _, [], s, t, by omega, rfl, rfl, rfl, ⟨t0, t20⟩, (by show _ = _; rfl), (by show _ = _; rfl), (by show _ = _; rfl), (by show _ = _; rfl), SOwn.empty hO3 (by omega), hP3, hQ3, hR3, hB3⟩
    case round =>
      obtain ⟨k, m, cv, V, us, s1, t1, k1, mk, rfl, rfl, ⟨t10, t11⟩, HS, HT1, HM, HU, hO, hP, hQ, hR, hB⟩ := hrel
      have MK := Lib.hid mk
      have hm60 : m ≤ 60 := by omega
      by_cases hlt : k < n
      · clear mk
        have hk : k < xs.length := by rw [HN.out]; exact hlt
        have hki : (k : Int) < (n : Int) := by omega
        obtain ⟨b, off, rfl, hb, _⟩ := rowNum h hk
        have HA : Hid (∀ wv, Below w.heap.size w wv → wv.cell? ⟨b, off + k, none⟩ = some (.int .i64 xs[k])) := by
          intro wv hwv
          obtain ⟨_, _, e, _, hc⟩ := rowNum (h.next hwv) hk
          simp only [Option.some.injEq, Addr.mk.injEq, and_true] at e
          obtain ⟨rfl, rfl⟩ := e
          exact hc
        obtain ⟨hs1, hs2, hs3⟩ := pa_step hk lo hi p s t
        rw [HS.out, HT1.out] at hs2 hs3
        generalize xs[k] = x at HA hs2 hs3
        have hok : psB t1 lo hi p = true := psB_iff.2 ⟨⟨t10, t11⟩, HPS.out.2.1, HPS.out.2.2⟩
        obtain ⟨s2, hs⟩ : ∃ s2, psS s1 t1 lo hi p x = s2 := ⟨_, rfl⟩
        obtain ⟨t2, ht⟩ : ∃ t2, psT s1 t1 lo hi p x = t2 := ⟨_, rfl⟩
        have hbd := psT_bd (s := s1) (t := t1) (lo := lo) (hi := hi) (p := p) (x := x) t10
        rw [ht] at hbd
        obtain ⟨t20, t21⟩ := hbd
        have HX : Hid (pqS s1 t1 lo hi p x = s2) := Lib.hid ((pq_yes hok).1.trans hs)
        have HY : Hid (pqT s1 t1 lo hi p x = t2) := Lib.hid ((pq_yes hok).2.trans ht)
        rw [hs] at hs2
        rw [ht] at hs3
        rw [hs2] at hs1
        have H1 := Lib.hid hs1
        have H2 := Lib.hid hs2
        have H3 := Lib.hid hs3
        clear hs1 hs2 hs3 hs ht hok
        go_wp2_with fail
        have hPd : wr.drew.heap[w.heap.size]? = some (.cells #[.bool s1, .int .i64 t1] 45) := hP
        have hRd : wr.drew.heap[w.heap.size + 1 + 1]? = some (.cells #[.bool false, .int .i64 0] 45) := hR
        have hOd := hO.drew
        obtain ⟨p0, p1, _, _, zp⟩ := blk2 hPd
        refine wp_region_held_drew (S := (fun w' => w'.heap[w.heap.size + 1]? = some (.cells #[.int .i64 lo, .int .i64 hi] 24) ∧ Below w.heap.size w w')) (by kernel_rfl) ⟨hQ, hB.drew⟩ (fun hHeld => ?_)
        obtain ⟨hQ_0, hB_0⟩ := id hHeld
        refine wpAnyH_take (i := 2) (oi := _) (v := ?_) rfl (by kernel_rfl) (by kernel_rfl) (by kernel_rfl) (fun _ _ _ h => h) (Or.inl ⟨by rfl, ?_⟩) (by assumption) ?_
        (rotate_left); (focus (intro wv hSw; (obtain ⟨qQ, qB⟩ := hSw);  go_simp; (try with_reducible rfl)))
        try simp only [Act.put, List.getElem_toArray, List.getElem_cons_succ, List.getElem_cons_zero, List.setIfInBounds_toArray, List.set_cons_zero, List.set_cons_succ]
        refine wpAnyH_take (i := 3) (oi := _) (v := ?_) rfl (by kernel_rfl) (by kernel_rfl) (by kernel_rfl) (fun _ _ _ h => h) (Or.inl ⟨by rfl, ?_⟩) (by assumption) ?_
        (rotate_left); (focus (intro wv hSw; (obtain ⟨qQ, qB⟩ := hSw);  go_simp; (try with_reducible rfl)))
        try simp only [Act.put, List.getElem_toArray, List.getElem_cons_succ, List.getElem_cons_zero, List.setIfInBounds_toArray, List.set_cons_zero, List.set_cons_succ]
        refine wpAnyH_take (i := 4) (oi := _) (v := ?_) rfl (by kernel_rfl) (by kernel_rfl) (by kernel_rfl) (fun _ _ _ h => h) (Or.inl ⟨by rfl, ?_⟩) (by assumption) ?_
        (rotate_left); (focus (intro wv hSw; (obtain ⟨qQ, qB⟩ := hSw);  go_simp; (try with_reducible rfl)))
        try simp only [Act.put, List.getElem_toArray, List.getElem_cons_succ, List.getElem_cons_zero, List.setIfInBounds_toArray, List.set_cons_zero, List.set_cons_succ]
        refine wpAnyH_take (i := 5) (oi := _) (v := ?_) rfl (by kernel_rfl) (by kernel_rfl) (by kernel_rfl) (fun _ _ _ h => h) (Or.inl ⟨by rfl, ?_⟩) (by assumption) ?_
        (rotate_left); (focus (intro wv hSw; (obtain ⟨qQ, qB⟩ := hSw);  go_simp; (try with_reducible rfl)))
        try simp only [Act.put, List.getElem_toArray, List.getElem_cons_succ, List.getElem_cons_zero, List.setIfInBounds_toArray, List.set_cons_zero, List.set_cons_succ]
        refine wpAnyH_take (i := 1) (oi := _) (v := ?_) rfl (by kernel_rfl) (by kernel_rfl) (by kernel_rfl) (fun _ _ _ h => h) (Or.inl ⟨by rfl, ?_⟩) (by assumption) ?_
        (rotate_left); (focus (intro wv hSw; (obtain ⟨qQ, qB⟩ := hSw); obtain ⟨u0, u1, _, _, _⟩ := blk2 qQ; go_simp; (try with_reducible rfl)))
        try simp only [Act.put, List.getElem_toArray, List.getElem_cons_succ, List.getElem_cons_zero, List.setIfInBounds_toArray, List.set_cons_zero, List.set_cons_succ]
        refine wpAnyH_take (i := 6) (oi := _) (v := ?_) rfl (by kernel_rfl) (by kernel_rfl) (by kernel_rfl) (fun _ _ _ h => h) (Or.inl ⟨by rfl, ?_⟩) (by assumption) ?_
        (rotate_left); (focus (intro wv hSw; (obtain ⟨qQ, qB⟩ := hSw); have cc := HA.out wv qB; go_simp; (try with_reducible rfl)))
        try simp only [Act.put, List.getElem_toArray, List.getElem_cons_succ, List.getElem_cons_zero, List.setIfInBounds_toArray, List.set_cons_zero, List.set_cons_succ]
        refine wpAnyH_ready (rs := [0]) (by kernel_rfl) (by simp) ?_
        refine AllReadyH.cons (o := _) rfl (fun K hK => ?_) AllReadyH.nil
        go_simp
        refine hK.out _ _ ⟨hQ_0, hB_0⟩ (fun hHeld => ?_)
        clear hK K
        try simp only [Act.put, List.getElem_toArray, List.getElem_cons_succ, List.getElem_cons_zero, List.setIfInBounds_toArray, List.set_cons_zero, List.set_cons_succ]
        obtain ⟨hQ_0l, hB_0l⟩ := id hHeld
        refine wpAnyH_ready (rs := [7]) (by kernel_rfl) (by simp) ?_
        refine AllReadyH.cons (o := _) rfl (fun K hK => ?_) AllReadyH.nil
        go_simp
        (go_at_call 37; refine (sPs_is _ HX.out HY.out).mono ?_; rintro e x0lc ⟨rfl, hw_0lc⟩)
        refine hK.out _ _ ⟨blk_next hQ_0l hw_0lc, bel_next hB_0l hw_0lc⟩ (fun hHeld => ?_)
        clear hK K
        try simp only [Act.put, List.getElem_toArray, List.getElem_cons_succ, List.getElem_cons_zero, List.setIfInBounds_toArray, List.set_cons_zero, List.set_cons_succ]
        obtain ⟨hQ_0lc, hB_0lc⟩ := id hHeld
        have hP_0lc := blk_next hPd hw_0lc
        have hR_0lc := blk_next hRd hw_0lc
        have hO_0lc := hOd.next hw_0lc
        obtain ⟨p60, p61, fp60, fp61, zp6⟩ := blk2 hP_0lc
        refine wpAnyH_ready (rs := [8]) (by kernel_rfl) (by simp) ?_
        refine AllReadyH.cons (o := _) rfl (fun K hK => ?_) AllReadyH.nil
        go_simp
        refine hK.out _ _ ⟨blk_store2 hQ_0lc (by omega) _ _, store2_bel hB_0lc (Nat.le_refl _) _ _⟩ (fun hHeld => ?_)
        clear hK K
        try simp only [Act.put, List.getElem_toArray, List.getElem_cons_succ, List.getElem_cons_zero, List.setIfInBounds_toArray, List.set_cons_zero, List.set_cons_succ]
        obtain ⟨hQ_0lcw, hB_0lcw⟩ := id hHeld
        have hP_0lcw := blk2_set (a := .bool s2) (b := .int .i64 t2) hP_0lc
        have hR_0lcw := blk_store2 (C := w.heap.size) hR_0lc (by omega) (.bool s2) (.int .i64 t2)
        have hO_0lcw := hO_0lc.far2 (b := w.heap.size) (by omega) (.bool s2) (.int .i64 t2)
        refine wpAnyH_done (by kernel_rfl) ?_ _
        have hcp := blk_lt hR_0lcw
        have hcq : w.heap.size + 1 + 1 < x0lc.heap.size := by have := hcp; simpa using this
        have hOa := hO_0lcw.alloc (.cells (encBool.enc (s2)).toArray 4)
        have hPa := blk_old hP_0lcw (.cells (encBool.enc (s2)).toArray 4)
        have hQa := blk_old hQ_0lcw (.cells (encBool.enc (s2)).toArray 4)
        have hRa := blk_old hR_0lcw (.cells (encBool.enc (s2)).toArray 4)
        go_wp2_with (at_builtin; refine wpList_append_lies _ rfl (.tmp 47) (.tmp 50) _ rfl (w.heap.size + 3) 4 i0 _ 1 1 Try.underlying37 HI.out.1 HI.out.2.1 HI.out.2.2.1 HI.out.2.2.2 rfl (by omega) (.slice V m cv) m (encBool.flat us) rfl (by unfold SOwn at hOa; rw [HM.out] at hOa; exact hOa) ⟨x0lc.heap.size, 0, none⟩ 1 1 (encBool.enc (s2)) rfl rfl (new_encN (E := encBool) (n := x0lc.heap.size) ((x0lc.setCell ⟨w.heap.size, 0, none⟩ (.bool s2)).setCell ⟨w.heap.size, 1, none⟩ (.int .i64 t2)) (by simp [World.setCell]) (s2) _) (encBool.one _) (by omega) (by simp only [maxLen]; omega) (by omega) (by simp; omega) _ rfl ?_; intro g5 cap5 w5 hown5 hgr5 hat5 hlt5)
        have hB5 := SOwn.below_grown (n := m) (hOa.mono (by omega)) (hB_0lcw.alloc hB_0lcw.size _) hgr5
        have hP5 := blk_grownS hPa hOa hgr5 (by omega)
        have hQ5 := blk_grownS hQa hOa hgr5 (by omega)
        have hR5 := blk_grownS hRa hOa hgr5 (by omega)
        have hsn := SOwn.snoc (E := encBool) (xs := us) (x := s2) (by rw [HM.out]; exact hown5)
        go_wp2_with fail
        go_roundw
        case rel =>
          exact ⟨k + 1, m + 1, cap5, some ⟨g5, 0, none⟩, us ++ [s2], s2, t2, by omega, by rw [MK.out], by go_num, rfl, ⟨t20, t21⟩, H2, H3, Lib.hid (by rw [List.length_append, HM.out]; rfl), Lib.hid (by rw [H1.out, HU.out]), hsn, hP5, hQ5, hR5, hB5⟩
        case measure => simp [intOf]; omega
      · obtain rfl : k = n := by omega
        obtain rfl : m = k := mk
        have hki : ¬ (m : Int) < (m : Int) := by omega
        have e9 : xs.take m = xs := List.take_of_length_le (by rw [HN.out]; omega)
        have HE9 := Lib.hid e9
        clear e9
        go_wp2_with fail
        have hRd : wr.drew.heap[w.heap.size + 1 + 1]? = some (.cells #[.bool false, .int .i64 0] 45) := hR
        refine wp_region_held_drew (S := (fun w' => w'.heap[w.heap.size]? = some (.cells #[.bool s1, .int .i64 t1] 45) ∧ Below w.heap.size w w')) (by kernel_rfl) ⟨hP, hB.drew⟩ (fun hHeld => ?_)
        obtain ⟨hP_0, hB_0⟩ := id hHeld
        refine wpAnyH_take (i := 0) (oi := _) (v := ?_) rfl (by kernel_rfl) (by kernel_rfl) (by kernel_rfl) (fun _ _ _ h => h) (Or.inl ⟨by rfl, ?_⟩) (by assumption) ?_
        (rotate_left); (focus (intro wv hSw; (obtain ⟨qP, qB⟩ := hSw);  go_simp; (try with_reducible rfl)))
        try simp only [Act.put, List.getElem_toArray, List.getElem_cons_succ, List.getElem_cons_zero, List.setIfInBounds_toArray, List.set_cons_zero, List.set_cons_succ]
        refine wpAnyH_take (i := 1) (oi := _) (v := ?_) rfl (by kernel_rfl) (by kernel_rfl) (by kernel_rfl) (fun _ _ _ h => h) (Or.inl ⟨by rfl, ?_⟩) (by assumption) ?_
        (rotate_left); (focus (intro wv hSw; (obtain ⟨qP, qB⟩ := hSw); obtain ⟨u0, u1, _, _, _⟩ := blk2 qP; go_simp; (try with_reducible rfl)))
        try simp only [Act.put, List.getElem_toArray, List.getElem_cons_succ, List.getElem_cons_zero, List.setIfInBounds_toArray, List.set_cons_zero, List.set_cons_succ]
        refine wpAnyH_take (i := 2) (oi := _) (v := ?_) rfl (by kernel_rfl) (by kernel_rfl) (by kernel_rfl) (fun _ _ _ h => h) (Or.inl ⟨by rfl, ?_⟩) (by assumption) ?_
        (rotate_left); (focus (intro wv hSw; (obtain ⟨qP, qB⟩ := hSw);  go_simp; (try with_reducible rfl)))
        try simp only [Act.put, List.getElem_toArray, List.getElem_cons_succ, List.getElem_cons_zero, List.setIfInBounds_toArray, List.set_cons_zero, List.set_cons_succ]
        obtain ⟨r0, r1, fr0, fr1, zr⟩ := blk2 hR
        refine wpAnyH_ready (rs := [3]) (by kernel_rfl) (by simp) ?_
        refine AllReadyH.cons (o := _) rfl (fun K hK => ?_) AllReadyH.nil
        go_simp
        refine hK.out _ _ ⟨blk_store2 (C := w.heap.size + 1 + 1) hP (by omega) _ _, (store2_bel (C := w.heap.size + 1 + 1) hB (by omega) _ _).drew⟩ (fun hHeld => ?_)
        clear hK K
        try simp only [Act.put, List.getElem_toArray, List.getElem_cons_succ, List.getElem_cons_zero, List.setIfInBounds_toArray, List.set_cons_zero, List.set_cons_succ]
        obtain ⟨hP_0w, hB_0w⟩ := id hHeld
        refine wpAnyH_done (by kernel_rfl) ?_ _
        have hZ := blk2_set (a := .bool s1) (b := .int .i64 t1) hR
        obtain ⟨y0, y1, _⟩ := blk2 hZ
        go_wp2
        exact bodyPost_ret (v := .tuple #[.slice V m cv, .agg #[.bool s1, .int .i64 t1]]) (by simp [results, Try.results40, go_sem, y0, y1]) rfl ⟨V, cv, ret_pb (by rw [paR_len, HN.out]) (by rw [← HS.out, HE9.out]) (by rw [← HT1.out, HE9.out]), by rw [← HE9.out, ← HU.out]; exact (hO.far (b := w.heap.size + 1 + 1) (by omega) (.bool s1) (.int .i64 t1)).drew.mono (by omega), hB_0w⟩
end Go.Proofs.Ytpmbjdfecbmgoaa
