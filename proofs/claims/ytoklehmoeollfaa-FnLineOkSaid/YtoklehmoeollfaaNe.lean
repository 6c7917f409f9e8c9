/- Contracts of chapter 9: LinesMany and LineFirst, the program. -/
import Derived.Laws.AppendOwn
import Derived.Test.YtoklehmoeollfaaNd
import Derived.Test.YtoklehmoeollfaaOb
namespace Go.Proofs.Ytoklehmoeollfaa
open Go Go.ChangeShapes Go.WideShapes Go.ChangeAt Go.RowKit
set_option linter.unusedSimpArgs false
set_option linter.unusedVariables false

theorem iAp_is {r : Int} (A : Option Addr) (n cap : Nat) (w : World) (hn : n ≤ 6) (hr : alI n = r) : Calls Try.prog 48 #[.slice A n cap] w fun E w' => E = .returned (.int .i64 r) ∧ w = w' := by subst hr; exact iAp_q A n cap w hn
theorem fst6_congr {P Q : Nat → Bool} (h : ∀ q, q < 6 → P q = Q q) : fst6 P = fst6 Q := by
  unfold fst6; rw [h 0 (by omega), h 1 (by omega), h 2 (by omega), h 3 (by omega), h 4 (by omega), h 5 (by omega)]
def RowOf (fs : List Int) (s : Nat) (a0 a1 a2 a3 a4 a5 : Int) : Prop := LT fs s 0 = a0 ∧ LT fs s 1 = a1 ∧ LT fs s 2 = a2 ∧ LT fs s 3 = a3 ∧ LT fs s 4 = a4 ∧ LT fs s 5 = a5
theorem iFo_tab {fs : List Int} {s : Nat} {F a0 a1 a2 a3 a4 a5 r : Int} (w : World) (ha : RowOf fs s a0 a1 a2 a3 a4 a5) (hr : foI (nxN fs (s : Int) F) = r) : Calls Try.prog 54 #[.agg #[.int .i64 a0, .int .i64 a1, .int .i64 a2, .int .i64 a3, .int .i64 a4, .int .i64 a5], .int .i64 F] w fun E w' => E = .returned (.int .i64 r) ∧ Below w.heap.size w w' := by
  refine iFo_is w ?_
  rw [← hr]
  unfold nxN
  rw [fst6_congr (Q := gpB fs (s : Int) F) (fun q hq => ?_)]
  obtain ⟨h0, h1, h2, h3, h4, h5⟩ := ha
  have e : q = 0 ∨ q = 1 ∨ q = 2 ∨ q = 3 ∨ q = 4 ∨ q = 5 := by omega
  unfold pQ gpB
  rcases e with rfl | rfl | rfl | rfl | rfl | rfl
  · rw [h0]; rfl
  · rw [h1]; rfl
  · rw [h2]; rfl
  · rw [h3]; rfl
  · rw [h4]; rfl
  · rw [h5]; rfl
theorem tab_row {fs xs : List Int} {g N s : Nat} {w : World} (hT : SBlk encNum w g 62 xs) (ht : TabIs fs N N 0 xs) (hs : s < N) :
    ∃ a0 a1 a2 a3 a4 a5 : Int, RowOf fs s a0 a1 a2 a3 a4 a5 ∧ w.cell? ⟨g, s * 6, none⟩ = some (.int .i64 a0) ∧ w.cell? ⟨g, s * 6 + 1, none⟩ = some (.int .i64 a1) ∧ w.cell? ⟨g, s * 6 + 2, none⟩ = some (.int .i64 a2) ∧ w.cell? ⟨g, s * 6 + 3, none⟩ = some (.int .i64 a3) ∧ w.cell? ⟨g, s * 6 + 4, none⟩ = some (.int .i64 a4) ∧ w.cell? ⟨g, s * 6 + 5, none⟩ = some (.int .i64 a5) := by
  have hl := ht.len
  have c : ∀ q, q < 6 → w.cell? ⟨g, s * 6 + q, none⟩ = some (.int .i64 (LT fs s q)) := fun q hq => by
    have := blkNum hT (i := s * 6 + q) (by omega)
    rw [this, getD_at (by omega), ht.old hs (Nat.le_refl _) hq]
  exact ⟨_, _, _, _, _, _, ⟨rfl, rfl, rfl, rfl, rfl, rfl⟩, c 0 (by omega), c 1 (by omega), c 2 (by omega), c 3 (by omega), c 4 (by omega), c 5 (by omega)⟩
def LfRet (l : List Int) (b : Bool) (w : World) (e : Ending) (w' : World) : Prop := ∃ (A : Option Addr) (cap : Nat), e = .returned (.tuple #[.slice A l.length cap, .bool b]) ∧ SOwn encNum w' w.heap.size 3 A cap l ∧ Below w.heap.size w w'
theorem ret_lf {A : Option Addr} {n m c : Nat} {b : Bool} (h : n = m) : Ending.returned (.tuple #[.slice A n c, .bool b]) = .returned (.tuple #[.slice A m c, .bool b]) := by rw [h]
theorem al_N {n N : Nat} (h6 : n ≤ 6) (hN : 2 ^ n = N) : alI n = ((N - 1 : Nat) : Int) ∧ 1 ≤ N ∧ N ≤ 64 ∧ (0 < n → 1 < N) := by
  subst hN
  have h := two_N ⟨n, by omega⟩
  simp only at h
  refine ⟨by omega, by omega, by omega, fun c => ?_⟩
  have e : n = 1 ∨ n = 2 ∨ n = 3 ∨ n = 4 ∨ n = 5 ∨ n = 6 := by omega
  rcases e with rfl | rfl | rfl | rfl | rfl | rfl <;> decide
set_option maxRecDepth 100000 in
set_option maxHeartbeats 4000000 in
theorem iLm_is (A : Option Addr) (cap : Nat) (fs : List Int) {n : Nat} {r : Int} (w : World) (hn : fs.length = n) (h : SRow encNum w A fs) (hl : n ≤ 2000000) (hr : lmI fs = r) :
    Calls Try.prog 29 #[.slice A n cap] w fun E w' => E = .returned (.int .i64 r) ∧ Below w.heap.size w w' := by
  cases hf : frB fs
  · have e : r = -1 := by rw [← hr]; unfold lmI; rw [hf]; rfl
    subst e
    have HF := Lib.hid hf
    have HN := Lib.hid hn
    clear hf hn hr
    go_enter Try.func29, Try.ntmps29
    go_wp2_with fail
    refine (iFr_is A cap fs _ HN.out h hl HF.out).mono ?_; rintro E w1 ⟨rfl, hw1⟩
    go_wp2
    go_ret
    exact ⟨rfl, hw1⟩
  · have h6 : n ≤ 6 := by have := (frB_iff.1 hf).1; omega
    have e : lB fs (alI n) (alI n) = r := by rw [← hr]; unfold lmI; rw [if_pos hf, hn]
    obtain ⟨hA, hN1, hN64, hNn⟩ := al_N h6 rfl
    have HF := Lib.hid hf
    have hf2 := Lib.hid hf
    have HN := Lib.hid hn
    clear hf hn hr
    obtain ⟨N, hN⟩ : ∃ N, 2 ^ n = N := ⟨_, rfl⟩
    rw [hN] at hA hN1 hN64 hNn
    have HP := Lib.hid hN
    clear hN
    obtain ⟨s, hs⟩ : ∃ s, N - 1 = s := ⟨_, rfl⟩
    rw [hs] at hA
    have hsN : s < N := by omega
    have HA := Lib.hid hA
    rw [hA] at e
    have HE := Lib.hid e
    clear hA e
    by_cases hz : s = 0
    · subst hz
      clear hNn
      have e1 : r = 1 := by rw [← HE.out]; exact lB_zero _
      subst e1
      clear HE
      go_enter Try.func29, Try.ntmps29
      go_wp2_with fail
      refine (iFr_is A cap fs _ HN.out h hl HF.out).mono ?_; rintro E w1 ⟨rfl, hw1⟩
      go_wp2_with fail
      refine (iAp_is A n cap _ h6 HA.out).mono ?_; rintro E w' ⟨rfl, rfl⟩
      go_wp2_with fail
      refine (iLt_is A cap fs _ HN.out (h.next hw1) h6 hf2.out HP.out).mono ?_; rintro E w2 ⟨g, xs, rfl, hg, hT, ht, hw2⟩
      have HT := Lib.hid ht
      clear ht
      have hB2 := bel_next hw1 hw2
      go_wp2_with fail
      refine (iLb_nil _).mono ?_; rintro E w3 ⟨rfl, hw3⟩
      go_wp2
      go_ret
      exact ⟨rfl, bel_next hB2 hw3⟩
    · have hs0 : 0 < s := by omega
      go_enter Try.func29, Try.ntmps29
      go_wp2_with fail
      refine (iFr_is A cap fs _ HN.out h hl HF.out).mono ?_; rintro E w1 ⟨rfl, hw1⟩
      go_wp2_with fail
      refine (iAp_is A n cap _ h6 HA.out).mono ?_; rintro E w' ⟨rfl, rfl⟩
      go_wp2_with fail
      refine (iLt_is A cap fs _ HN.out (h.next hw1) h6 hf2.out HP.out).mono ?_; rintro E w2 ⟨g, xs, rfl, hg, hT, ht, hw2⟩
      have HT := Lib.hid ht
      clear ht
      have hB2 := bel_next hw1 hw2
      go_wp2_with fail
      refine (iLb_tab _ hs0 hsN (Nat.le_refl _) hN64 hT HT.out HE.out).mono ?_; rintro E w3 ⟨rfl, hw3⟩
      go_wp2
      go_ret
      exact ⟨rfl, bel_next hB2 hw3⟩
set_option maxRecDepth 100000 in
set_option maxHeartbeats 4000000 in
theorem iLf_is (A : Option Addr) (cap : Nat) (fs : List Int) {n : Nat}  (w : World) (hn : fs.length = n) (h : SRow encNum w A fs) (hl : n ≤ 2000000) :
    Calls Try.prog 28 #[.slice A n cap] w fun E w' => LfRet (lfL fs) (lfB fs) w E w' := by
  cases hf : frB fs
  · have hb : lfB fs = false := by unfold lfB; rw [hf]; rfl
    rw [lfL_no hb, hb]
    have HF := Lib.hid hf
    have HN := Lib.hid hn
    clear hf hn hb
    go_enter Try.func28, Try.ntmps28
    go_wp2_with fail
    refine (iFr_is A cap fs _ HN.out h hl HF.out).mono ?_; rintro E w1 ⟨rfl, hw1⟩
    go_wp2
    go_ret2
    exact ⟨none, 0, rfl, SOwn.nil _ _ _, hw1⟩
  · have h6 : n ≤ 6 := by have := (frB_iff.1 hf).1; omega
    obtain ⟨hA, hN1, hN64, hNn⟩ := al_N h6 rfl
    have HF := Lib.hid hf
    have HN := Lib.hid hn
    obtain ⟨N, hN⟩ : ∃ N, 2 ^ n = N := ⟨_, rfl⟩
    rw [hN] at hA hN1 hN64 hNn
    have HP := Lib.hid hN
    clear hN
    obtain ⟨s0, hs⟩ : ∃ s, N - 1 = s := ⟨_, rfl⟩
    rw [hs] at hA
    have hsN : s0 < N := by omega
    have HA := Lib.hid hA
    cases hb : lfB fs
    · have hzz : lB fs (alI n) (alI n) = 0 := by
        have h1 : ¬ 0 < lB fs (alI fs.length) (alI fs.length) := fun c => by have := lfB_iff.2 ⟨hf, c⟩; rw [hb] at this; exact Bool.noConfusion this
        have h2 := lB_nn (fs := fs) (alI n) (alI n)
        rw [hn] at h1; omega
      have hn0 : 0 < n := by
        rcases Nat.eq_zero_or_pos n with c | c
        · rw [c] at hzz; rw [show alI 0 = 0 from rfl, lB_zero] at hzz; omega
        · exact c
      have hN2 := hNn hn0
      have hsz : alI n ≠ 0 := by omega
      have hx := gp_none hsz hzz
      rw [hA] at hx
      have HX : Hid (foI (nxN fs (s0 : Int) (s0 : Int)) = -1) := Lib.hid (by rw [hx]; rfl)
      rw [lfL_no hb]
      clear hzz hsz hx hb hA hf hn hs hNn
      go_enter Try.func28, Try.ntmps28
      go_wp2_with fail
      refine (iFr_is A cap fs _ HN.out h hl HF.out).mono ?_; rintro E w1 ⟨rfl, hw1⟩
      go_wp2_with fail
      refine (iLt_is A cap fs _ HN.out (h.next hw1) h6 HF.out HP.out).mono ?_; rintro E w2 ⟨g, xs, rfl, hg, hT, ht, hw2⟩
      have HT := Lib.hid ht
      clear ht
      have hB2 := bel_next hw1 hw2
      go_wp2_with fail
      refine (iAp_is A n cap _ h6 HA.out).mono ?_; rintro E w' ⟨rfl, rfl⟩
      go_wp2_with fail
      refine (iAp_is A n cap _ h6 HA.out).mono ?_; rintro E w' ⟨rfl, rfl⟩
      go_wp2_with fail
      go_loopw [5, 6, 20] (fun v5 v6 iv wr => v5 = .int .i64 (s0 : Int) ∧ v6 = .int .i64 (s0 : Int) ∧ iv = .int .i64 0 ∧ SBlk encNum wr g 62 xs ∧ Below w.heap.size w wr) (fun _ _ _ _ => 0)
      case atStart => exact ⟨rfl, rfl, rfl, hT, hB2⟩
      case round =>
        obtain ⟨rfl, rfl, rfl, hT, hB⟩ := hrel
        have hn0i : (0 : Int) < (n : Int) := by omega
        obtain ⟨a0, a1, a2, a3, a4, a5, ha, c0, c1, c2, c3, c4, c5⟩ := tab_row hT HT.out hsN
        have HRW := Lib.hid ha
        clear ha
        go_wp2_with fail
        refine (iFo_tab _ HRW.out HX.out).mono ?_; rintro E w4 ⟨rfl, hw4⟩
        go_wp2_with fail
        go_ret2
        exact ⟨none, 0, rfl, SOwn.nil _ _ _, bel_next hB hw4⟩
    · have hok : ∀ k, k ≤ n → Gok fs k (gsL fs k) := fun k hk => gsL_ok hb k (by omega)
      have HOK := Lib.hid hok
      have hnx : ∀ k, k < n → _ := fun k hk => (gsL_ok hb k (by omega)).next hf (by omega : k < fs.length)
      have HNX := Lib.hid hnx
      have HL : Hid (lfL fs = (gsL fs n).l) := Lib.hid (by unfold lfL; rw [if_pos hb, hn])
      have HS0 : Hid (gsL fs 0 = ⟨(s0 : Int), (s0 : Int), []⟩) := Lib.hid (by show Gst.mk (alI fs.length) (alI fs.length) [] = _; rw [hn, hA])
      clear hok hnx hb hA hf hn hs hNn
      obtain ⟨i0, hi0, hz0, hz1, hz2⟩ := info_parts infoNum
      have HI := Lib.hid (And.intro hi0 (And.intro hz0 (And.intro hz1 hz2)))
      clear hi0 hz0 hz1 hz2
      go_enter Try.func28, Try.ntmps28
      go_wp2_with fail
      refine (iFr_is A cap fs _ HN.out h hl HF.out).mono ?_; rintro E w1 ⟨rfl, hw1⟩
      go_wp2_with fail
      refine (iLt_is A cap fs _ HN.out (h.next hw1) h6 HF.out HP.out).mono ?_; rintro E w2 ⟨g, xs, rfl, hg, hT, ht, hw2⟩
      have HT := Lib.hid ht
      clear ht
      have hB2 := bel_next hw1 hw2
      go_wp2_with fail
      refine (iAp_is A n cap _ h6 HA.out).mono ?_; rintro E w' ⟨rfl, rfl⟩
      go_wp2_with fail
      refine (iAp_is A n cap _ h6 HA.out).mono ?_; rintro E w' ⟨rfl, rfl⟩
      go_wp2_with fail
      go_loopw [5, 6, 7, 20] (fun v5 v6 v7 iv wr => ∃ (k m cv s : Nat) (V : Option Addr) (us : List Int) (F : Int), k ≤ n ∧ m = k ∧ iv = .int .i64 k ∧ v5 = .int .i64 (s : Int) ∧ v6 = .int .i64 F ∧ v7 = .slice V m cv ∧ s < N ∧ Hid (us.length = m) ∧ Hid (gsL fs k = ⟨(s : Int), F, us⟩) ∧ SOwn encNum wr w.heap.size 3 V cv us ∧ SBlk encNum wr g 62 xs ∧ Below w.heap.size w wr) (fun _ _ _ iv _ => (n - intOf iv).toNat)
      case atStart => exact ⟨0, 0, 0, s0, none, [], _, by omega, rfl, rfl, rfl, rfl, rfl, hsN, (by show _ = _; rfl), HS0, SOwn.nil _ _ _, hT, hB2⟩
      case round =>
        clear hT
        obtain ⟨k, m, cv, s, V, us, F, k1, mk, rfl, rfl, rfl, rfl, hs, HM, HG, hO, hT, hB⟩ := hrel
        have MK := Lib.hid mk
        have hm9 : m ≤ 2000000 := by omega
        by_cases hlt : k < n
        · clear mk
          have hki : (k : Int) < (n : Int) := by omega
          have hst := HNX.out k hlt
          have hgs : gsL fs (k + 1) = ⟨woI (gsL fs k).S (nxN fs (gsL fs k).S (gsL fs k).F), fs.getD (nxN fs (gsL fs k).S (gsL fs k).F) 0, (gsL fs k).l ++ [((nxN fs (gsL fs k).S (gsL fs k).F : Nat) : Int)]⟩ := rfl
          rw [HG.out] at hst hgs
          simp only at hst hgs
          obtain ⟨p, hp⟩ : ∃ p, nxN fs (s : Int) F = p := ⟨_, rfl⟩
          rw [hp] at hst hgs
          obtain ⟨hpn, _, _, hin, hok⟩ := hst
          have hpl := hpn
          rw [HN.out] at hpn
          have hpi : (p : Int) < (n : Int) := by omega
          have hp6 : p < 6 := by omega
          have HX : Hid (foI (nxN fs (s : Int) F) = (p : Int)) := Lib.hid (by rw [hp]; unfold foI; rw [if_neg (by omega)])
          have hs64 : (s : Int) < 64 := by omega
          have w0 := hok.s0
          simp only at w0
          have wl := wo_lt (x := (s : Int)) (j := p) (by omega) hs64 hp6 hin
          obtain ⟨s2, hs2⟩ : ∃ s2 : Nat, woI (s : Int) p = s2 := ⟨(woI (s : Int) p).toNat, by omega⟩
          have hs2N : s2 < N := by omega
          obtain ⟨b, off, rfl, hb, e0⟩ := rowNum h hpl
          have HGE : Hid (fs.getD p 0 = fs[p]) := Lib.hid (by simp [hpl])
          generalize fs[p] = F2 at e0 HGE
          rw [hs2, HGE.out] at hgs
          have HG2 := Lib.hid hgs
          have HS2 := Lib.hid hs2
          clear hgs hs2 hok hin hp w0 wl HG HGE
          obtain ⟨a0, a1, a2, a3, a4, a5, ha, c0, c1, c2, c3, c4, c5⟩ := tab_row hT HT.out hs
          have HRW := Lib.hid ha
          clear ha
          have hpm : ((p : Int) == -1) = false := by first | (simp; done) | (simp; omega)
          go_wp2_with fail
          refine (iFo_tab _ HRW.out HX.out).mono ?_; rintro E w4 ⟨rfl, hw4⟩
          have hO4 := hO.next hw4
          have hT4 := hT.next hw4
          have hB4 := bel_next hB hw4
          clear c0 c1 c2 c3 c4 c5
          have hcp := hB4.size
          have hOa := hO4.alloc (.cells (encNum.enc ((p : Int))).toArray 3)
          have hTa : SBlk encNum (w4.alloc (.cells (encNum.enc ((p : Int))).toArray 3)) g 62 xs := hT4.next (bel1 w4 _)
          go_wp2_with (at_builtin; refine wpList_append_lies _ rfl (.tmp 30) (.tmp 32) _ rfl w.heap.size 3 i0 _ 1 8 Try.underlying29 HI.out.1 HI.out.2.1 HI.out.2.2.1 HI.out.2.2.2 rfl (by omega) (.slice V m cv) m (encNum.flat us) rfl (by unfold SOwn at hOa; rw [HM.out] at hOa; exact hOa) ⟨w4.heap.size, 0, none⟩ 1 1 (encNum.enc ((p : Int))) rfl rfl (new_enc (E := encNum) w4 ((p : Int)) _) (encNum.one _) (by omega) (by simp only [maxLen]; omega) (by omega) (by simp; omega) _ rfl ?_; intro g5 cap5 w5 hown5 hgr5 hat5 hlt5)
          have hB5 := SOwn.below_grown (n := m) hOa (hB4.alloc hB4.size _) hgr5
          have hT5 : SBlk encNum w5 g 62 xs := blk_grownT hTa hOa hgr5 (by decide)
          have hsn := SOwn.snoc (E := encNum) (xs := us) (x := (p : Int)) (by rw [HM.out]; exact hown5)
          go_wp2_with fail
          have hsn_0 : SOwn encNum w5.drew w.heap.size 3 (some ⟨g5, 0, none⟩) cap5 (us ++ [(p : Int)]) := hsn.drew
          have hT_0 : SBlk encNum w5.drew g 62 xs := hT5
          refine wp_region_held_drew (S := (fun w' => Below w.heap.size w w')) (by kernel_rfl) (hB5.drew) (fun hHeld => ?_)
          have hB_0 := id hHeld
          refine wpAnyH_take (i := 0) (oi := _) (v := ?_) rfl (by kernel_rfl) (by kernel_rfl) (by kernel_rfl) (fun _ _ _ h => h) (Or.inl ⟨by rfl, ?_⟩) (by assumption) ?_
          (rotate_left); (focus (intro wv hSw; (have qB := hSw); have cc := celS_next e0 qB; go_simp; (try with_reducible rfl)))
          try simp only [Act.put, List.getElem_toArray, List.getElem_cons_succ, List.getElem_cons_zero, List.setIfInBounds_toArray, List.set_cons_zero, List.set_cons_succ]
          refine wpAnyH_take (i := 1) (oi := _) (v := ?_) rfl (by kernel_rfl) (by kernel_rfl) (by kernel_rfl) (fun _ _ _ h => h) (Or.inl ⟨by rfl, ?_⟩) (by assumption) ?_
          (rotate_left); (focus (intro wv hSw; (have qB := hSw); have cc := celS_next e0 qB; go_simp; (try with_reducible rfl)))
          try simp only [Act.put, List.getElem_toArray, List.getElem_cons_succ, List.getElem_cons_zero, List.setIfInBounds_toArray, List.set_cons_zero, List.set_cons_succ]
          refine wpAnyH_take (i := 3) (oi := _) (v := ?_) rfl (by kernel_rfl) (by kernel_rfl) (by kernel_rfl) (fun _ _ _ h => h) (Or.inl ⟨by rfl, ?_⟩) (by assumption) ?_
          (rotate_left); (focus (intro wv hSw; (have qB := hSw); have cc := celS_next e0 qB; go_simp; (try with_reducible rfl)))
          try simp only [Act.put, List.getElem_toArray, List.getElem_cons_succ, List.getElem_cons_zero, List.setIfInBounds_toArray, List.set_cons_zero, List.set_cons_succ]
          refine wpAnyH_take (i := 4) (oi := _) (v := ?_) rfl (by kernel_rfl) (by kernel_rfl) (by kernel_rfl) (fun _ _ _ h => h) (Or.inl ⟨by rfl, ?_⟩) (by assumption) ?_
          (rotate_left); (focus (intro wv hSw; (have qB := hSw); have cc := celS_next e0 qB; go_simp; (try with_reducible rfl)))
          try simp only [Act.put, List.getElem_toArray, List.getElem_cons_succ, List.getElem_cons_zero, List.setIfInBounds_toArray, List.set_cons_zero, List.set_cons_succ]
          refine wpAnyH_take (i := 5) (oi := _) (v := ?_) rfl (by kernel_rfl) (by kernel_rfl) (by kernel_rfl) (fun _ _ _ h => h) (Or.inl ⟨by rfl, ?_⟩) (by assumption) ?_
          (rotate_left); (focus (intro wv hSw; (have qB := hSw); have cc := celS_next e0 qB; go_simp; (try with_reducible rfl)))
          try simp only [Act.put, List.getElem_toArray, List.getElem_cons_succ, List.getElem_cons_zero, List.setIfInBounds_toArray, List.set_cons_zero, List.set_cons_succ]
          refine wpAnyH_take (i := 6) (oi := _) (v := ?_) rfl (by kernel_rfl) (by kernel_rfl) (by kernel_rfl) (fun _ _ _ h => h) (Or.inl ⟨by rfl, ?_⟩) (by assumption) ?_
          (rotate_left); (focus (intro wv hSw; (have qB := hSw); have cc := celS_next e0 qB; go_simp; (try with_reducible rfl)))
          try simp only [Act.put, List.getElem_toArray, List.getElem_cons_succ, List.getElem_cons_zero, List.setIfInBounds_toArray, List.set_cons_zero, List.set_cons_succ]
          refine wpAnyH_ready (rs := [2]) (by kernel_rfl) (by simp) ?_
          refine AllReadyH.cons (o := _) rfl (fun K hK => ?_) AllReadyH.nil
          go_simp
          (go_at_call 50; refine (iWo_bl _ (by omega) hs64 hp6 HS2.out).mono ?_; rintro e x0c ⟨rfl, hw_0c⟩)
          refine hK.out _ _ (bel_next hB_0 hw_0c) (fun hHeld => ?_)
          clear hK K
          try simp only [Act.put, List.getElem_toArray, List.getElem_cons_succ, List.getElem_cons_zero, List.setIfInBounds_toArray, List.set_cons_zero, List.set_cons_succ]
          have hB_0c := id hHeld
          have hsn_0c := hsn_0.next hw_0c
          have hT_0c := hT_0.next hw_0c
          refine wpAnyH_take (i := 7) (oi := _) (v := ?_) rfl (by kernel_rfl) (by kernel_rfl) (by kernel_rfl) (fun _ _ _ h => h) (Or.inl ⟨by rfl, ?_⟩) (by assumption) ?_
          (rotate_left); (focus (intro wv hSw; (have qB := hSw); have cc := celS_next e0 qB; go_simp; (try with_reducible rfl)))
          try simp only [Act.put, List.getElem_toArray, List.getElem_cons_succ, List.getElem_cons_zero, List.setIfInBounds_toArray, List.set_cons_zero, List.set_cons_succ]
          refine wpAnyH_take (i := 8) (oi := _) (v := ?_) rfl (by kernel_rfl) (by kernel_rfl) (by kernel_rfl) (fun _ _ _ h => h) (Or.inl ⟨by rfl, ?_⟩) (by assumption) ?_
          (rotate_left); (focus (intro wv hSw; (have qB := hSw); have cc := celS_next e0 qB; go_simp; (try with_reducible rfl)))
          try simp only [Act.put, List.getElem_toArray, List.getElem_cons_succ, List.getElem_cons_zero, List.setIfInBounds_toArray, List.set_cons_zero, List.set_cons_succ]
          refine wpAnyH_done (by kernel_rfl) ?_ _
          go_wp2_with fail
          go_roundw
          case rel =>
            exact ⟨k + 1, m + 1, cap5, s2, some ⟨g5, 0, none⟩, us ++ [(p : Int)], F2, by omega, by rw [MK.out], by go_num, rfl, rfl, rfl, hs2N, Lib.hid (by rw [List.length_append, HM.out]; rfl), HG2, hsn_0c, hT_0c, hB_0c⟩
          case measure => simp [intOf]; omega
        · obtain rfl : k = n := by omega
          have hki : ¬ (k : Int) < (k : Int) := by omega
          have HL9 : Hid (us = lfL fs) := Lib.hid (by rw [HL.out, HG.out])
          clear mk
          go_wp2_with fail
          go_ret2
          exact ⟨V, cv, ret_lf (by rw [← HL9.out, HM.out]), by rw [← HL9.out]; exact hO, hB⟩
end Go.Proofs.Ytoklehmoeollfaa
