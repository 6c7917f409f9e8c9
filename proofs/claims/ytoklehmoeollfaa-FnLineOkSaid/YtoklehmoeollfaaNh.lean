/- Contracts of chapter 9: LinesMany and LineFirst, the model. -/
import Derived.Laws.AppendOwn
import Derived.Test.YtoklehmoeollfaaNg
import Derived.Test.YtoklehmoeollfaaNe
namespace Go.Proofs.Ytoklehmoeollfaa
open Go Go.ChangeShapes Go.WideShapes Go.ChangeAt Go.RowKit
set_option linter.unusedSimpArgs false
set_option linter.unusedVariables false

theorem gp_zero {fs : List Int} {S F : Int} {q : Nat} (h : gpB fs S F q = false) (hF : isB F q = true) : LT fs S q = 0 := by
  have := LT_nn (fs := fs) S q
  unfold gpB at h
  rw [hF, Bool.and_true, decide_eq_false_iff_not] at h
  omega
theorem al_out {n q : Nat} {x : Int} (hn : n ≤ 6) (h0 : 0 ≤ x) (h1 : x ≤ alI n) (hq : q < 6) (h : isB (alI n - x) q = true) : isB x q = false := by
  rw [al_isB hn h0 h1 hq] at h
  simp only [Bool.and_eq_true, Bool.not_eq_true'] at h
  exact h.2
set_option maxRecDepth 100000 in
set_option maxHeartbeats 4000000 in
theorem sLm_is (A : Option Addr) (cap : Nat) (fs : List Int) {n : Nat} {r : Int} (w : World) (hn : fs.length = n) (h : SRow encNum w A fs) (hl : n ≤ 2000000) (hr : lmI fs = r) :
    Calls Try.prog 31 #[.slice A n cap] w fun E w' => E = .returned (.int .i64 r) ∧ Below w.heap.size w w' := by
  cases hf : frB fs
  · have e : r = -1 := by rw [← hr]; unfold lmI; rw [hf]; rfl
    subst e
    have HF := Lib.hid hf
    have HN := Lib.hid hn
    clear hf hn hr
    go_enter Try.func31, Try.ntmps31
    go_wp2_with fail
    refine (sFr_is A cap fs _ HN.out h hl HF.out).mono ?_; rintro E w1 ⟨rfl, hw1⟩
    go_wp2
    go_ret
    exact ⟨rfl, hw1⟩
  · have h6 : n ≤ 6 := by have := (frB_iff.1 hf).1; omega
    have e : lB fs (alI n) (alI n) = r := by rw [← hr]; unfold lmI; rw [if_pos hf, hn]
    by_cases hz : n = 0
    · subst hz
      have e1 : r = 1 := by rw [← e]; exact lB_zero _
      subst e1
      have HF := Lib.hid hf
      have HN := Lib.hid hn
      clear hf hn hr e
      go_enter Try.func31, Try.ntmps31
      go_wp2_with fail
      refine (sFr_is A cap fs _ HN.out h hl HF.out).mono ?_; rintro E w1 ⟨rfl, hw1⟩
      go_wp2
      go_ret
      exact ⟨rfl, hw1⟩
    · have hn0 : 0 < n := by omega
      obtain ⟨hA, hN1, hN64, hNn⟩ := al_N h6 rfl
      have HS : Hid (smK (fun k => moI9 fs (2 ^ k) k) n = r) := Lib.hid (by have := lm_sum (fs := fs) (by omega) (by omega); rw [hn, e] at this; exact this)
      have HF := Lib.hid hf
      have HN := Lib.hid hn
      clear hf hn hr e hNn
      obtain ⟨N, hN⟩ : ∃ N, 2 ^ n = N := ⟨_, rfl⟩
      rw [hN] at hA hN1 hN64
      have HP := Lib.hid hN
      have HAL := Lib.hid hA
      clear hN hA
      have hne0 : ((n : Int) == 0) = false := by rw [beq_eq_false_iff_ne]; omega
      go_enter Try.func31, Try.ntmps31
      go_wp2_with fail
      refine (sFr_is A cap fs _ HN.out h hl HF.out).mono ?_; rintro E w1 ⟨rfl, hw1⟩
      go_wp2_with fail
      refine (sLt_is A cap fs _ HN.out (h.next hw1) h6 HF.out HP.out).mono ?_; rintro E w2 ⟨b0, cp, hs, R, rfl, hlen, hNT, hup, hw2⟩
      have HM := Lib.hid hlen
      have HUP := Lib.hid hup
      clear hlen hup
      have hB2 := bel_next hw1 hw2
      go_wp2_with fail
      go_loop [4, 5] (fun nv kv => ∃ (k : Nat) (c : Int), kv = .int .i64 k ∧ nv = .int .i64 c ∧ k ≤ n ∧ 0 ≤ c ∧ c ≤ 279936 * k ∧ Hid (smK (fun k => moI9 fs (2 ^ k) k) k = c)) (fun _ kv => (n - intOf kv).toNat)
      case atStart => exact ⟨0, 0, rfl, rfl, by omega, by omega, by omega, (by show _ = _; rfl)⟩
      case round =>
        obtain ⟨k, c, rfl, rfl, k1, c0, c1, HK⟩ := hrel
        by_cases hlt : k < n
        · have hki : (k : Int) < (n : Int) := by omega
          have hk64 : (k : Int) ≤ 64 := by omega
          have htl := (two_le h6 hlt).1
          have htb := two_bd (n := k) (by omega)
          obtain ⟨y, hy⟩ : ∃ y : Nat, (2 : Int) ^ k = (y : Int) := ⟨((2 : Int) ^ k).toNat, by omega⟩
          have hyN : y < N := by have := HAL.out; omega
          have hy0 : 0 < y := by omega
          have hyl : y < hs.length := by rw [HM.out]; exact hyN
          have hyi : (y : Int) < (N : Int) := by omega
          have hH := hNT.head hyl
          have hV := hNT.num hyl hlt
          rw [HUP.out y k hy0 hyN hlt, ← hy] at hV
          have hb0 : 0 ≤ moI9 fs (2 ^ k) k ∧ moI9 fs (2 ^ k) k ≤ 279936 := ⟨lB_nn _ _, lB_le _ _⟩
          have HK2 : Hid (smK (fun k => moI9 fs (2 ^ k) k) (k + 1) = c + moI9 fs (2 ^ k) k) := Lib.hid (smK_step HK.out rfl)
          have hwk : wrap64 ((2 : Int) ^ k) = (y : Int) := by rw [hy]; exact IntWalk.wrap64_in _ (by omega)
          clear HK htl htb
          generalize hs[y] = gy at hH hV
          generalize moI9 fs (2 ^ k) k = m at hV hb0 HK2
          have HY := Lib.hid hy
          clear hy
          obtain ⟨m0, m1⟩ := hb0
          go_wp2_with fail
          go_round
          case rel => exact ⟨k + 1, c + m, by go_num, rfl, by omega, by omega, by omega, HK2⟩
          case measure => simp [intOf]; omega
        · have hki : ¬ (k : Int) < (n : Int) := by omega
          obtain rfl : k = n := by omega
          go_wp2_with fail
          go_ret
          exact ⟨ret_int (by rw [← HS.out]; exact HK.out.symm), hB2⟩
set_option maxRecDepth 100000 in
set_option maxHeartbeats 8000000 in
theorem sLf_is (A : Option Addr) (cap : Nat) (fs : List Int) {n : Nat}  (w : World) (hn : fs.length = n) (h : SRow encNum w A fs) (hl : n ≤ 2000000) :
    Calls Try.prog 33 #[.slice A n cap] w fun E w' => LfRet (lfL fs) (lfB fs) w E w' := by
  obtain ⟨r0, hr0⟩ : ∃ r0, lmI fs = r0 := ⟨_, rfl⟩
  have hlm := lm_lf (fs := fs)
  rw [hr0] at hlm
  have HR0 := Lib.hid hr0
  clear hr0
  have HL0 := Lib.hid hn
  cases hb : lfB fs
  · have hr1 : r0 < 1 := by rw [hb] at hlm; have := of_decide_eq_false hlm.symm; omega
    rw [lfL_no hb]
    clear hlm hb hn
    go_enter Try.func33, Try.ntmps33
    go_wp2_with fail
    refine (sLm_is A cap fs _ HL0.out (h.next (bel1 w _)) hl HR0.out).mono ?_; rintro E w1 ⟨rfl, hw1⟩
    obtain ⟨hP1, hB1⟩ := ownb hw1
    go_wp2
    go_ret2
    exact ⟨_, 0, rfl, SOwn.empty hP1 (Nat.le_refl _), hB1⟩
  · have hr1 : ¬ r0 < 1 := by rw [hb] at hlm; have := of_decide_eq_true hlm.symm; omega
    have hf := (lfB_iff.1 hb).1
    have h6 : n ≤ 6 := by have := (frB_iff.1 hf).1; omega
    obtain ⟨hA, hN1, hN64, hNn⟩ := al_N h6 rfl
    have HF := Lib.hid hf
    obtain ⟨N, hN⟩ : ∃ N, 2 ^ n = N := ⟨_, rfl⟩
    rw [hN] at hA hN1 hN64 hNn
    have HP := Lib.hid hN
    have HAL := Lib.hid hA
    clear hN hA
    have hok : ∀ k, k ≤ n → Gok fs k (gsL fs k) := fun k hk => gsL_ok hb k (by omega)
    have HOK := Lib.hid hok
    have hnx : ∀ k, k < n → _ := fun k hk => (gsL_ok hb k (by omega)).next hf (by omega : k < fs.length)
    have HNX := Lib.hid hnx
    have HL : Hid (lfL fs = (gsL fs n).l) := Lib.hid (by unfold lfL; rw [if_pos hb, hn])
    have HS0 : Hid (gsL fs 0 = ⟨alI n - ((0 : Nat) : Int), alI n, []⟩) := Lib.hid (by show Gst.mk (alI fs.length) (alI fs.length) [] = _; rw [hn]; simp)
    have HFN : Hid (∀ a, a < n → 0 ≤ fs.getD a 0) := Lib.hid (fun a ha => ((frB_iff.1 hf).2 a (by omega)).1)
    have HAE : Hid (alI fs.length = alI n) := Lib.hid (by rw [hn])
    clear hok hnx hlm hb hf hn hNn
    obtain ⟨i0, hi0, hz0, hz1, hz2⟩ := info_parts infoNum
    have HI := Lib.hid (And.intro hi0 (And.intro hz0 (And.intro hz1 hz2)))
    clear hi0 hz0 hz1 hz2
    go_enter Try.func33, Try.ntmps33
    go_wp2_with fail
    refine (sLm_is A cap fs _ HL0.out (h.next (bel1 w _)) hl HR0.out).mono ?_; rintro E w1 ⟨rfl, hw1⟩
    obtain ⟨hP1, hB1⟩ := ownb hw1
    go_wp2_with fail
    refine (sLt_is A cap fs _ HL0.out (h.next hB1) h6 HF.out HP.out).mono ?_; rintro E w2 ⟨b0, cp, hs, R, rfl, hlen, hNT0, hup, hw2⟩
    have HMH := Lib.hid hlen
    have HUP := Lib.hid hup
    clear hlen hup
    have hB2 := bel_next hB1 hw2
    have hP2 := blk_next hP1 hw2
    have hNT := hNT0
    have hbs1 := hB1.size
    have hbs2 : w.heap.size < w1.heap.size := blk_lt hP1
    have HD0 : Hid (∀ g, (some ⟨w.heap.size, 0, none⟩ : Option Addr) = some ⟨g, 0, none⟩ → ∀ i (h : i < hs.length), hs[i] ≠ g) := Lib.hid (fun g e i hi c => by simp at e; have := hNT.low i hi; omega)
    go_wp2_with fail
    go_loopw [4, 6] (fun v4 v6 wr => ∃ (k m cv x : Nat) (V : Option Addr) (us : List Int) (F : Int), k ≤ n ∧ m = k ∧ v6 = .int .i64 (x : Int) ∧ v4 = .slice V m cv ∧ (x : Int) ≤ alI n ∧ Hid (∀ g, V = some ⟨g, 0, none⟩ → ∀ i (h : i < hs.length), hs[i] ≠ g) ∧ Hid (us.length = m) ∧ Hid (gsL fs k = ⟨alI n - (x : Int), F, us⟩) ∧ SOwn encNum wr w.heap.size 3 V cv us ∧ NT wr w1.heap.size (some ⟨b0, 0, none⟩) cp n hs R ∧ Below w.heap.size w wr) (fun v4 _ _ => n - (match v4 with | .slice _ l _ => l | _ => 0))
    case atStart => exact ⟨0, 0, 0, 0, _, [], _, by omega, rfl, rfl, rfl, by have := (alI_bd h6).1; simpa using this, HD0, (by show _ = _; rfl), HS0, SOwn.empty hP2 (Nat.le_refl _), hNT, hB2⟩
    case round =>
      clear hNT hNT0 hP1 hP2
      obtain ⟨k, m, cv, x, V, us, F, k1, mk, rfl, rfl, hx, HD, HM, HG, hO, hNT, hB⟩ := hrel
      have MK := Lib.hid mk
      have hm9 : m ≤ 2000000 := by omega
      by_cases hlt : m < n
      · have hmi : (m : Int) < (n : Int) := by omega
        have hkn : k < n := by omega
        have hst := HNX.out k hkn
        have hok := HOK.out k (by omega)
        have hgs : gsL fs (k + 1) = ⟨woI (gsL fs k).S (nxN fs (gsL fs k).S (gsL fs k).F), fs.getD (nxN fs (gsL fs k).S (gsL fs k).F) 0, (gsL fs k).l ++ [((nxN fs (gsL fs k).S (gsL fs k).F : Nat) : Int)]⟩ := rfl
        rw [HG.out] at hst hgs hok
        simp only at hst hgs
        obtain ⟨p, hp⟩ : ∃ p, nxN fs (alI n - (x : Int)) F = p := ⟨_, rfl⟩
        rw [hp] at hst hgs
        obtain ⟨hpn, hlow, hhit, hin, _⟩ := hst
        rw [HL0.out] at hpn
        have hS0 := hok.s0
        have hS1 := hok.s1
        simp only at hS0 hS1
        have hfr := hok.fr
        simp only at hfr
        have HFR := Lib.hid hfr
        have HLow := Lib.hid hlow
        have hx0 : (0 : Int) ≤ (x : Int) := by omega
        clear hok hp hlow hfr mk
        have hxp : isB (x : Int) p = false := al_out h6 hx0 hx (by omega) hin
        have hmo := al_more h6 hx0 hx hpn hxp
        rw [hmo.2] at hgs
        obtain ⟨yp, hyp⟩ : ∃ yp : Nat, (x : Int) + 2 ^ p = (yp : Int) := ⟨((x : Int) + 2 ^ p).toNat, by have := two_bd (n := p) (by omega); omega⟩
        rw [hyp] at hgs
        have hyp1 : (yp : Int) ≤ alI n := by have := hmo.1; omega
        have HG2 := Lib.hid hgs
        have HYP := Lib.hid hyp
        have hhit2 := gp_yes hhit
        have HHit := Lib.hid hhit2
        have HXP := Lib.hid hxp
        have HSin := Lib.hid hin
        clear hgs hyp hmo hhit hhit2 hxp hin
        go_wp2_with fail
        go_loop [7] (fun qv => ∃ q : Nat, qv = .int .i64 q ∧ q ≤ p) (fun qv => (p - intOf qv).toNat)
        case atStart => exact ⟨0, rfl, by omega⟩
        case round =>
          obtain ⟨q, rfl, hq⟩ := hrel
          have hq6 : q < 6 := by omega
          have hqn : q < n := by omega
          have hqi : (q : Int) < (n : Int) := by omega
          have hq64 : (q : Int) ≤ 64 := by omega
          by_cases hqp : q < p
          · obtain ⟨v, hv⟩ : ∃ v, isB (x : Int) q = v := ⟨_, rfl⟩
            have HV := Lib.hid hv
            clear hv
            cases v
            · by_cases hm0 : 0 < m
              · have HU9 := HFR.out
                obtain ⟨p9, hp9, hl9, hF9⟩ : ∃ p9 : Nat, p9 < fs.length ∧ us.getD (k - 1) 0 = (p9 : Int) ∧ F = fs.getD p9 0 := by rcases HU9 with ⟨e, _⟩ | ⟨_, e⟩; have := MK.out; omega; exact e
                clear HU9
                rcases hO.form with ⟨_, e, _⟩ | ⟨gv, e, hge, hgl⟩
                · exfalso; rw [e] at HM; have := HM.out; simp at this; omega
                subst e
                have hml : m - 1 < us.length := by rw [HM.out]; omega
                have d0 := ownNum hO hml
                have e9 : us[m - 1] = (p9 : Int) := by rw [getD_at hml, ← hl9, MK.out]
                rw [e9] at d0
                obtain ⟨bF, oF, rfl, hbF, c0⟩ := rowNum (h.next hB) hp9
                have hF8 : fs[p9] = F := by rw [hF9]; simp [hp9]
                rw [hF8] at c0
                have hFn : 0 ≤ F := by rw [hF9]; exact HFN.out p9 (by rw [HL0.out] at hp9; exact hp9)
                have hp9i : (p9 : Int) < (n : Int) := by rw [HL0.out] at hp9; omega
                have hm1 : (m : Int) - 1 = ((m - 1 : Nat) : Int) := by omega
                have hm1l : ((m - 1 : Nat) : Int) < (m : Int) := by omega
                clear e9 hF8 hl9 hF9
                have g1 : decide (0 < m) = true := by simpa using hm0
                have g2 : decide ((0 : Int) < (m : Int)) = true := by simp; omega
                have g3 : (0 : Int) < (m : Int) := by omega
                obtain ⟨u, hu⟩ : ∃ u, isB F q = u := ⟨_, rfl⟩
                have HU := Lib.hid hu
                clear hu
                cases u
                · have yx : ((x : Int) / 2 ^ q).tmod 2 = 0 := (isB_tmod hx0).trans (isB_no HV.out)
                  have yf : (F / 2 ^ q).tmod 2 = 0 := (isB_tmod hFn).trans (isB_no HU.out)
                  go_wp2_with fail
                  go_round
                  case rel => exact ⟨q + 1, by go_num, by omega⟩
                  case measure => simp [intOf]; omega
                · have hmo := al_more h6 hx0 hx hqn HV.out
                  obtain ⟨y, hy⟩ : ∃ y : Nat, (x : Int) + 2 ^ q = (y : Int) := ⟨((x : Int) + 2 ^ q).toNat, by have := two_bd (n := q) (by omega); omega⟩
                  have hyN : y < N := by have := HAL.out; have := hmo.1; omega
                  have hy0 : 0 < y := by have := (two_bd (n := q) (by omega)).1; omega
                  have hyl : y < hs.length := by rw [HMH.out]; exact hyN
                  have hyi : (y : Int) < (N : Int) := by omega
                  have hH := hNT.head hyl
                  have hV9 := hNT.num hyl hqn
                  rw [HUP.out y q hy0 hyN hqn] at hV9
                  have hSq : isB (alI n - (x : Int)) q = true := by rw [al_isB h6 hx0 hx hq6, HV.out, decide_eq_true hqn]; rfl
                  have hLT : LT fs (alI n - (x : Int)) q = moI9 fs (y : Int) q := by rw [LT_yes hS0 hS1 hq6 hSq, hmo.2, hy]; unfold moI9; rw [HAE.out]
                  have z1 : wrap64 ((2 : Int) ^ q) = 2 ^ q := IntWalk.wrap64_in _ (by have := two_bd (n := q) (by omega); omega)
                  have z2 : (x : Int) + 2 ^ q = (y : Int) := hy
                  have htb := two_bd (n := q) (by omega)
                  obtain ⟨t0, t1⟩ := htb
                  have hSz : moI9 fs (y : Int) q = 0 ∨ 0 < moI9 fs (y : Int) q := by have := lB_nn (fs := fs) (alI fs.length - (y : Int)) (fs.getD q 0); unfold moI9; omega
                  have hpb : moI9 fs (y : Int) q = 0 := by rw [← hLT]; exact gp_zero (HLow.out q hqp) HU.out
                  rw [hpb] at hV9
                  clear hpb hSz hLT hSq hmo hy
                  generalize hs[y] = gy at hH hV9
                  have yx : ((x : Int) / 2 ^ q).tmod 2 = 0 := (isB_tmod hx0).trans (isB_no HV.out)
                  have yf : (F / 2 ^ q).tmod 2 = 1 := (isB_tmod hFn).trans (isB_yes HU.out)
                  go_wp2_with fail
                  go_round
                  case rel => exact ⟨q + 1, by go_num, by omega⟩
                  case measure => simp [intOf]; omega
              · obtain rfl : m = 0 := by omega
                have hFal : F = alI n := by rcases HFR.out with ⟨_, e⟩ | ⟨e, _⟩; rw [e, HAE.out]; have := MK.out; omega
                have HU : Hid (isB F q = true) := Lib.hid (by rw [hFal, isB_all h6 hq6, decide_eq_true hqn])
                clear hFal
                have hmo := al_more h6 hx0 hx hqn HV.out
                obtain ⟨y, hy⟩ : ∃ y : Nat, (x : Int) + 2 ^ q = (y : Int) := ⟨((x : Int) + 2 ^ q).toNat, by have := two_bd (n := q) (by omega); omega⟩
                have hyN : y < N := by have := HAL.out; have := hmo.1; omega
                have hy0 : 0 < y := by have := (two_bd (n := q) (by omega)).1; omega
                have hyl : y < hs.length := by rw [HMH.out]; exact hyN
                have hyi : (y : Int) < (N : Int) := by omega
                have hH := hNT.head hyl
                have hV9 := hNT.num hyl hqn
                rw [HUP.out y q hy0 hyN hqn] at hV9
                have hSq : isB (alI n - (x : Int)) q = true := by rw [al_isB h6 hx0 hx hq6, HV.out, decide_eq_true hqn]; rfl
                have hLT : LT fs (alI n - (x : Int)) q = moI9 fs (y : Int) q := by rw [LT_yes hS0 hS1 hq6 hSq, hmo.2, hy]; unfold moI9; rw [HAE.out]
                have z1 : wrap64 ((2 : Int) ^ q) = 2 ^ q := IntWalk.wrap64_in _ (by have := two_bd (n := q) (by omega); omega)
                have z2 : (x : Int) + 2 ^ q = (y : Int) := hy
                have htb := two_bd (n := q) (by omega)
                obtain ⟨t0, t1⟩ := htb
                have hSz : moI9 fs (y : Int) q = 0 ∨ 0 < moI9 fs (y : Int) q := by have := lB_nn (fs := fs) (alI fs.length - (y : Int)) (fs.getD q 0); unfold moI9; omega
                have hpb : moI9 fs (y : Int) q = 0 := by rw [← hLT]; exact gp_zero (HLow.out q hqp) HU.out
                rw [hpb] at hV9
                clear hpb hSz hLT hSq hmo hy
                generalize hs[y] = gy at hH hV9
                have yx : ((x : Int) / 2 ^ q).tmod 2 = 0 := (isB_tmod hx0).trans (isB_no HV.out)
                go_wp2_with fail
                go_round
                case rel => exact ⟨q + 1, by go_num, by omega⟩
                case measure => simp [intOf]; omega
            · have yx : ((x : Int) / 2 ^ q).tmod 2 = 1 := (isB_tmod hx0).trans (isB_yes HV.out)
              go_wp2_with fail
              go_round
              case rel => exact ⟨q + 1, by go_num, by omega⟩
              case measure => simp [intOf]; omega
          · obtain rfl : q = p := by omega
            have HV := HXP
            have HU : Hid (isB F q = true) := Lib.hid HHit.out.2
            by_cases hm0 : 0 < m
            · have HU9 := HFR.out
              obtain ⟨p9, hp9, hl9, hF9⟩ : ∃ p9 : Nat, p9 < fs.length ∧ us.getD (k - 1) 0 = (p9 : Int) ∧ F = fs.getD p9 0 := by rcases HU9 with ⟨e, _⟩ | ⟨_, e⟩; have := MK.out; omega; exact e
              clear HU9
              rcases hO.form with ⟨_, e, _⟩ | ⟨gv, e, hge, hgl⟩
              · exfalso; rw [e] at HM; have := HM.out; simp at this; omega
              subst e
              have hml : m - 1 < us.length := by rw [HM.out]; omega
              have d0 := ownNum hO hml
              have e9 : us[m - 1] = (p9 : Int) := by rw [getD_at hml, ← hl9, MK.out]
              rw [e9] at d0
              obtain ⟨bF, oF, rfl, hbF, c0⟩ := rowNum (h.next hB) hp9
              have hF8 : fs[p9] = F := by rw [hF9]; simp [hp9]
              rw [hF8] at c0
              have hFn : 0 ≤ F := by rw [hF9]; exact HFN.out p9 (by rw [HL0.out] at hp9; exact hp9)
              have hp9i : (p9 : Int) < (n : Int) := by rw [HL0.out] at hp9; omega
              have hm1 : (m : Int) - 1 = ((m - 1 : Nat) : Int) := by omega
              have hm1l : ((m - 1 : Nat) : Int) < (m : Int) := by omega
              clear e9 hF8 hl9 hF9
              have g1 : decide (0 < m) = true := by simpa using hm0
              have g2 : decide ((0 : Int) < (m : Int)) = true := by simp; omega
              have g3 : (0 : Int) < (m : Int) := by omega
              have hmo := al_more h6 hx0 hx hqn HV.out
              obtain ⟨y, hy⟩ : ∃ y : Nat, (x : Int) + 2 ^ q = (y : Int) := ⟨((x : Int) + 2 ^ q).toNat, by have := two_bd (n := q) (by omega); omega⟩
              have hyN : y < N := by have := HAL.out; have := hmo.1; omega
              have hy0 : 0 < y := by have := (two_bd (n := q) (by omega)).1; omega
              have hyl : y < hs.length := by rw [HMH.out]; exact hyN
              have hyi : (y : Int) < (N : Int) := by omega
              have hH := hNT.head hyl
              have hV9 := hNT.num hyl hqn
              rw [HUP.out y q hy0 hyN hqn] at hV9
              have hSq : isB (alI n - (x : Int)) q = true := by rw [al_isB h6 hx0 hx hq6, HV.out, decide_eq_true hqn]; rfl
              have hLT : LT fs (alI n - (x : Int)) q = moI9 fs (y : Int) q := by rw [LT_yes hS0 hS1 hq6 hSq, hmo.2, hy]; unfold moI9; rw [HAE.out]
              have z1 : wrap64 ((2 : Int) ^ q) = 2 ^ q := IntWalk.wrap64_in _ (by have := two_bd (n := q) (by omega); omega)
              have z2 : (x : Int) + 2 ^ q = (y : Int) := hy
              have htb := two_bd (n := q) (by omega)
              obtain ⟨t0, t1⟩ := htb
              have hSz : moI9 fs (y : Int) q = 0 ∨ 0 < moI9 fs (y : Int) q := by have := lB_nn (fs := fs) (alI fs.length - (y : Int)) (fs.getD q 0); unfold moI9; omega
              have hpb : 0 < moI9 fs (y : Int) q := by rw [← hLT]; exact HHit.out.1
              generalize moI9 fs (y : Int) q = pb at hV9 hpb
              clear hSz hLT hSq hmo hy
              have hpbe : (pb == 0) = false := by rw [beq_eq_false_iff_ne]; omega
              generalize hs[y] = gy at hH hV9
              have yx : ((x : Int) / 2 ^ q).tmod 2 = 0 := (isB_tmod hx0).trans (isB_no HV.out)
              have yf : (F / 2 ^ q).tmod 2 = 1 := (isB_tmod hFn).trans (isB_yes HU.out)
              have hcp := hB.size
              have hOa := hO.alloc (.cells (encNum.enc ((q : Int))).toArray 3)
              have hNTa := hNT.next (bel1 wr (.cells (encNum.enc ((q : Int))).toArray 3))
              go_wp2_with (at_builtin; refine wpList_append_lies _ rfl (.tmp 60) (.tmp 62) _ rfl w.heap.size 3 i0 _ 1 8 Try.underlying29 HI.out.1 HI.out.2.1 HI.out.2.2.1 HI.out.2.2.2 rfl (by omega) (.slice (some ⟨gv, 0, none⟩) m cv) m (encNum.flat us) rfl (by unfold SOwn at hOa; rw [HM.out] at hOa; exact hOa) ⟨wr.heap.size, 0, none⟩ 1 1 (encNum.enc ((q : Int))) rfl rfl (new_enc (E := encNum) wr ((q : Int)) _) (encNum.one _) (by omega) (by simp only [maxLen]; omega) (by omega) (by simp; omega) _ rfl ?_; intro g5 cap5 w5 hown5 hgr5 hat5 hlt5)
              have hB5 := SOwn.below_grown (n := m) hOa (hB.alloc hB.size _) hgr5
              have hNT5 : NT w5 w1.heap.size (some ⟨b0, 0, none⟩) cp n hs R := NT.grownN hNTa hOa hgr5 HD.out
              have HD5 := Lib.hid (disj_next hOa HD.out hat5 (fun i hi => hNTa.lt hi))
              have hsn := SOwn.snoc (E := encNum) (xs := us) (x := (q : Int)) (by rw [HM.out]; exact hown5)
              have Z9 := Lib.hid (z2.symm.trans HYP.out)
              go_wp2_with fail
              go_roundw
              case rel => exact ⟨k + 1, m + 1, cap5, yp, some ⟨g5, 0, none⟩, us ++ [(q : Int)], _, by omega, by rw [MK.out], first_int Z9.out, rfl, hyp1, HD5, Lib.hid (by rw [List.length_append, HM.out]; rfl), HG2, hsn, hNT5, hB5⟩
              case measure => simp; omega
            · clear HU
              obtain rfl : m = 0 := by omega
              have hFal : F = alI n := by rcases HFR.out with ⟨_, e⟩ | ⟨e, _⟩; rw [e, HAE.out]; have := MK.out; omega
              have HU : Hid (isB F q = true) := Lib.hid (by rw [hFal, isB_all h6 hq6, decide_eq_true hqn])
              clear hFal
              have hmo := al_more h6 hx0 hx hqn HV.out
              obtain ⟨y, hy⟩ : ∃ y : Nat, (x : Int) + 2 ^ q = (y : Int) := ⟨((x : Int) + 2 ^ q).toNat, by have := two_bd (n := q) (by omega); omega⟩
              have hyN : y < N := by have := HAL.out; have := hmo.1; omega
              have hy0 : 0 < y := by have := (two_bd (n := q) (by omega)).1; omega
              have hyl : y < hs.length := by rw [HMH.out]; exact hyN
              have hyi : (y : Int) < (N : Int) := by omega
              have hH := hNT.head hyl
              have hV9 := hNT.num hyl hqn
              rw [HUP.out y q hy0 hyN hqn] at hV9
              have hSq : isB (alI n - (x : Int)) q = true := by rw [al_isB h6 hx0 hx hq6, HV.out, decide_eq_true hqn]; rfl
              have hLT : LT fs (alI n - (x : Int)) q = moI9 fs (y : Int) q := by rw [LT_yes hS0 hS1 hq6 hSq, hmo.2, hy]; unfold moI9; rw [HAE.out]
              have z1 : wrap64 ((2 : Int) ^ q) = 2 ^ q := IntWalk.wrap64_in _ (by have := two_bd (n := q) (by omega); omega)
              have z2 : (x : Int) + 2 ^ q = (y : Int) := hy
              have htb := two_bd (n := q) (by omega)
              obtain ⟨t0, t1⟩ := htb
              have hSz : moI9 fs (y : Int) q = 0 ∨ 0 < moI9 fs (y : Int) q := by have := lB_nn (fs := fs) (alI fs.length - (y : Int)) (fs.getD q 0); unfold moI9; omega
              have hpb : 0 < moI9 fs (y : Int) q := by rw [← hLT]; exact HHit.out.1
              generalize moI9 fs (y : Int) q = pb at hV9 hpb
              clear hSz hLT hSq hmo hy
              have hpbe : (pb == 0) = false := by rw [beq_eq_false_iff_ne]; omega
              generalize hs[y] = gy at hH hV9
              have yx : ((x : Int) / 2 ^ q).tmod 2 = 0 := (isB_tmod hx0).trans (isB_no HV.out)
              have hcp := hB.size
              have hOa := hO.alloc (.cells (encNum.enc ((q : Int))).toArray 3)
              have hNTa := hNT.next (bel1 wr (.cells (encNum.enc ((q : Int))).toArray 3))
              go_wp2_with (at_builtin; refine wpList_append_lies _ rfl (.tmp 60) (.tmp 62) _ rfl w.heap.size 3 i0 _ 1 8 Try.underlying29 HI.out.1 HI.out.2.1 HI.out.2.2.1 HI.out.2.2.2 rfl (by omega) (.slice V 0 cv) 0 (encNum.flat us) rfl (by unfold SOwn at hOa; rw [HM.out] at hOa; exact hOa) ⟨wr.heap.size, 0, none⟩ 1 1 (encNum.enc ((q : Int))) rfl rfl (new_enc (E := encNum) wr ((q : Int)) _) (encNum.one _) (by omega) (by simp only [maxLen]; omega) (by omega) (by simp; omega) _ rfl ?_; intro g5 cap5 w5 hown5 hgr5 hat5 hlt5)
              have hB5 := SOwn.below_grown (n := 0) hOa (hB.alloc hB.size _) hgr5
              have hNT5 : NT w5 w1.heap.size (some ⟨b0, 0, none⟩) cp n hs R := NT.grownN hNTa hOa hgr5 HD.out
              have HD5 := Lib.hid (disj_next hOa HD.out hat5 (fun i hi => hNTa.lt hi))
              have hsn := SOwn.snoc (E := encNum) (xs := us) (x := (q : Int)) (by rw [HM.out]; exact hown5)
              have Z9 := Lib.hid (z2.symm.trans HYP.out)
              go_wp2_with fail
              go_roundw
              case rel => exact ⟨k + 1, 0 + 1, cap5, yp, some ⟨g5, 0, none⟩, us ++ [(q : Int)], _, by omega, by rw [MK.out], first_int Z9.out, rfl, hyp1, HD5, Lib.hid (by rw [List.length_append, HM.out]; rfl), HG2, hsn, hNT5, hB5⟩
              case measure => simp; omega
      · have hmi : ¬ (m : Int) < (n : Int) := by omega
        obtain rfl : m = n := by omega
        have HL9 : Hid (us = lfL fs) := Lib.hid (by rw [HL.out, MK.out, HG.out])
        clear mk
        go_wp2_with fail
        go_ret2
        exact ⟨V, cv, ret_lf (by rw [← HL9.out, HM.out]), by rw [← HL9.out]; exact hO, hB⟩
theorem lfL_le (fs : List Int) : (lfL fs).length ≤ fs.length := by
  cases h : lfB fs
  · rw [lfL_no h]; simp
  · rw [lfL_len h]; exact Nat.le_refl _
theorem sLf9_is (A : Option Addr) (cap : Nat) (fs : List Int) {n : Nat} {l : List Int} {c9 : Bool} (w : World) (hn : fs.length = n) (h : SRow encNum w A fs) (hl : n ≤ 2000000) (hr : lfL fs = l) (hr2 : lfB fs = c9) : Calls Try.prog 33 #[.slice A n cap] w fun E w' => LfRet l c9 w E w' := by subst hr; subst hr2; exact sLf_is A cap fs w hn h hl
theorem iLf9_is (A : Option Addr) (cap : Nat) (fs : List Int) {n : Nat} {l : List Int} {c9 : Bool} (w : World) (hn : fs.length = n) (h : SRow encNum w A fs) (hl : n ≤ 2000000) (hr : lfL fs = l) (hr2 : lfB fs = c9) : Calls Try.prog 28 #[.slice A n cap] w fun E w' => LfRet l c9 w E w' := by subst hr; subst hr2; exact iLf_is A cap fs w hn h hl
end Go.Proofs.Ytoklehmoeollfaa
