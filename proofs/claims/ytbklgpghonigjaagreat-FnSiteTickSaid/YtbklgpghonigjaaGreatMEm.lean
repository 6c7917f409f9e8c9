/- Em: texts joined. -/
import Derived.Test.YtbklgpghonigjaaGreatMQK
namespace Go.Proofs.YtbklgpghonigjaaGreat
set_option linter.unusedVariables false
set_option linter.unusedSimpArgs false
/-- Which quarter of an hour of the year it is. -/
def qtI (dy mi : Int) : Int := 96 * (dy - 1) + mi.tdiv 15
theorem qt_one {dy mi : Int} (d0 : 1 ≤ dy) (d1 : dy ≤ 365) (m0 : 0 ≤ mi) (m1 : mi ≤ 1425) (hm : mi.tmod 15 = 0) : qtI (tkD dy mi) (tkM mi) = (qtI dy mi + 1).tmod 35040 := by
  have hb := tkM_bd m0 m1 hm
  rw [Int.tmod_eq_emod_of_nonneg m0] at hm
  have e1 : (qtI dy mi + 1).tmod 35040 = (qtI dy mi + 1) % 35040 := Int.tmod_eq_emod_of_nonneg (by unfold qtI; rw [Int.tdiv_eq_ediv_of_nonneg m0]; omega)
  rw [e1]
  unfold qtI
  rw [Int.tdiv_eq_ediv_of_nonneg m0, Int.tdiv_eq_ediv_of_nonneg hb.1]
  by_cases h : mi + 15 = 1440
  · rw [tkM_end h, tkD_endE h d0]; omega
  · rw [(tkM_mid m0 m1 h).1, tkD_mid m0 m1 h]; omega
theorem qt_bd {dy mi : Int} (d0 : 1 ≤ dy) (d1 : dy ≤ 365) (m0 : 0 ≤ mi) (m1 : mi ≤ 1425) : 0 ≤ qtI dy mi ∧ qtI dy mi < 35040 := by
  unfold qtI; rw [Int.tdiv_eq_ediv_of_nonneg m0]; omega
theorem qt_inj {dy mi d m : Int} (d0 : 1 ≤ dy) (m0 : 0 ≤ mi) (m1 : mi ≤ 1425) (hm : mi.tmod 15 = 0) (d0' : 1 ≤ d) (m0' : 0 ≤ m) (m1' : m ≤ 1425) (hm' : m.tmod 15 = 0) (h : qtI dy mi = qtI d m) : dy = d ∧ mi = m := by
  rw [Int.tmod_eq_emod_of_nonneg m0] at hm
  rw [Int.tmod_eq_emod_of_nonneg m0'] at hm'
  unfold qtI at h
  rw [Int.tdiv_eq_ediv_of_nonneg m0, Int.tdiv_eq_ediv_of_nonneg m0'] at h
  omega
theorem tkN_add (la e1 n1 fe fn fu ho ne lo hi : Int) (xs : List VBlock) (a : Nat) (s : TkS) : ∀ b, tkN la e1 n1 fe fn fu ho ne lo hi xs (a + b) s = tkN la e1 n1 fe fn fu ho ne lo hi xs b (tkN la e1 n1 fe fn fu ho ne lo hi xs a s)
  | 0 => rfl
  | b + 1 => by
    show tk1 _ _ _ _ _ _ _ _ _ _ _ (tkN _ _ _ _ _ _ _ _ _ _ _ (a + b) s) = tk1 _ _ _ _ _ _ _ _ _ _ _ (tkN _ _ _ _ _ _ _ _ _ _ _ b _)
    rw [tkN_add la e1 n1 fe fn fu ho ne lo hi xs a s b]
theorem tkV_time {la e1 n1 fe fn fu ho ne lo hi : Int} {xs : List VBlock} {s : TkS} (h : tkV la e1 n1 fe fn fu ho ne lo hi xs s) : (1 ≤ s.1 ∧ s.1 ≤ 365) ∧ (0 ≤ s.2.1 ∧ s.2.1 ≤ 1425) ∧ s.2.1.tmod 15 = 0 := by
  unfold tkV at h
  rw [siB_iff] at h
  exact ⟨h.2.1, h.2.2.1, h.2.2.2.1⟩
theorem tkN_qt {la e1 n1 fe fn fu ho ne lo hi : Int} {xs : List VBlock} {s : TkS} (h : tkV la e1 n1 fe fn fu ho ne lo hi xs s) : ∀ k : Nat, qtI (tkN la e1 n1 fe fn fu ho ne lo hi xs k s).1 (tkN la e1 n1 fe fn fu ho ne lo hi xs k s).2.1 = (qtI s.1 s.2.1 + k).tmod 35040
  | 0 => by
    obtain ⟨d, m, _⟩ := tkV_time h
    have b := qt_bd d.1 d.2 m.1 m.2
    show qtI s.1 s.2.1 = _
    rw [Int.tmod_eq_emod_of_nonneg (by simp; omega)]
    simp; omega
  | k + 1 => by
    have hv := tkV_all h k
    obtain ⟨d, m, e⟩ := tkV_time hv
    have ih := tkN_qt h k
    obtain ⟨d', m', _⟩ := tkV_time h
    have b := qt_bd d'.1 d'.2 m'.1 m'.2
    have one := qt_one d.1 d.2 m.1 m.2 e
    show qtI (tkD _ _) (tkM _) = _
    rw [one, ih]
    rw [Int.tmod_eq_emod_of_nonneg (a := qtI s.1 s.2.1 + k) (by omega), Int.tmod_eq_emod_of_nonneg (by omega), Int.tmod_eq_emod_of_nonneg (by push_cast; omega)]
    push_cast; omega
/-- A day later it is the same minute of the next day. -/
theorem tkN_day {la e1 n1 fe fn fu ho ne lo hi : Int} {xs : List VBlock} {s : TkS} (h : tkV la e1 n1 fe fn fu ho ne lo hi xs s) : (tkN la e1 n1 fe fn fu ho ne lo hi xs 96 s).2.1 = s.2.1 ∧ (tkN la e1 n1 fe fn fu ho ne lo hi xs 96 s).1 = s.1.tmod 365 + 1 := by
  have hv := tkV_all h 96
  obtain ⟨d, m, e⟩ := tkV_time hv
  obtain ⟨d', m', e'⟩ := tkV_time h
  have hq := tkN_qt h 96
  have b := qt_bd d'.1 d'.2 m'.1 m'.2
  have hd : 0 ≤ s.1.tmod 365 ∧ s.1.tmod 365 ≤ 364 := by rw [Int.tmod_eq_emod_of_nonneg (by omega)]; omega
  have key : qtI (s.1.tmod 365 + 1) s.2.1 = (qtI s.1 s.2.1 + (96 : Nat)).tmod 35040 := by
    rw [Int.tmod_eq_emod_of_nonneg (by omega)]
    unfold qtI at b ⊢
    rw [Int.tdiv_eq_ediv_of_nonneg m'.1] at b ⊢
    rw [Int.tmod_eq_emod_of_nonneg (by omega)]
    push_cast; omega
  have := qt_inj d.1 m.1 m.2 e (by omega) m'.1 m'.2 e' (hq.trans key.symm)
  exact ⟨this.2, this.1⟩
end Go.Proofs.YtbklgpghonigjaaGreat
