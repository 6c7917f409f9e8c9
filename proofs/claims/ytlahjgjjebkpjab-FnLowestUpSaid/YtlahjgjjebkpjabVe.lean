/- Contracts of chapter 5: heights and suns. -/
import Derived.Test.YtlahjgjjebkpjabVa
import Derived.Test.YtlahjgjjebkpjabVd
import Derived.Test.YtlahjgjjebkpjabVt
namespace Go.Proofs.Ytlahjgjjebkpjab
open Go Go.ChangeShapes Go.WideShapes Go.ChangeAt Go.RowKit
set_option linter.unusedSimpArgs false
set_option linter.unusedVariables false

theorem sh_mono {pe pn a b c d h h' re rn ru : Int} (h1 : h ≤ h') (h2 : h' ≤ 30) (hs : shB pe pn a b c d h re rn ru = true) : shB pe pn a b c d h' re rn ru = true := by
  rw [shB_iff] at hs ⊢
  have hb := blB_iff.1 hs.2.1
  exact ⟨hs.1, blB_iff.2 ⟨hb.1, hb.2.1, hb.2.2.1, hb.2.2.2.1, hb.2.2.2.2.1, hb.2.2.2.2.2.1, by omega, h2⟩, hs.2.2.1, meet_high h1 hs.2.2.2⟩
theorem sh_sink {pe pn a b c d h re rn ru ru' : Int} (h1 : ru' ≤ ru) (h2 : 1 ≤ ru') (hs : shB pe pn a b c d h re rn ru = true) : shB pe pn a b c d h re rn ru' = true := by
  rw [shB_iff] at hs ⊢
  have hb := ryB_iff.1 hs.2.2.1
  exact ⟨hs.1, hs.2.1, ryB_iff.2 ⟨hb.1, hb.2.1, hb.2.2.1, hb.2.2.2.1, h2, by omega⟩, meet_low h1 hs.2.2.2⟩
/-- The greatest height without a shadow. -/
def HfIs (pe pn a b c d re rn ru m : Int) : Prop := 0 ≤ m ∧ m ≤ 30 ∧ ∀ n : Int, 1 ≤ n → n ≤ 30 → shB pe pn a b c d n re rn ru = decide (m < n)
theorem HfIs.unique {pe pn a b c d re rn ru m m' : Int} (h : HfIs pe pn a b c d re rn ru m) (h' : HfIs pe pn a b c d re rn ru m') : m = m' := by
  have key : ∀ x y, HfIs pe pn a b c d re rn ru x → HfIs pe pn a b c d re rn ru y → ¬ x < y := by
    intro x y hx hy hlt
    have e1 := hx.2.2 (x + 1) (by have := hx.1; omega) (by have := hy.2.1; omega)
    have e2 := hy.2.2 (x + 1) (by have := hx.1; omega) (by have := hy.2.1; omega)
    rw [e1] at e2
    have e3 : decide (x < x + 1) = true := by simp; omega
    have e4 : decide (y < x + 1) = false := by simp; omega
    rw [e3, e4] at e2; cases e2
  have := key m m' h h'; have := key m' m h' h; omega
/-- As far as height k. -/
def HfTo (pe pn a b c d re rn ru m k : Int) : Prop := 0 ≤ m ∧ m < k ∧ ∀ n : Int, 1 ≤ n → n < k → shB pe pn a b c d n re rn ru = decide (m < n)
theorem HfTo.start (pe pn a b c d re rn ru : Int) : HfTo pe pn a b c d re rn ru 0 1 := ⟨by omega, by omega, fun n h1 h2 => by omega⟩
theorem HfTo.all {pe pn a b c d re rn ru m : Int} (h : HfTo pe pn a b c d re rn ru m 31) : HfIs pe pn a b c d re rn ru m := ⟨h.1, by have := h.2.1; omega, fun n h1 h2 => h.2.2 n h1 (by omega)⟩
theorem HfTo.lit {pe pn a b c d re rn ru m k : Int} (hk : k ≤ 30) (h : HfTo pe pn a b c d re rn ru m k) (hs : shB pe pn a b c d k re rn ru = false) : HfTo pe pn a b c d re rn ru k (k + 1) := by
  refine ⟨by have := h.1; have := h.2.1; omega, by omega, fun n h1 h2 => ?_⟩
  have e : decide (k < n) = false := by simp; omega
  rw [e]
  cases hn : shB pe pn a b c d n re rn ru
  · rfl
  · rw [sh_mono (by omega) hk hn] at hs; cases hs
theorem HfTo.dark {pe pn a b c d re rn ru m k : Int} (h : HfTo pe pn a b c d re rn ru m k) (hs : shB pe pn a b c d k re rn ru = true) : HfTo pe pn a b c d re rn ru m (k + 1) := by
  refine ⟨h.1, by have := h.2.1; omega, fun n h1 h2 => ?_⟩
  by_cases e : n = k
  · subst e; rw [hs]; have := h.2.1; simp; omega
  · exact h.2.2 n h1 (by omega)
theorem HfTo.lits {pe pn a b c d re rn ru k : Int} (h1 : 1 ≤ k) (h : ∀ n : Int, 1 ≤ n → n < k → shB pe pn a b c d n re rn ru = false) : HfTo pe pn a b c d re rn ru (k - 1) k := by
  refine ⟨by omega, by omega, fun n h1 h2 => ?_⟩
  rw [h n h1 h2]; simp; omega
theorem HfTo.first {pe pn a b c d re rn ru k : Int} (h1 : 1 ≤ k) (h2 : k ≤ 30) (h : ∀ n : Int, 1 ≤ n → n < k → shB pe pn a b c d n re rn ru = false) (hs : shB pe pn a b c d k re rn ru = true) : HfIs pe pn a b c d re rn ru (k - 1) := by
  refine ⟨by omega, by omega, fun n h3 h4 => ?_⟩
  by_cases e : n < k
  · rw [h n h3 e]; simp; omega
  · rw [sh_mono (by omega) h4 hs]; simp; omega
/-- The least Up without a shadow. -/
def LuIs (pe pn a b c d h re rn m : Int) : Prop := (m = -1 ∧ ∀ n : Int, 1 ≤ n → n ≤ 20 → shB pe pn a b c d h re rn n = true) ∨ ((1 ≤ m ∧ m ≤ 20) ∧ ∀ n : Int, 1 ≤ n → n ≤ 20 → shB pe pn a b c d h re rn n = decide (n < m))
theorem LuIs.unique {pe pn a b c d h re rn m m' : Int} (h1 : LuIs pe pn a b c d h re rn m) (h2 : LuIs pe pn a b c d h re rn m') : m = m' := by
  have key : ∀ x y, ((1 ≤ x ∧ x ≤ 20) ∧ ∀ n : Int, 1 ≤ n → n ≤ 20 → shB pe pn a b c d h re rn n = decide (n < x)) → ((1 ≤ y ∧ y ≤ 20) ∧ ∀ n : Int, 1 ≤ n → n ≤ 20 → shB pe pn a b c d h re rn n = decide (n < y)) → ¬ x < y := by
    rintro x y ⟨⟨x0, x1⟩, hx⟩ ⟨⟨y0, y1⟩, hy⟩ hlt
    have e1 := hx x x0 x1
    rw [hy x x0 x1] at e1
    have e3 : decide (x < y) = true := by simp; omega
    have e4 : decide (x < x) = false := by simp
    rw [e3, e4] at e1; cases e1
  rcases h1 with ⟨rfl, h1⟩ | h1 <;> rcases h2 with ⟨rfl, h2⟩ | h2
  · rfl
  · have := h1 m' h2.1.1 h2.1.2; rw [h2.2 m' h2.1.1 h2.1.2] at this; simp at this
  · have := h2 m h1.1.1 h1.1.2; rw [h1.2 m h1.1.1 h1.1.2] at this; simp at this
  · have := key m m' h1 h2; have := key m' m h2 h1; omega
theorem LuIs.first {pe pn a b c d h re rn k : Int} (h1 : 1 ≤ k) (h2 : k ≤ 20) (hd : ∀ n : Int, 1 ≤ n → n < k → shB pe pn a b c d h re rn n = true) (hs : shB pe pn a b c d h re rn k = false) : LuIs pe pn a b c d h re rn k := by
  refine .inr ⟨⟨h1, h2⟩, fun n h3 h4 => ?_⟩
  by_cases e : n < k
  · rw [hd n h3 e]; simp; omega
  · cases hn : shB pe pn a b c d h re rn n
    · simp; omega
    · rw [sh_sink (by omega) h1 hn] at hs; cases hs
theorem ryB_at {e n u v : Int} (h : ryB e n u = true) (h1 : 1 ≤ v) (h2 : v ≤ 20) : ryB e n v = true := by rw [ryB_iff] at h ⊢; omega
theorem ryB_out {e n u v : Int} (h : ryB e n u = false) (h1 : 1 ≤ u) (h2 : u ≤ 20) : ryB e n v = false := by
  cases hv : ryB e n v
  · rfl
  · rw [ryB_at hv h1 h2] at h; cases h
def hfB (pe pn a b c d h re rn ru : Int) : Bool := plB pe pn && (blB a b c d h && (ryB re rn ru && !unB pe pn a b c d h))
def luB (pe pn a b c d h re rn : Int) : Bool := plB pe pn && (blB a b c d h && ryB re rn 1)
set_option maxHeartbeats 4000000 in
theorem iHF_f (pe pn a b c d h re rn ru : Int) (w : World) (hv : hfB pe pn a b c d h re rn ru = false) :
    Calls Try.prog 30 #[.agg #[.int .i64 pe, .int .i64 pn], .agg #[.int .i64 a, .int .i64 b, .int .i64 c, .int .i64 d, .int .i64 h], .agg #[.int .i64 re, .int .i64 rn, .int .i64 ru]] w fun E w' => E = .returned (.int .i64 (-1)) ∧ Below w.heap.size w w' := by
  cases hp : plB pe pn
  · clear hv
    have HP := Lib.hid hp
    clear hp
    go_enter Try.func30, Try.ntmps30
    go_wp2_with fail
    refine (iPV_is _ HP.out).mono ?_; rintro E w1 ⟨rfl, hw1⟩
    obtain ⟨hP1, hQ1, hR1, hB1⟩ := ownb3 hw1
    obtain ⟨cP1_0, cP1_1, fP1_0, fP1_1, zP1⟩ := blk2 hP1
    obtain ⟨cQ1_0, cQ1_1, cQ1_2, cQ1_3, cQ1_4, fQ1_0, fQ1_1, fQ1_2, fQ1_3, fQ1_4, zQ1⟩ := blk5 hQ1
    obtain ⟨cR1_0, cR1_1, cR1_2, fR1_0, fR1_1, fR1_2, zR1⟩ := blk3 hR1
    go_wp2
    go_ret
    exact ⟨rfl, hB1⟩
  · skip
    cases hb : blB a b c d h
    · clear hv
      have HP := Lib.hid hp
      have HB := Lib.hid hb
      clear hp hb
      go_enter Try.func30, Try.ntmps30
      go_wp2_with fail
      refine (iPV_is _ HP.out).mono ?_; rintro E w1 ⟨rfl, hw1⟩
      obtain ⟨hP1, hQ1, hR1, hB1⟩ := ownb3 hw1
      obtain ⟨cP1_0, cP1_1, fP1_0, fP1_1, zP1⟩ := blk2 hP1
      obtain ⟨cQ1_0, cQ1_1, cQ1_2, cQ1_3, cQ1_4, fQ1_0, fQ1_1, fQ1_2, fQ1_3, fQ1_4, zQ1⟩ := blk5 hQ1
      obtain ⟨cR1_0, cR1_1, cR1_2, fR1_0, fR1_1, fR1_2, zR1⟩ := blk3 hR1
      go_wp2_with fail
      refine (iBV_is _ HB.out).mono ?_; rintro E w2 ⟨rfl, hw2⟩
      have hP2 := blk_next hP1 hw2
      have hQ2 := blk_next hQ1 hw2
      have hR2 := blk_next hR1 hw2
      have hB2 := bel_next hB1 hw2
      obtain ⟨cP2_0, cP2_1, fP2_0, fP2_1, zP2⟩ := blk2 hP2
      obtain ⟨cQ2_0, cQ2_1, cQ2_2, cQ2_3, cQ2_4, fQ2_0, fQ2_1, fQ2_2, fQ2_3, fQ2_4, zQ2⟩ := blk5 hQ2
      obtain ⟨cR2_0, cR2_1, cR2_2, fR2_0, fR2_1, fR2_2, zR2⟩ := blk3 hR2
      go_wp2
      go_ret
      exact ⟨rfl, hB2⟩
    · skip
      cases hr : ryB re rn ru
      · clear hv
        have HP := Lib.hid hp
        have HB := Lib.hid hb
        have HR := Lib.hid hr
        clear hp hb hr
        go_enter Try.func30, Try.ntmps30
        go_wp2_with fail
        refine (iPV_is _ HP.out).mono ?_; rintro E w1 ⟨rfl, hw1⟩
        obtain ⟨hP1, hQ1, hR1, hB1⟩ := ownb3 hw1
        obtain ⟨cP1_0, cP1_1, fP1_0, fP1_1, zP1⟩ := blk2 hP1
        obtain ⟨cQ1_0, cQ1_1, cQ1_2, cQ1_3, cQ1_4, fQ1_0, fQ1_1, fQ1_2, fQ1_3, fQ1_4, zQ1⟩ := blk5 hQ1
        obtain ⟨cR1_0, cR1_1, cR1_2, fR1_0, fR1_1, fR1_2, zR1⟩ := blk3 hR1
        go_wp2_with fail
        refine (iBV_is _ HB.out).mono ?_; rintro E w2 ⟨rfl, hw2⟩
        have hP2 := blk_next hP1 hw2
        have hQ2 := blk_next hQ1 hw2
        have hR2 := blk_next hR1 hw2
        have hB2 := bel_next hB1 hw2
        obtain ⟨cP2_0, cP2_1, fP2_0, fP2_1, zP2⟩ := blk2 hP2
        obtain ⟨cQ2_0, cQ2_1, cQ2_2, cQ2_3, cQ2_4, fQ2_0, fQ2_1, fQ2_2, fQ2_3, fQ2_4, zQ2⟩ := blk5 hQ2
        obtain ⟨cR2_0, cR2_1, cR2_2, fR2_0, fR2_1, fR2_2, zR2⟩ := blk3 hR2
        go_wp2_with fail
        refine (iRV_is _ HR.out).mono ?_; rintro E w3 ⟨rfl, hw3⟩
        have hP3 := blk_next hP2 hw3
        have hQ3 := blk_next hQ2 hw3
        have hR3 := blk_next hR2 hw3
        have hB3 := bel_next hB2 hw3
        obtain ⟨cP3_0, cP3_1, fP3_0, fP3_1, zP3⟩ := blk2 hP3
        obtain ⟨cQ3_0, cQ3_1, cQ3_2, cQ3_3, cQ3_4, fQ3_0, fQ3_1, fQ3_2, fQ3_3, fQ3_4, zQ3⟩ := blk5 hQ3
        obtain ⟨cR3_0, cR3_1, cR3_2, fR3_0, fR3_1, fR3_2, zR3⟩ := blk3 hR3
        go_wp2
        go_ret
        exact ⟨rfl, hB3⟩
      · skip
        cases hu : unB pe pn a b c d h
        · exfalso; unfold hfB at hv; rw [hp, hb, hr, hu] at hv; cases hv
        · clear hv
          have HP := Lib.hid hp
          have HB := Lib.hid hb
          have HR := Lib.hid hr
          have HU := Lib.hid hu
          clear hp hb hr hu
          go_enter Try.func30, Try.ntmps30
          go_wp2_with fail
          refine (iPV_is _ HP.out).mono ?_; rintro E w1 ⟨rfl, hw1⟩
          obtain ⟨hP1, hQ1, hR1, hB1⟩ := ownb3 hw1
          obtain ⟨cP1_0, cP1_1, fP1_0, fP1_1, zP1⟩ := blk2 hP1
          obtain ⟨cQ1_0, cQ1_1, cQ1_2, cQ1_3, cQ1_4, fQ1_0, fQ1_1, fQ1_2, fQ1_3, fQ1_4, zQ1⟩ := blk5 hQ1
          obtain ⟨cR1_0, cR1_1, cR1_2, fR1_0, fR1_1, fR1_2, zR1⟩ := blk3 hR1
          go_wp2_with fail
          refine (iBV_is _ HB.out).mono ?_; rintro E w2 ⟨rfl, hw2⟩
          have hP2 := blk_next hP1 hw2
          have hQ2 := blk_next hQ1 hw2
          have hR2 := blk_next hR1 hw2
          have hB2 := bel_next hB1 hw2
          obtain ⟨cP2_0, cP2_1, fP2_0, fP2_1, zP2⟩ := blk2 hP2
          obtain ⟨cQ2_0, cQ2_1, cQ2_2, cQ2_3, cQ2_4, fQ2_0, fQ2_1, fQ2_2, fQ2_3, fQ2_4, zQ2⟩ := blk5 hQ2
          obtain ⟨cR2_0, cR2_1, cR2_2, fR2_0, fR2_1, fR2_2, zR2⟩ := blk3 hR2
          go_wp2_with fail
          refine (iRV_is _ HR.out).mono ?_; rintro E w3 ⟨rfl, hw3⟩
          have hP3 := blk_next hP2 hw3
          have hQ3 := blk_next hQ2 hw3
          have hR3 := blk_next hR2 hw3
          have hB3 := bel_next hB2 hw3
          obtain ⟨cP3_0, cP3_1, fP3_0, fP3_1, zP3⟩ := blk2 hP3
          obtain ⟨cQ3_0, cQ3_1, cQ3_2, cQ3_3, cQ3_4, fQ3_0, fQ3_1, fQ3_2, fQ3_3, fQ3_4, zQ3⟩ := blk5 hQ3
          obtain ⟨cR3_0, cR3_1, cR3_2, fR3_0, fR3_1, fR3_2, zR3⟩ := blk3 hR3
          go_wp2_with fail
          refine (iUB_is _ HU.out).mono ?_; rintro E w4 ⟨rfl, hw4⟩
          have hP4 := blk_next hP3 hw4
          have hQ4 := blk_next hQ3 hw4
          have hR4 := blk_next hR3 hw4
          have hB4 := bel_next hB3 hw4
          obtain ⟨cP4_0, cP4_1, fP4_0, fP4_1, zP4⟩ := blk2 hP4
          obtain ⟨cQ4_0, cQ4_1, cQ4_2, cQ4_3, cQ4_4, fQ4_0, fQ4_1, fQ4_2, fQ4_3, fQ4_4, zQ4⟩ := blk5 hQ4
          obtain ⟨cR4_0, cR4_1, cR4_2, fR4_0, fR4_1, fR4_2, zR4⟩ := blk3 hR4
          go_wp2
          go_ret
          exact ⟨rfl, hB4⟩
set_option maxHeartbeats 4000000 in
theorem iHF_t (pe pn a b c d h re rn ru : Int) (w : World) (hv : hfB pe pn a b c d h re rn ru = true) :
    Calls Try.prog 30 #[.agg #[.int .i64 pe, .int .i64 pn], .agg #[.int .i64 a, .int .i64 b, .int .i64 c, .int .i64 d, .int .i64 h], .agg #[.int .i64 re, .int .i64 rn, .int .i64 ru]] w fun E w' => ∃ m : Int, E = .returned (.int .i64 m) ∧ HfIs pe pn a b c d re rn ru m ∧ Below w.heap.size w w' := by
  unfold hfB at hv
  simp only [Bool.and_eq_true, Bool.not_eq_true'] at hv
  obtain ⟨hp, hb, hr, hu⟩ := hv
  have HP := Lib.hid hp
  have HB := Lib.hid hb
  have HR := Lib.hid hr
  have HU := Lib.hid hu
  clear hp hb hr hu
  go_enter Try.func30, Try.ntmps30
  go_wp2_with fail
  refine (iPV_is _ HP.out).mono ?_; rintro E w1 ⟨rfl, hw1⟩
  obtain ⟨hP1, hQ1, hR1, hB1⟩ := ownb3 hw1
  obtain ⟨cP1_0, cP1_1, fP1_0, fP1_1, zP1⟩ := blk2 hP1
  obtain ⟨cQ1_0, cQ1_1, cQ1_2, cQ1_3, cQ1_4, fQ1_0, fQ1_1, fQ1_2, fQ1_3, fQ1_4, zQ1⟩ := blk5 hQ1
  obtain ⟨cR1_0, cR1_1, cR1_2, fR1_0, fR1_1, fR1_2, zR1⟩ := blk3 hR1
  go_wp2_with fail
  refine (iBV_is _ HB.out).mono ?_; rintro E w2 ⟨rfl, hw2⟩
  have hP2 := blk_next hP1 hw2
  have hQ2 := blk_next hQ1 hw2
  have hR2 := blk_next hR1 hw2
  have hB2 := bel_next hB1 hw2
  obtain ⟨cP2_0, cP2_1, fP2_0, fP2_1, zP2⟩ := blk2 hP2
  obtain ⟨cQ2_0, cQ2_1, cQ2_2, cQ2_3, cQ2_4, fQ2_0, fQ2_1, fQ2_2, fQ2_3, fQ2_4, zQ2⟩ := blk5 hQ2
  obtain ⟨cR2_0, cR2_1, cR2_2, fR2_0, fR2_1, fR2_2, zR2⟩ := blk3 hR2
  go_wp2_with fail
  refine (iRV_is _ HR.out).mono ?_; rintro E w3 ⟨rfl, hw3⟩
  have hP3 := blk_next hP2 hw3
  have hQ3 := blk_next hQ2 hw3
  have hR3 := blk_next hR2 hw3
  have hB3 := bel_next hB2 hw3
  obtain ⟨cP3_0, cP3_1, fP3_0, fP3_1, zP3⟩ := blk2 hP3
  obtain ⟨cQ3_0, cQ3_1, cQ3_2, cQ3_3, cQ3_4, fQ3_0, fQ3_1, fQ3_2, fQ3_3, fQ3_4, zQ3⟩ := blk5 hQ3
  obtain ⟨cR3_0, cR3_1, cR3_2, fR3_0, fR3_1, fR3_2, zR3⟩ := blk3 hR3
  go_wp2_with fail
  refine (iUB_is _ HU.out).mono ?_; rintro E w4 ⟨rfl, hw4⟩
  have hP4 := blk_next hP3 hw4
  have hQ4 := blk_next hQ3 hw4
  have hR4 := blk_next hR3 hw4
  have hB4 := bel_next hB3 hw4
  obtain ⟨cP4_0, cP4_1, fP4_0, fP4_1, zP4⟩ := blk2 hP4
  obtain ⟨cQ4_0, cQ4_1, cQ4_2, cQ4_3, cQ4_4, fQ4_0, fQ4_1, fQ4_2, fQ4_3, fQ4_4, zQ4⟩ := blk5 hQ4
  obtain ⟨cR4_0, cR4_1, cR4_2, fR4_0, fR4_1, fR4_2, zR4⟩ := blk3 hR4
  go_wp2_with fail
  go_loopw [7] (fun s7 wr => ∃ k hq : Int, 1 ≤ k ∧ k ≤ 31 ∧ s7 = .int .i64 k ∧ Hid (∀ n : Int, 1 ≤ n → n < k → shB pe pn a b c d n re rn ru = false) ∧ wr.heap[w.heap.size]? = some (.cells #[.int .i64 pe, .int .i64 pn] 24 (0, 0)) ∧ wr.heap[w.heap.size + 1]? = some (.cells #[.int .i64 a, .int .i64 b, .int .i64 c, .int .i64 d, .int .i64 hq] 26 (0, 0)) ∧ wr.heap[w.heap.size + 1 + 1]? = some (.cells #[.int .i64 re, .int .i64 rn, .int .i64 ru] 28 (0, 0)) ∧ Below w.heap.size w wr) (fun s7 _ => (31 - intOf s7).toNat)
  case atStart => exact ⟨1, h, by omega, by omega, rfl, Lib.hid (fun n h1 h2 => by omega), hP4, hQ4, hR4, hB4⟩
  case round =>
    obtain ⟨k, hq, k0, k1, rfl, HT, hP, hQ, hR, hB⟩ := hrel
    by_cases hlt : k ≤ 30
    · obtain ⟨q0, q1, q2, q3, q4, f0, f1, f2, f3, f4, zq⟩ := blk5 hQ
      have hQ2 := blk_at 4 (.int .i64 k) _ hQ
      simp only [List.setIfInBounds_toArray, List.set_cons_succ, List.set_cons_zero] at hQ2
      have hP2 := blk_far (i := 4) hP (show w.heap.size ≠ w.heap.size + 1 by omega) (.int .i64 k)
      have hR2 := blk_far (i := 4) hR (show w.heap.size + 1 + 1 ≠ w.heap.size + 1 by omega) (.int .i64 k)
      have hB2 := hB.setCell (p := ⟨w.heap.size + 1, 4, none⟩) (by show w.heap.size ≤ w.heap.size + 1; omega) (.int .i64 k)
      obtain ⟨p0, p1, _, _, zp⟩ := blk2 hP
      obtain ⟨r0, r1, r2, _, _, _, zr⟩ := blk3 hR
      obtain ⟨v, hv⟩ : ∃ v, shB pe pn a b c d k re rn ru = v := ⟨_, rfl⟩
      have HV := Lib.hid hv
      clear hv
      go_wp2_with fail
      refine (iSh_is _ HV.out).mono ?_; rintro E w7 ⟨rfl, hw7⟩
      have hP7 := blk_next hP2 hw7
      have hQ7 := blk_next hQ2 hw7
      have hR7 := blk_next hR2 hw7
      have hB7 := bel_next hB2 hw7
      clear hP hQ hR hP2 hQ2 hR2
      cases v
      · go_wp2_with fail
        go_roundw
        case rel => exact ⟨k + 1, k, by omega, by omega, rfl, Lib.hid (fun n h1 h2 => by by_cases e : n = k; rw [e]; exact HV.out; exact HT.out n h1 (by omega)), hP7, hQ7, hR7, hB7⟩
        case measure => simp [intOf]; omega
      · go_wp2_with fail
        go_ret
        exact ⟨_, rfl, HfTo.first k0 hlt HT.out HV.out, hB7⟩
    · obtain rfl : k = 31 := by omega
      go_wp2_with fail
      go_ret
      exact ⟨30, rfl, (HfTo.lits (k := 31) (by omega) HT.out).all, hB⟩
set_option maxHeartbeats 4000000 in
theorem sHF_f (pe pn a b c d h re rn ru : Int) (w : World) (hv : hfB pe pn a b c d h re rn ru = false) :
    Calls Try.prog 31 #[.agg #[.int .i64 pe, .int .i64 pn], .agg #[.int .i64 a, .int .i64 b, .int .i64 c, .int .i64 d, .int .i64 h], .agg #[.int .i64 re, .int .i64 rn, .int .i64 ru]] w fun E w' => E = .returned (.int .i64 (-1)) ∧ Below w.heap.size w w' := by
  cases hp : plB pe pn
  · clear hv
    have HP := Lib.hid hp
    clear hp
    go_enter Try.func31, Try.ntmps31
    go_wp2_with fail
    refine (sPV_is _ HP.out).mono ?_; rintro E w1 ⟨rfl, hw1⟩
    obtain ⟨hP1, hQ1, hR1, hB1⟩ := ownb3 hw1
    obtain ⟨cP1_0, cP1_1, fP1_0, fP1_1, zP1⟩ := blk2 hP1
    obtain ⟨cQ1_0, cQ1_1, cQ1_2, cQ1_3, cQ1_4, fQ1_0, fQ1_1, fQ1_2, fQ1_3, fQ1_4, zQ1⟩ := blk5 hQ1
    obtain ⟨cR1_0, cR1_1, cR1_2, fR1_0, fR1_1, fR1_2, zR1⟩ := blk3 hR1
    go_wp2
    go_ret
    exact ⟨rfl, hB1⟩
  · skip
    cases hb : blB a b c d h
    · clear hv
      have HP := Lib.hid hp
      have HB := Lib.hid hb
      clear hp hb
      go_enter Try.func31, Try.ntmps31
      go_wp2_with fail
      refine (sPV_is _ HP.out).mono ?_; rintro E w1 ⟨rfl, hw1⟩
      obtain ⟨hP1, hQ1, hR1, hB1⟩ := ownb3 hw1
      obtain ⟨cP1_0, cP1_1, fP1_0, fP1_1, zP1⟩ := blk2 hP1
      obtain ⟨cQ1_0, cQ1_1, cQ1_2, cQ1_3, cQ1_4, fQ1_0, fQ1_1, fQ1_2, fQ1_3, fQ1_4, zQ1⟩ := blk5 hQ1
      obtain ⟨cR1_0, cR1_1, cR1_2, fR1_0, fR1_1, fR1_2, zR1⟩ := blk3 hR1
      go_wp2_with fail
      refine (sBV_is _ HB.out).mono ?_; rintro E w2 ⟨rfl, hw2⟩
      have hP2 := blk_next hP1 hw2
      have hQ2 := blk_next hQ1 hw2
      have hR2 := blk_next hR1 hw2
      have hB2 := bel_next hB1 hw2
      obtain ⟨cP2_0, cP2_1, fP2_0, fP2_1, zP2⟩ := blk2 hP2
      obtain ⟨cQ2_0, cQ2_1, cQ2_2, cQ2_3, cQ2_4, fQ2_0, fQ2_1, fQ2_2, fQ2_3, fQ2_4, zQ2⟩ := blk5 hQ2
      obtain ⟨cR2_0, cR2_1, cR2_2, fR2_0, fR2_1, fR2_2, zR2⟩ := blk3 hR2
      go_wp2
      go_ret
      exact ⟨rfl, hB2⟩
    · skip
      cases hr : ryB re rn ru
      · clear hv
        have HP := Lib.hid hp
        have HB := Lib.hid hb
        have HR := Lib.hid hr
        clear hp hb hr
        go_enter Try.func31, Try.ntmps31
        go_wp2_with fail
        refine (sPV_is _ HP.out).mono ?_; rintro E w1 ⟨rfl, hw1⟩
        obtain ⟨hP1, hQ1, hR1, hB1⟩ := ownb3 hw1
        obtain ⟨cP1_0, cP1_1, fP1_0, fP1_1, zP1⟩ := blk2 hP1
        obtain ⟨cQ1_0, cQ1_1, cQ1_2, cQ1_3, cQ1_4, fQ1_0, fQ1_1, fQ1_2, fQ1_3, fQ1_4, zQ1⟩ := blk5 hQ1
        obtain ⟨cR1_0, cR1_1, cR1_2, fR1_0, fR1_1, fR1_2, zR1⟩ := blk3 hR1
        go_wp2_with fail
        refine (sBV_is _ HB.out).mono ?_; rintro E w2 ⟨rfl, hw2⟩
        have hP2 := blk_next hP1 hw2
        have hQ2 := blk_next hQ1 hw2
        have hR2 := blk_next hR1 hw2
        have hB2 := bel_next hB1 hw2
        obtain ⟨cP2_0, cP2_1, fP2_0, fP2_1, zP2⟩ := blk2 hP2
        obtain ⟨cQ2_0, cQ2_1, cQ2_2, cQ2_3, cQ2_4, fQ2_0, fQ2_1, fQ2_2, fQ2_3, fQ2_4, zQ2⟩ := blk5 hQ2
        obtain ⟨cR2_0, cR2_1, cR2_2, fR2_0, fR2_1, fR2_2, zR2⟩ := blk3 hR2
        go_wp2_with fail
        refine (sRV_is _ HR.out).mono ?_; rintro E w3 ⟨rfl, hw3⟩
        have hP3 := blk_next hP2 hw3
        have hQ3 := blk_next hQ2 hw3
        have hR3 := blk_next hR2 hw3
        have hB3 := bel_next hB2 hw3
        obtain ⟨cP3_0, cP3_1, fP3_0, fP3_1, zP3⟩ := blk2 hP3
        obtain ⟨cQ3_0, cQ3_1, cQ3_2, cQ3_3, cQ3_4, fQ3_0, fQ3_1, fQ3_2, fQ3_3, fQ3_4, zQ3⟩ := blk5 hQ3
        obtain ⟨cR3_0, cR3_1, cR3_2, fR3_0, fR3_1, fR3_2, zR3⟩ := blk3 hR3
        go_wp2
        go_ret
        exact ⟨rfl, hB3⟩
      · skip
        cases hu : unB pe pn a b c d h
        · exfalso; unfold hfB at hv; rw [hp, hb, hr, hu] at hv; cases hv
        · clear hv
          have HP := Lib.hid hp
          have HB := Lib.hid hb
          have HR := Lib.hid hr
          have HU := Lib.hid hu
          clear hp hb hr hu
          go_enter Try.func31, Try.ntmps31
          go_wp2_with fail
          refine (sPV_is _ HP.out).mono ?_; rintro E w1 ⟨rfl, hw1⟩
          obtain ⟨hP1, hQ1, hR1, hB1⟩ := ownb3 hw1
          obtain ⟨cP1_0, cP1_1, fP1_0, fP1_1, zP1⟩ := blk2 hP1
          obtain ⟨cQ1_0, cQ1_1, cQ1_2, cQ1_3, cQ1_4, fQ1_0, fQ1_1, fQ1_2, fQ1_3, fQ1_4, zQ1⟩ := blk5 hQ1
          obtain ⟨cR1_0, cR1_1, cR1_2, fR1_0, fR1_1, fR1_2, zR1⟩ := blk3 hR1
          go_wp2_with fail
          refine (sBV_is _ HB.out).mono ?_; rintro E w2 ⟨rfl, hw2⟩
          have hP2 := blk_next hP1 hw2
          have hQ2 := blk_next hQ1 hw2
          have hR2 := blk_next hR1 hw2
          have hB2 := bel_next hB1 hw2
          obtain ⟨cP2_0, cP2_1, fP2_0, fP2_1, zP2⟩ := blk2 hP2
          obtain ⟨cQ2_0, cQ2_1, cQ2_2, cQ2_3, cQ2_4, fQ2_0, fQ2_1, fQ2_2, fQ2_3, fQ2_4, zQ2⟩ := blk5 hQ2
          obtain ⟨cR2_0, cR2_1, cR2_2, fR2_0, fR2_1, fR2_2, zR2⟩ := blk3 hR2
          go_wp2_with fail
          refine (sRV_is _ HR.out).mono ?_; rintro E w3 ⟨rfl, hw3⟩
          have hP3 := blk_next hP2 hw3
          have hQ3 := blk_next hQ2 hw3
          have hR3 := blk_next hR2 hw3
          have hB3 := bel_next hB2 hw3
          obtain ⟨cP3_0, cP3_1, fP3_0, fP3_1, zP3⟩ := blk2 hP3
          obtain ⟨cQ3_0, cQ3_1, cQ3_2, cQ3_3, cQ3_4, fQ3_0, fQ3_1, fQ3_2, fQ3_3, fQ3_4, zQ3⟩ := blk5 hQ3
          obtain ⟨cR3_0, cR3_1, cR3_2, fR3_0, fR3_1, fR3_2, zR3⟩ := blk3 hR3
          go_wp2_with fail
          refine (sUB_is _ HU.out).mono ?_; rintro E w4 ⟨rfl, hw4⟩
          have hP4 := blk_next hP3 hw4
          have hQ4 := blk_next hQ3 hw4
          have hR4 := blk_next hR3 hw4
          have hB4 := bel_next hB3 hw4
          obtain ⟨cP4_0, cP4_1, fP4_0, fP4_1, zP4⟩ := blk2 hP4
          obtain ⟨cQ4_0, cQ4_1, cQ4_2, cQ4_3, cQ4_4, fQ4_0, fQ4_1, fQ4_2, fQ4_3, fQ4_4, zQ4⟩ := blk5 hQ4
          obtain ⟨cR4_0, cR4_1, cR4_2, fR4_0, fR4_1, fR4_2, zR4⟩ := blk3 hR4
          go_wp2
          go_ret
          exact ⟨rfl, hB4⟩
set_option maxHeartbeats 4000000 in
theorem sHF_t (pe pn a b c d h re rn ru : Int) (w : World) (hv : hfB pe pn a b c d h re rn ru = true) :
    Calls Try.prog 31 #[.agg #[.int .i64 pe, .int .i64 pn], .agg #[.int .i64 a, .int .i64 b, .int .i64 c, .int .i64 d, .int .i64 h], .agg #[.int .i64 re, .int .i64 rn, .int .i64 ru]] w fun E w' => ∃ m : Int, E = .returned (.int .i64 m) ∧ HfIs pe pn a b c d re rn ru m ∧ Below w.heap.size w w' := by
  unfold hfB at hv
  simp only [Bool.and_eq_true, Bool.not_eq_true'] at hv
  obtain ⟨hp, hb, hr, hu⟩ := hv
  have HP := Lib.hid hp
  have HB := Lib.hid hb
  have HR := Lib.hid hr
  have HU := Lib.hid hu
  clear hp hb hr hu
  go_enter Try.func31, Try.ntmps31
  go_wp2_with fail
  refine (sPV_is _ HP.out).mono ?_; rintro E w1 ⟨rfl, hw1⟩
  obtain ⟨hP1, hQ1, hR1, hB1⟩ := ownb3 hw1
  obtain ⟨cP1_0, cP1_1, fP1_0, fP1_1, zP1⟩ := blk2 hP1
  obtain ⟨cQ1_0, cQ1_1, cQ1_2, cQ1_3, cQ1_4, fQ1_0, fQ1_1, fQ1_2, fQ1_3, fQ1_4, zQ1⟩ := blk5 hQ1
  obtain ⟨cR1_0, cR1_1, cR1_2, fR1_0, fR1_1, fR1_2, zR1⟩ := blk3 hR1
  go_wp2_with fail
  refine (sBV_is _ HB.out).mono ?_; rintro E w2 ⟨rfl, hw2⟩
  have hP2 := blk_next hP1 hw2
  have hQ2 := blk_next hQ1 hw2
  have hR2 := blk_next hR1 hw2
  have hB2 := bel_next hB1 hw2
  obtain ⟨cP2_0, cP2_1, fP2_0, fP2_1, zP2⟩ := blk2 hP2
  obtain ⟨cQ2_0, cQ2_1, cQ2_2, cQ2_3, cQ2_4, fQ2_0, fQ2_1, fQ2_2, fQ2_3, fQ2_4, zQ2⟩ := blk5 hQ2
  obtain ⟨cR2_0, cR2_1, cR2_2, fR2_0, fR2_1, fR2_2, zR2⟩ := blk3 hR2
  go_wp2_with fail
  refine (sRV_is _ HR.out).mono ?_; rintro E w3 ⟨rfl, hw3⟩
  have hP3 := blk_next hP2 hw3
  have hQ3 := blk_next hQ2 hw3
  have hR3 := blk_next hR2 hw3
  have hB3 := bel_next hB2 hw3
  obtain ⟨cP3_0, cP3_1, fP3_0, fP3_1, zP3⟩ := blk2 hP3
  obtain ⟨cQ3_0, cQ3_1, cQ3_2, cQ3_3, cQ3_4, fQ3_0, fQ3_1, fQ3_2, fQ3_3, fQ3_4, zQ3⟩ := blk5 hQ3
  obtain ⟨cR3_0, cR3_1, cR3_2, fR3_0, fR3_1, fR3_2, zR3⟩ := blk3 hR3
  go_wp2_with fail
  refine (sUB_is _ HU.out).mono ?_; rintro E w4 ⟨rfl, hw4⟩
  have hP4 := blk_next hP3 hw4
  have hQ4 := blk_next hQ3 hw4
  have hR4 := blk_next hR3 hw4
  have hB4 := bel_next hB3 hw4
  obtain ⟨cP4_0, cP4_1, fP4_0, fP4_1, zP4⟩ := blk2 hP4
  obtain ⟨cQ4_0, cQ4_1, cQ4_2, cQ4_3, cQ4_4, fQ4_0, fQ4_1, fQ4_2, fQ4_3, fQ4_4, zQ4⟩ := blk5 hQ4
  obtain ⟨cR4_0, cR4_1, cR4_2, fR4_0, fR4_1, fR4_2, zR4⟩ := blk3 hR4
  go_wp2_with fail
  go_loopw [7, 8] (fun s7 s8 wr => ∃ k m hq : Int, 1 ≤ k ∧ k ≤ 31 ∧ s8 = .int .i64 k ∧ s7 = .int .i64 m ∧ Hid (HfTo pe pn a b c d re rn ru m k) ∧ wr.heap[w.heap.size]? = some (.cells #[.int .i64 pe, .int .i64 pn] 24 (0, 0)) ∧ wr.heap[w.heap.size + 1]? = some (.cells #[.int .i64 a, .int .i64 b, .int .i64 c, .int .i64 d, .int .i64 hq] 26 (0, 0)) ∧ wr.heap[w.heap.size + 1 + 1]? = some (.cells #[.int .i64 re, .int .i64 rn, .int .i64 ru] 28 (0, 0)) ∧ Below w.heap.size w wr) (fun _ s8 _ => (31 - intOf s8).toNat)
  case atStart => exact ⟨1, 0, h, by omega, by omega, rfl, rfl, Lib.hid (HfTo.start _ _ _ _ _ _ _ _ _), hP4, hQ4, hR4, hB4⟩
  case round =>
    obtain ⟨k, m, hq, k0, k1, rfl, rfl, HT, hP, hQ, hR, hB⟩ := hrel
    by_cases hlt : k ≤ 30
    · obtain ⟨q0, q1, q2, q3, q4, f0, f1, f2, f3, f4, zq⟩ := blk5 hQ
      have hQ2 := blk_at 4 (.int .i64 k) _ hQ
      simp only [List.setIfInBounds_toArray, List.set_cons_succ, List.set_cons_zero] at hQ2
      have hP2 := blk_far (i := 4) hP (show w.heap.size ≠ w.heap.size + 1 by omega) (.int .i64 k)
      have hR2 := blk_far (i := 4) hR (show w.heap.size + 1 + 1 ≠ w.heap.size + 1 by omega) (.int .i64 k)
      have hB2 := hB.setCell (p := ⟨w.heap.size + 1, 4, none⟩) (by show w.heap.size ≤ w.heap.size + 1; omega) (.int .i64 k)
      obtain ⟨p0, p1, _, _, zp⟩ := blk2 hP
      obtain ⟨r0, r1, r2, _, _, _, zr⟩ := blk3 hR
      obtain ⟨v, hv⟩ : ∃ v, shB pe pn a b c d k re rn ru = v := ⟨_, rfl⟩
      have HV := Lib.hid hv
      clear hv
      go_wp2_with fail
      refine (sSh_is _ HV.out).mono ?_; rintro E w7 ⟨rfl, hw7⟩
      have hP7 := blk_next hP2 hw7
      have hQ7 := blk_next hQ2 hw7
      have hR7 := blk_next hR2 hw7
      have hB7 := bel_next hB2 hw7
      clear hP hQ hR hP2 hQ2 hR2
      cases v
      · go_wp2_with fail
        go_roundw
        case rel => exact ⟨k + 1, k, k, by omega, by omega, rfl, rfl, Lib.hid (HT.out.lit hlt HV.out), hP7, hQ7, hR7, hB7⟩
        case measure => simp [intOf]; omega
      · go_wp2_with fail
        go_roundw
        case rel => exact ⟨k + 1, m, k, by omega, by omega, rfl, rfl, Lib.hid (HT.out.dark HV.out), hP7, hQ7, hR7, hB7⟩
        case measure => simp [intOf]; omega
    · obtain rfl : k = 31 := by omega
      go_wp2_with fail
      go_ret
      exact ⟨m, rfl, HT.out.all, hB⟩
set_option maxHeartbeats 4000000 in
theorem iLU_f (pe pn a b c d h re rn : Int) (w : World) (hv : luB pe pn a b c d h re rn = false) :
    Calls Try.prog 27 #[.agg #[.int .i64 pe, .int .i64 pn], .agg #[.int .i64 a, .int .i64 b, .int .i64 c, .int .i64 d, .int .i64 h], .int .i64 re, .int .i64 rn] w fun E w' => E = .returned (.int .i64 (-1)) ∧ Below w.heap.size w w' := by
  cases hp : plB pe pn
  · clear hv
    have HP := Lib.hid hp
    clear hp
    go_enter Try.func27, Try.ntmps27
    go_wp2_with fail
    refine (iPV_is _ HP.out).mono ?_; rintro E w1 ⟨rfl, hw1⟩
    obtain ⟨hP1, hQ1, hB1⟩ := ownb2 hw1
    obtain ⟨cP1_0, cP1_1, fP1_0, fP1_1, zP1⟩ := blk2 hP1
    obtain ⟨cQ1_0, cQ1_1, cQ1_2, cQ1_3, cQ1_4, fQ1_0, fQ1_1, fQ1_2, fQ1_3, fQ1_4, zQ1⟩ := blk5 hQ1
    go_wp2
    go_ret
    exact ⟨rfl, hB1⟩
  · skip
    cases hb : blB a b c d h
    · clear hv
      have HP := Lib.hid hp
      have HB := Lib.hid hb
      clear hp hb
      go_enter Try.func27, Try.ntmps27
      go_wp2_with fail
      refine (iPV_is _ HP.out).mono ?_; rintro E w1 ⟨rfl, hw1⟩
      obtain ⟨hP1, hQ1, hB1⟩ := ownb2 hw1
      obtain ⟨cP1_0, cP1_1, fP1_0, fP1_1, zP1⟩ := blk2 hP1
      obtain ⟨cQ1_0, cQ1_1, cQ1_2, cQ1_3, cQ1_4, fQ1_0, fQ1_1, fQ1_2, fQ1_3, fQ1_4, zQ1⟩ := blk5 hQ1
      go_wp2_with fail
      refine (iBV_is _ HB.out).mono ?_; rintro E w2 ⟨rfl, hw2⟩
      have hP2 := blk_next hP1 hw2
      have hQ2 := blk_next hQ1 hw2
      have hB2 := bel_next hB1 hw2
      obtain ⟨cP2_0, cP2_1, fP2_0, fP2_1, zP2⟩ := blk2 hP2
      obtain ⟨cQ2_0, cQ2_1, cQ2_2, cQ2_3, cQ2_4, fQ2_0, fQ2_1, fQ2_2, fQ2_3, fQ2_4, zQ2⟩ := blk5 hQ2
      go_wp2
      go_ret
      exact ⟨rfl, hB2⟩
    · skip
      cases hr : ryB re rn 1
      · clear hv
        have HP := Lib.hid hp
        have HB := Lib.hid hb
        have HR := Lib.hid hr
        clear hp hb hr
        go_enter Try.func27, Try.ntmps27
        go_wp2_with fail
        refine (iPV_is _ HP.out).mono ?_; rintro E w1 ⟨rfl, hw1⟩
        obtain ⟨hP1, hQ1, hB1⟩ := ownb2 hw1
        obtain ⟨cP1_0, cP1_1, fP1_0, fP1_1, zP1⟩ := blk2 hP1
        obtain ⟨cQ1_0, cQ1_1, cQ1_2, cQ1_3, cQ1_4, fQ1_0, fQ1_1, fQ1_2, fQ1_3, fQ1_4, zQ1⟩ := blk5 hQ1
        go_wp2_with fail
        refine (iBV_is _ HB.out).mono ?_; rintro E w2 ⟨rfl, hw2⟩
        have hP2 := blk_next hP1 hw2
        have hQ2 := blk_next hQ1 hw2
        have hB2 := bel_next hB1 hw2
        obtain ⟨cP2_0, cP2_1, fP2_0, fP2_1, zP2⟩ := blk2 hP2
        obtain ⟨cQ2_0, cQ2_1, cQ2_2, cQ2_3, cQ2_4, fQ2_0, fQ2_1, fQ2_2, fQ2_3, fQ2_4, zQ2⟩ := blk5 hQ2
        go_wp2_with fail
        refine (iRV_is _ HR.out).mono ?_; rintro E w3 ⟨rfl, hw3⟩
        have hP3 := blk_next hP2 hw3
        have hQ3 := blk_next hQ2 hw3
        have hB3 := bel_next hB2 hw3
        obtain ⟨cP3_0, cP3_1, fP3_0, fP3_1, zP3⟩ := blk2 hP3
        obtain ⟨cQ3_0, cQ3_1, cQ3_2, cQ3_3, cQ3_4, fQ3_0, fQ3_1, fQ3_2, fQ3_3, fQ3_4, zQ3⟩ := blk5 hQ3
        go_wp2
        go_ret
        exact ⟨rfl, hB3⟩
      · exfalso; unfold luB at hv; rw [hp, hb, hr] at hv; cases hv
set_option maxHeartbeats 4000000 in
theorem iLU_t (pe pn a b c d h re rn : Int) (w : World) (hv : luB pe pn a b c d h re rn = true) :
    Calls Try.prog 27 #[.agg #[.int .i64 pe, .int .i64 pn], .agg #[.int .i64 a, .int .i64 b, .int .i64 c, .int .i64 d, .int .i64 h], .int .i64 re, .int .i64 rn] w fun E w' => ∃ m : Int, E = .returned (.int .i64 m) ∧ LuIs pe pn a b c d h re rn m ∧ Below w.heap.size w w' := by
  unfold luB at hv
  simp only [Bool.and_eq_true] at hv
  obtain ⟨hp, hb, hr⟩ := hv
  have HP := Lib.hid hp
  have HB := Lib.hid hb
  have HR := Lib.hid hr
  clear hp hb hr
  go_enter Try.func27, Try.ntmps27
  go_wp2_with fail
  refine (iPV_is _ HP.out).mono ?_; rintro E w1 ⟨rfl, hw1⟩
  obtain ⟨hP1, hQ1, hB1⟩ := ownb2 hw1
  obtain ⟨cP1_0, cP1_1, fP1_0, fP1_1, zP1⟩ := blk2 hP1
  obtain ⟨cQ1_0, cQ1_1, cQ1_2, cQ1_3, cQ1_4, fQ1_0, fQ1_1, fQ1_2, fQ1_3, fQ1_4, zQ1⟩ := blk5 hQ1
  go_wp2_with fail
  refine (iBV_is _ HB.out).mono ?_; rintro E w2 ⟨rfl, hw2⟩
  have hP2 := blk_next hP1 hw2
  have hQ2 := blk_next hQ1 hw2
  have hB2 := bel_next hB1 hw2
  obtain ⟨cP2_0, cP2_1, fP2_0, fP2_1, zP2⟩ := blk2 hP2
  obtain ⟨cQ2_0, cQ2_1, cQ2_2, cQ2_3, cQ2_4, fQ2_0, fQ2_1, fQ2_2, fQ2_3, fQ2_4, zQ2⟩ := blk5 hQ2
  go_wp2_with fail
  refine (iRV_is _ HR.out).mono ?_; rintro E w3 ⟨rfl, hw3⟩
  have hP3 := blk_next hP2 hw3
  have hQ3 := blk_next hQ2 hw3
  have hB3 := bel_next hB2 hw3
  obtain ⟨cP3_0, cP3_1, fP3_0, fP3_1, zP3⟩ := blk2 hP3
  obtain ⟨cQ3_0, cQ3_1, cQ3_2, cQ3_3, cQ3_4, fQ3_0, fQ3_1, fQ3_2, fQ3_3, fQ3_4, zQ3⟩ := blk5 hQ3
  go_wp2_with fail
  go_loopw [9] (fun s9 wr => ∃ k : Int, 1 ≤ k ∧ k ≤ 21 ∧ s9 = .int .i64 k ∧ Hid (∀ n : Int, 1 ≤ n → n < k → shB pe pn a b c d h re rn n = true) ∧ wr.heap[w.heap.size]? = some (.cells #[.int .i64 pe, .int .i64 pn] 24 (0, 0)) ∧ wr.heap[w.heap.size + 1]? = some (.cells #[.int .i64 a, .int .i64 b, .int .i64 c, .int .i64 d, .int .i64 h] 26 (0, 0)) ∧ Below w.heap.size w wr) (fun s9 _ => (21 - intOf s9).toNat)
  case atStart => exact ⟨1, by omega, by omega, rfl, Lib.hid (fun n h1 h2 => by omega), hP3, hQ3, hB3⟩
  case round =>
    obtain ⟨k, k0, k1, rfl, HT, hP, hQ, hB⟩ := hrel
    by_cases hlt : k ≤ 20
    · obtain ⟨p0, p1, _, _, zp⟩ := blk2 hP
      obtain ⟨q0, q1, q2, q3, q4, _, _, _, _, _, zq⟩ := blk5 hQ
      obtain ⟨v, hv⟩ : ∃ v, shB pe pn a b c d h re rn k = v := ⟨_, rfl⟩
      have HV := Lib.hid hv
      clear hv
      go_wp2_with fail
      refine (iSh_is _ HV.out).mono ?_; rintro E w7 ⟨rfl, hw7⟩
      have hP7 := blk_next hP hw7
      have hQ7 := blk_next hQ hw7
      have hB7 := bel_next hB hw7
      cases v
      · go_wp2_with fail
        go_ret
        exact ⟨_, rfl, LuIs.first k0 hlt HT.out HV.out, hB7⟩
      · go_wp2_with fail
        go_roundw
        case rel => exact ⟨k + 1, by omega, by omega, rfl, Lib.hid (fun n h1 h2 => by by_cases e : n = k; rw [e]; exact HV.out; exact HT.out n h1 (by omega)), hP7, hQ7, hB7⟩
        case measure => simp [intOf]; omega
    · obtain rfl : k = 21 := by omega
      go_wp2_with fail
      go_ret
      exact ⟨-1, rfl, .inl ⟨rfl, fun n h1 h2 => HT.out n h1 (by omega)⟩, hB⟩
set_option maxHeartbeats 4000000 in
theorem sLU_f (pe pn a b c d h re rn : Int) (w : World) (hv : luB pe pn a b c d h re rn = false) :
    Calls Try.prog 28 #[.agg #[.int .i64 pe, .int .i64 pn], .agg #[.int .i64 a, .int .i64 b, .int .i64 c, .int .i64 d, .int .i64 h], .int .i64 re, .int .i64 rn] w fun E w' => E = .returned (.int .i64 (-1)) ∧ Below w.heap.size w w' := by
  cases hp : plB pe pn
  · have HP := Lib.hid hp
    clear hv hp
    go_enter Try.func28, Try.ntmps28
    go_wp2_with fail
    go_loopw [9] (fun s9 wr => ∃ k : Int, 1 ≤ k ∧ k ≤ 21 ∧ s9 = .int .i64 k ∧ wr.heap[w.heap.size]? = some (.cells #[.int .i64 pe, .int .i64 pn] 24 (0, 0)) ∧ wr.heap[w.heap.size + 1]? = some (.cells #[.int .i64 a, .int .i64 b, .int .i64 c, .int .i64 d, .int .i64 h] 26 (0, 0)) ∧ Below w.heap.size w wr) (fun s9 _ => (21 - intOf s9).toNat)
    case atStart => exact ⟨1, by omega, by omega, rfl, blk_old (blk_new w _) _, new2 w _ _, bel2 w _ _⟩
    case round =>
      obtain ⟨k, k0, k1, rfl, hP, hQ, hB⟩ := hrel
      by_cases hlt : k ≤ 20
      · obtain ⟨p0, p1, _, _, zp⟩ := blk2 hP
        obtain ⟨q0, q1, q2, q3, q4, _, _, _, _, _, zq⟩ := blk5 hQ
        go_wp2_with fail
        refine (sPV_is _ HP.out).mono ?_; rintro E wx ⟨rfl, hwx⟩
        have hPx := blk_next hP hwx
        have hQx := blk_next hQ hwx
        have hBx := bel_next hB hwx
        obtain ⟨p0, p1, _, _, zp⟩ := blk2 hPx
        obtain ⟨q0, q1, q2, q3, q4, _, _, _, _, _, zq⟩ := blk5 hQx
        go_wp2_with fail
        go_ret
        exact ⟨rfl, hBx⟩
      · obtain rfl : k = 21 := by omega
        go_wp2_with fail
        go_ret
        exact ⟨rfl, hB⟩
  · cases hb : blB a b c d h
    · have HP := Lib.hid hp
      have HB := Lib.hid hb
      clear hv hp hb
      go_enter Try.func28, Try.ntmps28
      go_wp2_with fail
      go_loopw [9] (fun s9 wr => ∃ k : Int, 1 ≤ k ∧ k ≤ 21 ∧ s9 = .int .i64 k ∧ wr.heap[w.heap.size]? = some (.cells #[.int .i64 pe, .int .i64 pn] 24 (0, 0)) ∧ wr.heap[w.heap.size + 1]? = some (.cells #[.int .i64 a, .int .i64 b, .int .i64 c, .int .i64 d, .int .i64 h] 26 (0, 0)) ∧ Below w.heap.size w wr) (fun s9 _ => (21 - intOf s9).toNat)
      case atStart => exact ⟨1, by omega, by omega, rfl, blk_old (blk_new w _) _, new2 w _ _, bel2 w _ _⟩
      case round =>
        obtain ⟨k, k0, k1, rfl, hP, hQ, hB⟩ := hrel
        by_cases hlt : k ≤ 20
        · obtain ⟨p0, p1, _, _, zp⟩ := blk2 hP
          obtain ⟨q0, q1, q2, q3, q4, _, _, _, _, _, zq⟩ := blk5 hQ
          go_wp2_with fail
          refine (sPV_is _ HP.out).mono ?_; rintro E wx ⟨rfl, hwx⟩
          have hPx := blk_next hP hwx
          have hQx := blk_next hQ hwx
          have hBx := bel_next hB hwx
          obtain ⟨p0, p1, _, _, zp⟩ := blk2 hPx
          obtain ⟨q0, q1, q2, q3, q4, _, _, _, _, _, zq⟩ := blk5 hQx
          go_wp2_with fail
          refine (sBV_is _ HB.out).mono ?_; rintro E wy ⟨rfl, hwy⟩
          have hPy := blk_next hPx hwy
          have hQy := blk_next hQx hwy
          have hBy := bel_next hBx hwy
          obtain ⟨p0, p1, _, _, zp⟩ := blk2 hPy
          obtain ⟨q0, q1, q2, q3, q4, _, _, _, _, _, zq⟩ := blk5 hQy
          go_wp2_with fail
          go_ret
          exact ⟨rfl, hBy⟩
        · obtain rfl : k = 21 := by omega
          go_wp2_with fail
          go_ret
          exact ⟨rfl, hB⟩
    · have hr : ryB re rn 1 = false := by unfold luB at hv; rw [hp, hb] at hv; exact hv
      have HR : Hid (∀ v, ryB re rn v = false) := Lib.hid (fun v => ryB_out hr (by omega) (by omega))
      have HP := Lib.hid hp
      have HB := Lib.hid hb
      clear hv hp hb hr
      go_enter Try.func28, Try.ntmps28
      go_wp2_with fail
      go_loopw [9] (fun s9 wr => ∃ k : Int, 1 ≤ k ∧ k ≤ 21 ∧ s9 = .int .i64 k ∧ wr.heap[w.heap.size]? = some (.cells #[.int .i64 pe, .int .i64 pn] 24 (0, 0)) ∧ wr.heap[w.heap.size + 1]? = some (.cells #[.int .i64 a, .int .i64 b, .int .i64 c, .int .i64 d, .int .i64 h] 26 (0, 0)) ∧ Below w.heap.size w wr) (fun s9 _ => (21 - intOf s9).toNat)
      case atStart => exact ⟨1, by omega, by omega, rfl, blk_old (blk_new w _) _, new2 w _ _, bel2 w _ _⟩
      case round =>
        obtain ⟨k, k0, k1, rfl, hP, hQ, hB⟩ := hrel
        by_cases hlt : k ≤ 20
        · obtain ⟨p0, p1, _, _, zp⟩ := blk2 hP
          obtain ⟨q0, q1, q2, q3, q4, _, _, _, _, _, zq⟩ := blk5 hQ
          go_wp2_with fail
          refine (sPV_is _ HP.out).mono ?_; rintro E wx ⟨rfl, hwx⟩
          have hPx := blk_next hP hwx
          have hQx := blk_next hQ hwx
          have hBx := bel_next hB hwx
          obtain ⟨p0, p1, _, _, zp⟩ := blk2 hPx
          obtain ⟨q0, q1, q2, q3, q4, _, _, _, _, _, zq⟩ := blk5 hQx
          go_wp2_with fail
          refine (sBV_is _ HB.out).mono ?_; rintro E wy ⟨rfl, hwy⟩
          have hPy := blk_next hPx hwy
          have hQy := blk_next hQx hwy
          have hBy := bel_next hBx hwy
          obtain ⟨p0, p1, _, _, zp⟩ := blk2 hPy
          obtain ⟨q0, q1, q2, q3, q4, _, _, _, _, _, zq⟩ := blk5 hQy
          go_wp2_with fail
          refine (sRV_is _ (HR.out k)).mono ?_; rintro E wz ⟨rfl, hwz⟩
          have hPz := blk_next (blk_old hPy _) hwz
          have hQz := blk_next (blk_old hQy _) hwz
          have hRz := blk_next (blk_new wy _) hwz
          have hBz := bel_next (hBy.alloc hBy.size _) hwz
          obtain ⟨t0, t1, t2, _, _, _, zt⟩ := blk3 hRz
          obtain ⟨p0, p1, _, _, zp⟩ := blk2 hPz
          obtain ⟨q0, q1, q2, q3, q4, _, _, _, _, _, zq⟩ := blk5 hQz
          go_wp2_with fail
          go_roundw
          case rel => exact ⟨k + 1, by omega, by omega, rfl, hPz, hQz, hBz⟩
          case measure => simp [intOf]; omega
        · obtain rfl : k = 21 := by omega
          go_wp2_with fail
          go_ret
          exact ⟨rfl, hB⟩
set_option maxHeartbeats 4000000 in
theorem sLU_t (pe pn a b c d h re rn : Int) (w : World) (hv : luB pe pn a b c d h re rn = true) :
    Calls Try.prog 28 #[.agg #[.int .i64 pe, .int .i64 pn], .agg #[.int .i64 a, .int .i64 b, .int .i64 c, .int .i64 d, .int .i64 h], .int .i64 re, .int .i64 rn] w fun E w' => ∃ m : Int, E = .returned (.int .i64 m) ∧ LuIs pe pn a b c d h re rn m ∧ Below w.heap.size w w' := by
  unfold luB at hv
  simp only [Bool.and_eq_true] at hv
  obtain ⟨hp, hb, hr⟩ := hv
  have HP := Lib.hid hp
  have HB := Lib.hid hb
  have HR := Lib.hid hr
  clear hp hb hr
  go_enter Try.func28, Try.ntmps28
  go_wp2_with fail
  go_loopw [9] (fun s9 wr => ∃ k : Int, 1 ≤ k ∧ k ≤ 21 ∧ s9 = .int .i64 k ∧ Hid (∀ n : Int, 1 ≤ n → n < k → shB pe pn a b c d h re rn n = true) ∧ wr.heap[w.heap.size]? = some (.cells #[.int .i64 pe, .int .i64 pn] 24 (0, 0)) ∧ wr.heap[w.heap.size + 1]? = some (.cells #[.int .i64 a, .int .i64 b, .int .i64 c, .int .i64 d, .int .i64 h] 26 (0, 0)) ∧ Below w.heap.size w wr) (fun s9 _ => (21 - intOf s9).toNat)
  case atStart => exact ⟨1, by omega, by omega, rfl, Lib.hid (fun n h1 h2 => by omega), blk_old (blk_new w _) _, new2 w _ _, bel2 w _ _⟩
  case round =>
    obtain ⟨k, k0, k1, rfl, HT, hP, hQ, hB⟩ := hrel
    by_cases hlt : k ≤ 20
    · obtain ⟨p0, p1, _, _, zp⟩ := blk2 hP
      obtain ⟨q0, q1, q2, q3, q4, _, _, _, _, _, zq⟩ := blk5 hQ
      obtain ⟨v, hv⟩ : ∃ v, shB pe pn a b c d h re rn k = v := ⟨_, rfl⟩
      have HV := Lib.hid hv
      clear hv
      go_wp2_with fail
      refine (sPV_is _ HP.out).mono ?_; rintro E wx ⟨rfl, hwx⟩
      have hPx := blk_next hP hwx
      have hQx := blk_next hQ hwx
      have hBx := bel_next hB hwx
      obtain ⟨p0, p1, _, _, zp⟩ := blk2 hPx
      obtain ⟨q0, q1, q2, q3, q4, _, _, _, _, _, zq⟩ := blk5 hQx
      go_wp2_with fail
      refine (sBV_is _ HB.out).mono ?_; rintro E wy ⟨rfl, hwy⟩
      have hPy := blk_next hPx hwy
      have hQy := blk_next hQx hwy
      have hBy := bel_next hBx hwy
      obtain ⟨p0, p1, _, _, zp⟩ := blk2 hPy
      obtain ⟨q0, q1, q2, q3, q4, _, _, _, _, _, zq⟩ := blk5 hQy
      go_wp2_with fail
      refine (sRV_is _ (ryB_at HR.out k0 hlt)).mono ?_; rintro E wz ⟨rfl, hwz⟩
      have hPz := blk_next (blk_old hPy _) hwz
      have hQz := blk_next (blk_old hQy _) hwz
      have hRz := blk_next (blk_new wy _) hwz
      have hBz := bel_next (hBy.alloc hBy.size _) hwz
      obtain ⟨t0, t1, t2, _, _, _, zt⟩ := blk3 hRz
      obtain ⟨p0, p1, _, _, zp⟩ := blk2 hPz
      obtain ⟨q0, q1, q2, q3, q4, _, _, _, _, _, zq⟩ := blk5 hQz
      go_wp2_with fail
      refine (sSh_is _ HV.out).mono ?_; rintro E w7 ⟨rfl, hw7⟩
      have hP7 := blk_next hPz hw7
      have hQ7 := blk_next hQz hw7
      have hB7 := bel_next hBz hw7
      cases v
      · go_wp2_with fail
        go_ret
        exact ⟨_, rfl, LuIs.first k0 hlt HT.out HV.out, hB7⟩
      · go_wp2_with fail
        go_roundw
        case rel => exact ⟨k + 1, by omega, by omega, rfl, Lib.hid (fun n h1 h2 => by by_cases e : n = k; rw [e]; exact HV.out; exact HT.out n h1 (by omega)), hP7, hQ7, hB7⟩
        case measure => simp [intOf]; omega
    · obtain rfl : k = 21 := by omega
      go_wp2_with fail
      go_ret
      exact ⟨-1, rfl, .inl ⟨rfl, fun n h1 h2 => HT.out n h1 (by omega)⟩, hB⟩
end Go.Proofs.Ytlahjgjjebkpjab
