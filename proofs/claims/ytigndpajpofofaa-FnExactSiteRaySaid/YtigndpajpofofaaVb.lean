/- Contracts of chapter 5: the model's sides of intervals; lists of intervals. -/
import Derived.Test.YtigndpajpofofaaVs
import Derived.Test.YtigndpajpofofaaIl
namespace Go.Proofs.Ytigndpajpofofaa
open Go Go.ChangeShapes Go.WideShapes Go.ChangeAt Go.RowKit
set_option linter.unusedSimpArgs false
set_option linter.unusedVariables false

def lo5 (p r lo hi : Int) : Int := if 0 < r then lo - p else if r < 0 then p - hi else 0
def hi5 (p r lo hi : Int) : Int := if 0 < r then hi - p else if r < 0 then p - lo else 0
def de5 (r : Int) : Int := if 0 < r then r else if r < 0 then -r else 0
def ok5 (p r lo hi : Int) : Bool := if 0 < r then true else if r < 0 then true else decide (lo ≤ p ∧ p ≤ hi)
theorem lo5_eq {p r lo hi : Int} (h : r ≠ 0) : lo5 p r lo hi = sN p r lo hi := by
  unfold lo5 sN
  by_cases g1 : 0 < r
  · simp only [if_pos g1]
  · have g2 : r < 0 := by omega
    simp only [if_neg g1, if_pos g2]
theorem hi5_eq {p r lo hi : Int} (h : r ≠ 0) : hi5 p r lo hi = eN p r lo hi := by
  unfold hi5 eN
  by_cases g1 : 0 < r
  · simp only [if_pos g1]
  · have g2 : r < 0 := by omega
    simp only [if_neg g1, if_pos g2]
theorem de5_eq {r : Int} (h : r ≠ 0) : de5 r = dN r := by
  unfold de5 dN
  by_cases g1 : 0 < r
  · simp only [if_pos g1]
  · have g2 : r < 0 := by omega
    simp only [if_neg g1, if_pos g2]
theorem ok5_eq {p r lo hi : Int} (h : r ≠ 0) : ok5 p r lo hi = true := by
  unfold ok5
  by_cases g1 : 0 < r
  · simp only [if_pos g1]
  · have g2 : r < 0 := by omega
    simp only [if_neg g1, if_pos g2]
theorem de5_zero : de5 0 = 0 := rfl
/-- An interval: its start and its end over a denominator. -/
abbrev Tri := Int × Int × Int
def addT (T : List Tri) (p r lo hi : Int) : List Tri := if r = 0 then T else T ++ [(sN p r lo hi, eN p r lo hi, dN r)]
def losT (T : List Tri) : List Int := T.map (·.1)
def hisT (T : List Tri) : List Int := T.map (·.2.1)
def desT (T : List Tri) : List Int := T.map (·.2.2)
def TOk (x : Tri) : Prop := (-100 ≤ x.1 ∧ x.1 ≤ 100) ∧ (-100 ≤ x.2.1 ∧ x.2.1 ≤ 100) ∧ (1 ≤ x.2.2 ∧ x.2.2 ≤ 20)
def AllT (T : List Tri) : Prop := ∀ x ∈ T, ∀ y ∈ T, Le x.1 x.2.2 y.2.1 y.2.2
theorem addT_ok {T : List Tri} {p r lo hi : Int} (hT : ∀ x ∈ T, TOk x) (h0 : -50 ≤ p) (h1 : p ≤ 50) (h2 : -50 ≤ lo) (h3 : lo ≤ 50) (h4 : -50 ≤ hi) (h5 : hi ≤ 50) (h6 : -20 ≤ r) (h7 : r ≤ 20) : ∀ x ∈ addT T p r lo hi, TOk x := by
  unfold addT; split
  · exact hT
  · intro x hx
    rw [List.mem_append] at hx
    rcases hx with hx | hx
    · exact hT x hx
    · simp only [List.mem_singleton] at hx; subst hx
      exact ⟨sN_bd h0 h1 h2 h3 h4 h5, eN_bd h0 h1 h2 h3 h4 h5, by have := dN_pos r; show 1 ≤ dN r; omega, dN_le h6 h7⟩
theorem addT_len {T : List Tri} {p r lo hi : Int} : T.length ≤ (addT T p r lo hi).length ∧ (addT T p r lo hi).length ≤ T.length + 1 := by unfold addT; split <;> simp
theorem addT_zero (T : List Tri) (p lo hi : Int) : addT T p 0 lo hi = T := by unfold addT; rw [if_pos rfl]
theorem addT_go {T : List Tri} {p r lo hi : Int} (h : r ≠ 0) : addT T p r lo hi = T ++ [(sN p r lo hi, eN p r lo hi, dN r)] := by unfold addT; rw [if_neg h]
theorem ok5_out {p lo hi : Int} (h : ok5 p 0 lo hi = false) : sN p 0 lo hi = 1 ∧ eN p 0 lo hi = 0 ∧ dN 0 = 1 := by
  unfold ok5 at h
  have h := of_decide_eq_false h
  unfold sN eN
  exact ⟨by rw [if_neg (by omega), if_neg (by omega), if_neg h], by rw [if_neg (by omega), if_neg (by omega), if_neg h], rfl⟩
theorem ok5_in {p lo hi : Int} (h : ok5 p 0 lo hi = true) : sN p 0 lo hi = 0 ∧ eN p 0 lo hi = 30 ∧ dN 0 = 1 := by
  unfold ok5 at h
  have h := of_decide_eq_true h
  unfold sN eN
  exact ⟨by rw [if_neg (by omega), if_neg (by omega), if_pos h], by rw [if_neg (by omega), if_neg (by omega), if_pos h], rfl⟩
theorem prM_f1 {pe pn a b c d h re rn ru : Int} (hk : ok5 pe re a b = false) : ¬ PrM pe pn a b c d h re rn ru := by
  by_cases hr : re = 0
  · subst hr
    obtain ⟨e1, e2, e3⟩ := ok5_out hk
    intro m
    have := m.1.1
    unfold Le at this; rw [e1, e2, e3] at this; omega
  · rw [ok5_eq hr] at hk; cases hk
theorem prM_f2 {pe pn a b c d h re rn ru : Int} (hk : ok5 pn rn c d = false) : ¬ PrM pe pn a b c d h re rn ru := by
  by_cases hr : rn = 0
  · subst hr
    obtain ⟨e1, e2, e3⟩ := ok5_out hk
    intro m
    have := m.2.1.2.1
    unfold Le at this; rw [e1, e2, e3] at this; omega
  · rw [ok5_eq hr] at hk; cases hk
def tri0 (h ru : Int) : List Tri := [(0, h, ru)]
def triAt (pe pn a b c d h re rn ru : Int) (k : Nat) : List Tri := if k = 0 then tri0 h ru else if k = 1 then addT (tri0 h ru) pe re a b else addT (addT (tri0 h ru) pe re a b) pn rn c d
theorem allT_snoc {T : List Tri} {x : Tri} : AllT (T ++ [x]) ↔ AllT T ∧ (∀ y ∈ T, Le x.1 x.2.2 y.2.1 y.2.2) ∧ (∀ y ∈ T, Le y.1 y.2.2 x.2.1 x.2.2) ∧ Le x.1 x.2.2 x.2.1 x.2.2 := by
  unfold AllT
  simp only [List.mem_append, List.mem_singleton]
  constructor
  · intro h
    exact ⟨fun u hu v hv => h u (.inl hu) v (.inl hv), fun y hy => h x (.inr rfl) y (.inl hy), fun y hy => h y (.inl hy) x (.inr rfl), h x (.inr rfl) x (.inr rfl)⟩
  · rintro ⟨h1, h2, h3, h4⟩ u hu v hv
    rcases hu with hu | rfl
    · rcases hv with hv | rfl
      · exact h1 u hu v hv
      · exact h3 u hu
    · rcases hv with hv | rfl
      · exact h2 v hv
      · exact h4
/-- A number that stays between its sides adds nothing. -/
theorem in_adds {s d h ru : Int} (hd : 0 < d) (hu : 1 ≤ ru) (hh : h ≤ 30) (hl : Le s d h ru) : Le s d 30 1 := by
  refine Le.trans hd (show 0 < ru by omega) (by omega) hl ?_
  unfold Le; have := Int.mul_le_mul_of_nonneg_left hu (show (0 : Int) ≤ 30 by omega); omega
theorem at_adds {e d ru : Int} (hd : 0 < d) (hu : 1 ≤ ru) (hl : Le 0 ru e d) : Le 0 1 e d := by
  unfold Le at *
  rw [Int.zero_mul] at *
  have h2 : 0 * ru ≤ e * ru := by rw [Int.zero_mul]; exact hl
  have := Int.le_of_mul_le_mul_right h2 (show 0 < ru by omega)
  rw [Int.mul_one]; exact this
theorem allT_iff {pe pn a b c d h re rn ru : Int} (h1 : 1 ≤ h) (hh : h ≤ 30) (hu : 1 ≤ ru) (k1 : ok5 pe re a b = true) (k2 : ok5 pn rn c d = true) :
    AllT (triAt pe pn a b c d h re rn ru 2) ↔ PrM pe pn a b c d h re rn ru := by
  have e0 : triAt pe pn a b c d h re rn ru 2 = addT (addT (tri0 h ru) pe re a b) pn rn c d := rfl
  have t0 : AllT (tri0 h ru) ↔ Le 0 ru h ru := by unfold AllT tri0; simp
  have z0 : Le 0 ru h ru := by unfold Le; have := Int.mul_nonneg (show 0 ≤ h by omega) (show 0 ≤ ru by omega); omega
  rw [e0]
  unfold PrM Prs
  by_cases hr : re = 0
  · subst hr
    obtain ⟨s1, s2, s3⟩ := ok5_in k1
    rw [addT_zero, s1, s2, s3]
    by_cases hn : rn = 0
    · subst hn
      obtain ⟨n1, n2, n3⟩ := ok5_in k2
      rw [addT_zero, n1, n2, n3, t0]
      have z1 : Le 0 1 h ru := by unfold Le; omega
      have z2 : Le 0 ru 30 1 := by unfold Le; omega
      have z3 : Le 0 1 30 1 := by unfold Le; omega
      exact ⟨fun _ => ⟨⟨z3, z3, z1⟩, ⟨z3, z3, z1⟩, ⟨z2, z2, z0⟩⟩, fun _ => z0⟩
    · have hd := dN_pos rn
      rw [addT_go hn, allT_snoc, t0]
      simp only [tri0, List.mem_singleton, forall_eq]
      have z1 : Le 0 1 h ru := by unfold Le; omega
      have z2 : Le 0 ru 30 1 := by unfold Le; omega
      have z3 : Le 0 1 30 1 := by unfold Le; omega
      exact ⟨fun ⟨_, a1, a2, a3⟩ => ⟨⟨z3, at_adds hd hu a2, z1⟩, ⟨in_adds hd hu hh a1, a3, a1⟩, ⟨z2, a2, z0⟩⟩, fun ⟨_, ⟨_, a3, a1⟩, ⟨_, a2, _⟩⟩ => ⟨z0, a1, a2, a3⟩⟩
  · have hd := dN_pos re
    rw [addT_go hr]
    by_cases hn : rn = 0
    · subst hn
      obtain ⟨n1, n2, n3⟩ := ok5_in k2
      rw [addT_zero, n1, n2, n3, allT_snoc, t0]
      simp only [tri0, List.mem_singleton, forall_eq]
      have z1 : Le 0 1 h ru := by unfold Le; omega
      have z2 : Le 0 ru 30 1 := by unfold Le; omega
      have z3 : Le 0 1 30 1 := by unfold Le; omega
      exact ⟨fun ⟨_, a1, a2, a3⟩ => ⟨⟨a3, in_adds hd hu hh a1, a1⟩, ⟨at_adds hd hu a2, z3, z1⟩, ⟨a2, z2, z0⟩⟩, fun ⟨⟨a3, _, a1⟩, _, ⟨a2, _, _⟩⟩ => ⟨z0, a1, a2, a3⟩⟩
    · rw [addT_go hn, allT_snoc, allT_snoc, t0]
      simp only [tri0, List.mem_append, List.mem_singleton, forall_eq_or_imp, forall_eq]
      exact ⟨fun ⟨⟨_, a1, a2, a3⟩, ⟨b1, b2⟩, ⟨c1, c2⟩, d1⟩ => ⟨⟨a3, c2, a1⟩, ⟨b2, d1, b1⟩, ⟨a2, c1, z0⟩⟩, fun ⟨⟨a3, c2, a1⟩, ⟨b2, d1, b1⟩, ⟨a2, c1, _⟩⟩ => ⟨⟨z0, a1, a2, a3⟩, ⟨b1, b2⟩, ⟨c1, c2⟩, d1⟩⟩
set_option maxHeartbeats 4000000 in
theorem side5_any (p r lo hi : Int) (w : World) (p0 : -100 ≤ p) (p1 : p ≤ 100) (r0 : -100 ≤ r) (r1 : r ≤ 100) (l0 : -100 ≤ lo) (l1 : lo ≤ 100) (h0 : -100 ≤ hi) (h1 : hi ≤ 100) :
    Calls Try.prog 89 #[.int .i64 p, .int .i64 r, .int .i64 lo, .int .i64 hi] w fun E w' => E = .returned (.tuple #[.int .i64 (lo5 p r lo hi), .int .i64 (hi5 p r lo hi), .int .i64 (de5 r), .bool (ok5 p r lo hi)]) ∧ w = w' := by
  by_cases g1 : 0 < r
  · have e1 : lo5 p r lo hi = lo - p := by unfold lo5; exact if_pos g1
    have e2 : hi5 p r lo hi = hi - p := by unfold hi5; exact if_pos g1
    have e3 : de5 r = r := by unfold de5; exact if_pos g1
    have e4 : ok5 p r lo hi = true := by unfold ok5; exact if_pos g1
    rw [e1, e2, e3, e4]; clear e1 e2 e3 e4
    go_enter Try.func89, Try.ntmps89
    go_wp2
    refine bodyPost_ret (v := .tuple #[.int .i64 _, .int .i64 _, .int .i64 _, .bool _]) (by simp [results, Try.results89, go_sem]; try exact ⟨rfl, rfl, rfl, rfl⟩) rfl ⟨rfl, rfl⟩
  · by_cases g2 : r < 0
    · have e1 : lo5 p r lo hi = p - hi := by unfold lo5; rw [if_neg g1, if_pos g2]
      have e2 : hi5 p r lo hi = p - lo := by unfold hi5; rw [if_neg g1, if_pos g2]
      have e3 : de5 r = -r := by unfold de5; rw [if_neg g1, if_pos g2]
      have e4 : ok5 p r lo hi = true := by unfold ok5; rw [if_neg g1, if_pos g2]
      rw [e1, e2, e3, e4]; clear e1 e2 e3 e4
      go_enter Try.func89, Try.ntmps89
      go_wp2
      refine bodyPost_ret (v := .tuple #[.int .i64 _, .int .i64 _, .int .i64 _, .bool _]) (by simp [results, Try.results89, go_sem]; try exact ⟨rfl, rfl, rfl, rfl⟩) rfl ⟨rfl, rfl⟩
    · obtain rfl : r = 0 := by omega
      have e1 : lo5 p 0 lo hi = 0 := rfl
      have e2 : hi5 p 0 lo hi = 0 := rfl
      have e3 : de5 0 = 0 := rfl
      by_cases g3 : lo ≤ p
      · by_cases g4 : p ≤ hi
        · have e4 : ok5 p 0 lo hi = true := by unfold ok5; simp; omega
          rw [e1, e2, e3, e4]; clear e1 e2 e3 e4
          go_enter Try.func89, Try.ntmps89
          go_wp2
          refine bodyPost_ret (v := .tuple #[.int .i64 _, .int .i64 _, .int .i64 _, .bool _]) (by simp [results, Try.results89, go_sem]; try exact ⟨rfl, rfl, rfl, rfl⟩) rfl ⟨rfl, rfl⟩
        · have e4 : ok5 p 0 lo hi = false := by unfold ok5; simp; omega
          rw [e1, e2, e3, e4]; clear e1 e2 e3 e4
          go_enter Try.func89, Try.ntmps89
          go_wp2
          refine bodyPost_ret (v := .tuple #[.int .i64 _, .int .i64 _, .int .i64 _, .bool _]) (by simp [results, Try.results89, go_sem]; try exact ⟨rfl, rfl, rfl, rfl⟩) rfl ⟨rfl, rfl⟩
      · have e4 : ok5 p 0 lo hi = false := by unfold ok5; simp; omega
        rw [e1, e2, e3, e4]; clear e1 e2 e3 e4
        go_enter Try.func89, Try.ntmps89
        go_wp2
        refine bodyPost_ret (v := .tuple #[.int .i64 _, .int .i64 _, .int .i64 _, .bool _]) (by simp [results, Try.results89, go_sem]; try exact ⟨rfl, rfl, rfl, rfl⟩) rfl ⟨rfl, rfl⟩
end Go.Proofs.Ytigndpajpofofaa
