/- The days that are long, and their draw: what the law asks. -/
import Derived.Test.YtbiajaafdbbmgadDl
import Derived.Test.YtbiajaafdbbmgadIs
import Derived.Test.YtbiajaafdbbmgadSd
namespace Go.Proofs.Ytbiajaafdbbmgad
open Go.ChangeShapes Go.WideShapes Go.ChangeAt Go.RowKit
set_option linter.unusedSimpArgs false
set_option linter.unusedVariables false

theorem fil_mem (p : Int → Bool) (n : Nat) (x : Int) : x ∈ fil p n ↔ 1 ≤ x ∧ x ≤ n ∧ p x = true := by
  induction n with
  | zero => simp [fil]; omega
  | succ n ih =>
    simp only [fil]
    split
    · rename_i h
      simp only [List.mem_append, List.mem_singleton, ih]
      constructor
      · rintro (h1 | rfl)
        · exact ⟨by omega, by omega, h1.2.2⟩
        · exact ⟨by omega, by omega, h⟩
      · rintro ⟨h1, h2, h3⟩
        by_cases e : x = (n : Int) + 1
        · exact .inr e
        · exact .inl ⟨h1, by omega, h3⟩
    · rename_i h
      rw [ih]
      constructor
      · rintro ⟨h1, h2, h3⟩; exact ⟨h1, by omega, h3⟩
      · rintro ⟨h1, h2, h3⟩
        refine ⟨h1, ?_, h3⟩
        by_cases e : x = (n : Int) + 1
        · rw [e] at h3; exact absurd h3 h
        · omega
theorem fil_mono {p q : Int → Bool} (h : ∀ x, q x = true → p x = true) (n : Nat) : (fil q n).length ≤ (fil p n).length := by
  induction n with
  | zero => simp [fil]
  | succ n ih =>
    simp only [fil]
    split
    · rename_i hq
      rw [if_pos (h _ hq)]; simp; exact ih
    · split
      · simp; omega
      · exact ih
theorem fil_asc (p : Int → Bool) (n : Nat) : Asc (fil p n) := by
  induction n with
  | zero => intro i h; simp [fil] at h
  | succ n ih =>
    simp only [fil]
    split
    · intro i h
      simp only [List.length_append, List.length_singleton] at h
      by_cases e : i + 1 < (fil p n).length
      · rw [List.getElem_append_left (by omega), List.getElem_append_left e]; exact ih i e
      · have e2 : i + 1 = (fil p n).length := by omega
        rw [List.getElem_append_left (by omega), List.getElem_append_right (by omega)]
        have := ((fil_mem p n (fil p n)[i]).1 (List.getElem_mem (by omega))).2.1
        simp; omega
    · exact ih
theorem days_has {l least d : Int} (hl : latB l = true) (h0 : 1 ≤ d) (h1 : d ≤ 365) : hasB (daysL l least) d = daysP l least d := by
  unfold hasB daysL
  rw [if_pos hl]
  rw [Bool.eq_iff_iff]
  simp only [decide_eq_true_eq]
  rw [fil_mem]
  exact ⟨fun h => h.2.2, fun h => ⟨h0, by omega, h⟩⟩
theorem days_less (l least : Int) : (daysL l (least + 20)).length ≤ (daysL l least).length := by
  unfold daysL
  split
  · refine fil_mono (fun x h => ?_) 365
    unfold daysP at *; simp at *; omega
  · simp
theorem days_asc (l least : Int) : Asc (daysL l least) := by
  unfold daysL
  split
  · exact fil_asc _ _
  · intro i h; simp at h
theorem drDaysLong_any (a : Option Addr) (len cap : Nat) (w : World) (h : CodeOk w a len cap) : Calls Try.prog 16 #[.slice a len cap] w fun e w' => ∃ l n : Int, e = .returned (.tuple #[.int .i64 l, .int .i64 n]) ∧ -100 ≤ l ∧ l ≤ 100 ∧ -10 ≤ n ∧ n ≤ 400 ∧ Below w.heap.size w w' := by
  go_enter Try.func16, Try.ntmps16
  go_wp2_with fail
  refine (open_any _ _ _ _ h).mono ?_; rintro e w1 ⟨B, rfl, hB, h1, hb1⟩
  go_wp2_with fail
  refine (sky_any B 0 _ h1 (by omega)).mono ?_; rintro e w2 ⟨l, t, rfl, l0, l1, t0, t1, h2, hx2⟩
  go_wp2_with fail
  refine (pick_any B _ 40 _ h2 (by omega) (by omega) (by omega)).mono ?_; rintro e w3 ⟨k, rfl, k0, k1, _, hx3⟩
  go_wp2
  go_ret2
  exact ⟨_, _, rfl, l0, l1, by omega, by omega, hb1.trans ((hx2.trans hx3).below hB hb1.size)⟩
end Go.Proofs.Ytbiajaafdbbmgad
