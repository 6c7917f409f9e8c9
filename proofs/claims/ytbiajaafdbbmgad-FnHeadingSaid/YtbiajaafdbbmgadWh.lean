/- Contracts of chapter 2: headings. -/
import Derived.Test.YtbiajaafdbbmgadWc
namespace Go.Proofs.Ytbiajaafdbbmgad
open Go.ChangeShapes Go.WideShapes Go.ChangeAt Go.RowKit
set_option linter.unusedSimpArgs false
set_option linter.unusedVariables false

def headP (a b : Int) (k : Int) : Bool := rlB (cosI k) (sinI k) a b
def HeadRet (a b : Int) (w : World) (e : Ending) (w' : World) : Prop := ∃ n : Int, e = .returned (.int .i64 n) ∧ HeadIs (headP a b) n ∧ Below w.heap.size w w'
/-- All angles below k are before. -/
def HeadLow (p : Int → Bool) (k : Int) : Prop := ∀ j, 0 ≤ j → j < k → p j = true
theorem HeadLow.zero (p : Int → Bool) : HeadLow p 0 := fun j h0 h1 => by omega
theorem HeadLow.next {p : Int → Bool} {k : Int} (h : HeadLow p k) (hk : p k = true) : HeadLow p (k + 1) := fun j h0 h1 => by
  by_cases e : j = k
  · subst e; exact hk
  · exact h j h0 (by omega)
set_option maxHeartbeats 4000000 in
theorem iHead_t (a b : Int) (w : World) (h : goB a b = true) : Calls Try.prog 43 #[.agg #[.int .i64 a, .int .i64 b]] w (HeadRet a b w) := by
  go_enter Try.func43, Try.ntmps43
  go_wp2_with fail
  refine (iGo_any _ _ _).mono ?_; rintro e w1 ⟨rfl, hw1⟩
  obtain ⟨hH, eB⟩ := ownb hw1
  obtain ⟨e0, e1, f0, f1, ez⟩ := blk2 hH
  go_wp2_with fail
  go_loopw [7] (fun i wr => ∃ k : Int, 0 ≤ k ∧ k ≤ 360 ∧ i = .int .i64 k ∧ wr.cell? ⟨w.heap.size, 0, none⟩ = some (.int .i64 a) ∧ wr.cell? ⟨w.heap.size, 1, none⟩ = some (.int .i64 b) ∧ w.heap.size < wr.heap.size ∧ Below w.heap.size w wr ∧ HeadLow (headP a b) k) (fun i _ => (360 - intOf i).toNat)
  case atStart => exact ⟨0, by omega, by omega, rfl, e0, e1, ez, eB, HeadLow.zero _⟩
  case round =>
    obtain ⟨k, k0, k1, rfl, c0, c1, hz, hB, hl⟩ := hrel
    by_cases hlt : k < 360
    · cases hp : rlB (cosI k) (sinI k) a b
      · go_wp2_with fail
        go_region_held3 (fun w' => w'.cell? ⟨w.heap.size, 0, none⟩ = some (.int .i64 a) ∧ w'.cell? ⟨w.heap.size, 1, none⟩ = some (.int .i64 b) ∧ w.heap.size < w'.heap.size ∧ Below w.heap.size w w')
          (first
            | assumption
            | (go_split_ands; exact keep2 (by assumption) (by assumption) (by assumption) (by assumption) hw)
            | exact ⟨c0, c1, hz, hB.drew⟩
            | (go_split_ands; refine ⟨?_, ?_, ?_, ?_⟩ <;> assumption))
          (first | (go_at_call 40; refine (iCos_any _ _).mono ?_; rintro e w' ⟨rfl, rfl⟩) | (go_at_call 36; refine (iSine_any _ _).mono ?_; rintro e w' ⟨rfl, rfl⟩) | (go_at_call 45; refine (iRL_any _ _ _ _ _).mono ?_; rintro e w' ⟨rfl, hw⟩))
        (rename_i hS; obtain ⟨d0, d1, dz, dB⟩ := hS)
        go_wp2_with fail
        go_ret
        exact ⟨k, rfl, .inl ⟨k0, hlt, hp, hl⟩, dB⟩
      · go_wp2_with fail
        go_region_held3 (fun w' => w'.cell? ⟨w.heap.size, 0, none⟩ = some (.int .i64 a) ∧ w'.cell? ⟨w.heap.size, 1, none⟩ = some (.int .i64 b) ∧ w.heap.size < w'.heap.size ∧ Below w.heap.size w w')
          (first
            | assumption
            | (go_split_ands; exact keep2 (by assumption) (by assumption) (by assumption) (by assumption) hw)
            | exact ⟨c0, c1, hz, hB.drew⟩
            | (go_split_ands; refine ⟨?_, ?_, ?_, ?_⟩ <;> assumption))
          (first | (go_at_call 40; refine (iCos_any _ _).mono ?_; rintro e w' ⟨rfl, rfl⟩) | (go_at_call 36; refine (iSine_any _ _).mono ?_; rintro e w' ⟨rfl, rfl⟩) | (go_at_call 45; refine (iRL_any _ _ _ _ _).mono ?_; rintro e w' ⟨rfl, hw⟩))
        (rename_i hS; obtain ⟨d0, d1, dz, dB⟩ := hS)
        go_wp2_with fail
        go_roundw
        case rel => exact ⟨k + 1, by omega, by omega, rfl, d0, d1, dz, dB, hl.next hp⟩
        case measure => simp [intOf]; omega
    · obtain rfl : k = 360 := by omega
      go_wp2_with fail
      go_ret
      exact ⟨0, rfl, .inr ⟨rfl, hl⟩, hB⟩
set_option maxHeartbeats 4000000 in
theorem sHead_t (a b : Int) (w : World) (h : goB a b = true) : Calls Try.prog 44 #[.agg #[.int .i64 a, .int .i64 b]] w (HeadRet a b w) := by
  have hv : wvB a b = true := wvB_iff.2 (goB_iff.1 h).1
  have hh := go_half h
  go_enter Try.func44, Try.ntmps44
  go_wp2_with fail
  refine (sWV_any _ _ _).mono ?_; rintro e w1 ⟨rfl, hw1⟩
  obtain ⟨hH1, hB1⟩ := ownb hw1
  obtain ⟨x0, x1, f0, f1, xz⟩ := blk2 hH1
  go_wp2_with fail
  refine (sHalf_any _ _ _).mono ?_; rintro e w2 ⟨rfl, hw2⟩
  have eB := bel_next hB1 hw2
  have hH := blk_next hH1 hw2
  obtain ⟨e0, e1, g0, g1, ez⟩ := blk2 hH
  go_wp2_with fail
  go_loopw [3] (fun i wr => ∃ k : Int, 0 ≤ k ∧ k ≤ 360 ∧ i = .int .i64 k ∧ wr.cell? ⟨w.heap.size, 0, none⟩ = some (.int .i64 a) ∧ wr.cell? ⟨w.heap.size, 1, none⟩ = some (.int .i64 b) ∧ w.heap.size < wr.heap.size ∧ Below w.heap.size w wr ∧ HeadLow (headP a b) k) (fun i _ => (360 - intOf i).toNat)
  case atStart => exact ⟨0, by omega, by omega, rfl, e0, e1, ez, eB, HeadLow.zero _⟩
  case round =>
    obtain ⟨k, k0, k1, rfl, c0, c1, hz, hB, hl⟩ := hrel
    by_cases hlt : k < 360
    · cases hp : rlB (cosI k) (sinI k) a b
      · go_wp2_with fail
        go_region_held3 (fun w' => w'.cell? ⟨w.heap.size, 0, none⟩ = some (.int .i64 a) ∧ w'.cell? ⟨w.heap.size, 1, none⟩ = some (.int .i64 b) ∧ w.heap.size < w'.heap.size ∧ Below w.heap.size w w')
          (first
            | assumption
            | (go_split_ands; exact keep2 (by assumption) (by assumption) (by assumption) (by assumption) hw)
            | exact ⟨c0, c1, hz, hB.drew⟩
            | (go_split_ands; refine ⟨?_, ?_, ?_, ?_⟩ <;> assumption))
          (first | (go_at_call 41; refine (sCos_any _ _).mono ?_; rintro e w' ⟨rfl, rfl⟩) | (go_at_call 37; refine (sSine_any _ _).mono ?_; rintro e w' ⟨rfl, rfl⟩) | (go_at_call 74; refine (sRL_any _ _ _ _ _).mono ?_; rintro e w' ⟨rfl, hw⟩))
        (rename_i hS; obtain ⟨d0, d1, dz, dB⟩ := hS)
        go_wp2_with fail
        go_ret
        exact ⟨k, rfl, .inl ⟨k0, hlt, hp, hl⟩, dB⟩
      · go_wp2_with fail
        go_region_held3 (fun w' => w'.cell? ⟨w.heap.size, 0, none⟩ = some (.int .i64 a) ∧ w'.cell? ⟨w.heap.size, 1, none⟩ = some (.int .i64 b) ∧ w.heap.size < w'.heap.size ∧ Below w.heap.size w w')
          (first
            | assumption
            | (go_split_ands; exact keep2 (by assumption) (by assumption) (by assumption) (by assumption) hw)
            | exact ⟨c0, c1, hz, hB.drew⟩
            | (go_split_ands; refine ⟨?_, ?_, ?_, ?_⟩ <;> assumption))
          (first | (go_at_call 41; refine (sCos_any _ _).mono ?_; rintro e w' ⟨rfl, rfl⟩) | (go_at_call 37; refine (sSine_any _ _).mono ?_; rintro e w' ⟨rfl, rfl⟩) | (go_at_call 74; refine (sRL_any _ _ _ _ _).mono ?_; rintro e w' ⟨rfl, hw⟩))
        (rename_i hS; obtain ⟨d0, d1, dz, dB⟩ := hS)
        go_wp2_with fail
        go_roundw
        case rel => exact ⟨k + 1, by omega, by omega, rfl, d0, d1, dz, dB, hl.next hp⟩
        case measure => simp [intOf]; omega
    · obtain rfl : k = 360 := by omega
      go_wp2_with fail
      go_ret
      exact ⟨0, rfl, .inr ⟨rfl, hl⟩, hB⟩
theorem iHead_f (a b : Int) (w : World) (h : goB a b = false) : Calls Try.prog 43 #[.agg #[.int .i64 a, .int .i64 b]] w fun e w' => e = .returned (.int .i64 (-1)) ∧ Below w.heap.size w w' := by
  go_enter Try.func43, Try.ntmps43
  go_wp2_with fail
  refine (iGo_any _ _ _).mono ?_; rintro e w1 ⟨rfl, hw1⟩
  obtain ⟨hH, eB⟩ := ownb hw1
  go_wp2_with fail
  go_ret
  exact ⟨rfl, eB⟩
theorem sHead_f (a b : Int) (w : World) (h : goB a b = false) : Calls Try.prog 44 #[.agg #[.int .i64 a, .int .i64 b]] w fun e w' => e = .returned (.int .i64 (-1)) ∧ Below w.heap.size w w' := by
  cases hv : wvB a b
  · go_enter Try.func44, Try.ntmps44
    go_wp2_with fail
    refine (sWV_any _ _ _).mono ?_; rintro e w1 ⟨rfl, hw1⟩
    obtain ⟨hH, eB⟩ := ownb hw1
    go_wp2_with fail
    go_ret
    exact ⟨rfl, eB⟩
  · have hn : halfI a b = -1 := by
      apply half_nil.2
      unfold goB at h
      rw [hv] at h
      simpa using h
    have hn' : halfI a b < 0 := by omega
    have HN := Lib.hid hn
    clear hn
    go_enter Try.func44, Try.ntmps44
    go_wp2_with fail
    refine (sWV_any _ _ _).mono ?_; rintro e w1 ⟨rfl, hw1⟩
    obtain ⟨hH1, hB1⟩ := ownb hw1
    obtain ⟨x0, x1, f0, f1, xz⟩ := blk2 hH1
    go_wp2_with fail
    refine (sHalf_any _ _ _).mono ?_; rintro e w2 ⟨rfl, hw2⟩
    go_wp2_with fail
    go_ret
    exact ⟨rfl, bel_next hB1 hw2⟩
end Go.Proofs.Ytbiajaafdbbmgad
