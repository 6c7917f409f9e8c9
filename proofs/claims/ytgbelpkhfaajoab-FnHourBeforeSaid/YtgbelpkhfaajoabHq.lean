/- HourOn and HourBefore, both sides. -/
import Derived.Test.YtgbelpkhfaajoabHo
import Derived.Test.YtgbelpkhfaajoabWb
import Derived.Test.YtgbelpkhfaajoabWc
namespace Go.Proofs.Ytgbelpkhfaajoab
open Go Go.ChangeShapes Go.WideShapes Go.ChangeAt Go.RowKit
set_option linter.unusedSimpArgs false
set_option linter.unusedVariables false

def svB (e n : Int) : Bool := inW e (-1000000) 1000000 && inW n (-1000000) 1000000
theorem svB_iff {e n : Int} : svB e n = true ↔ (-1000000 ≤ e ∧ e ≤ 1000000) ∧ (-1000000 ≤ n ∧ n ≤ 1000000) := by unfold svB inW; simp [and_assoc]
theorem sInW_is {x a b : Int} {r : Bool} (w : World) (h : inW x a b = r) : Calls Try.prog 44 #[.int .i64 x, .int .i64 a, .int .i64 b] w fun e w' => e = .returned (.bool r) ∧ w = w' := by subst h; exact l1InW_any x a b w
theorem iInW_is {x a b : Int} {r : Bool} (w : World) (h : inW x a b = r) : Calls Try.prog 43 #[.int .i64 x, .int .i64 a, .int .i64 b] w fun e w' => e = .returned (.bool r) ∧ w = w' := by subst h; exact iInH_any x a b w
theorem sWVH_is {a b : Int} {r : Bool} (w : World) (h : wvB a b = r) : Calls Try.prog 60 #[.agg #[.int .i64 a, .int .i64 b]] w fun e w' => e = .returned (.bool r) ∧ Below w.heap.size w w' := by subst h; exact sWV_any a b w
theorem iWVH_is {a b : Int} {r : Bool} (w : World) (h : wvB a b = r) : Calls Try.prog 33 #[.agg #[.int .i64 a, .int .i64 b]] w fun e w' => e = .returned (.bool r) ∧ Below w.heap.size w w' := by subst h; exact iWV_any a b w
theorem sHalfH_is {a b r : Int} (w : World) (h : halfI a b = r) : Calls Try.prog 61 #[.agg #[.int .i64 a, .int .i64 b]] w fun e w' => e = .returned (.int .i64 r) ∧ Below w.heap.size w w' := by subst h; exact sHalf_any a b w
theorem iGoH_is {a b : Int} {r : Bool} (w : World) (h : goB a b = r) : Calls Try.prog 58 #[.agg #[.int .i64 a, .int .i64 b]] w fun e w' => e = .returned (.bool r) ∧ Below w.heap.size w w' := by subst h; exact iGo_any a b w
set_option maxHeartbeats 1000000 in
theorem sv_any (e n : Int) (w : World) : Calls Try.prog 53 #[.agg #[.int .i64 e, .int .i64 n]] w fun e' w' => e' = .returned (.bool (svB e n)) ∧ Below w.heap.size w w' := by
  go_enter Try.func53, Try.ntmps53
  go_wp2_with (go_at_call 43; refine (iInH_any _ _ _ _).mono ?_; rintro e' w' ⟨rfl, rfl⟩)
  all_goals go_ret
  all_goals exact ⟨ret_bool (by simp_all [svB]), bel1 _ _⟩
theorem sv_is {e n : Int} {r : Bool} (w : World) (h : svB e n = r) : Calls Try.prog 53 #[.agg #[.int .i64 e, .int .i64 n]] w fun e' w' => e' = .returned (.bool r) ∧ Below w.heap.size w w' := by subst h; exact sv_any e n w
def HoRet (l e n : Int) (w : World) (e' : Ending) (w' : World) : Prop := ∃ r : Int, e' = .returned (.int .i64 r) ∧ HourIs (hoP l e n) r ∧ Below w.heap.size w w'
def HbRet (l e n : Int) (w : World) (e' : Ending) (w' : World) : Prop := ∃ r : Int, e' = .returned (.int .i64 r) ∧ HourIs (hbP l e n) r ∧ Below w.heap.size w w'
theorem hoP_f {l e n : Int} (h : laB l = false ∨ svB e n = false) (j : Int) : hoP l e n j = false := by
  refine hoP_none (fun ⟨h1, h2, h3⟩ => ?_) j
  rcases h with h | h
  · rw [laB_iff.2 h1] at h; cases h
  · rw [svB_iff.2 ⟨h2, h3⟩] at h; cases h
theorem hbP_f {l e n : Int} (h : laB l = false ∨ goB e n = false) (j : Int) : hbP l e n j = false := by
  refine hbP_none (fun ⟨h1, h2⟩ => ?_) j
  rcases h with h | h
  · rw [laB_iff.2 h1] at h; cases h
  · rw [h2] at h; cases h
set_option maxHeartbeats 2000000 in
theorem iHourOn_any (l e n : Int) (w : World) : Calls Try.prog 28 #[.int .i64 l, .agg #[.int .i64 e, .int .i64 n]] w (HoRet l e n w) := by
  unfold HoRet
  cases hs : svB e n
  · have HS := Lib.hid hs
    clear hs
    go_enter Try.func28, Try.ntmps28
    go_wp2_with fail
    refine (sv_is _ HS.out).mono ?_; rintro e' w1 ⟨rfl, hw1⟩
    obtain ⟨hP1, hB1⟩ := ownb hw1
    obtain ⟨c0, c1, f0, f1, z1⟩ := blk2 hP1
    go_wp2
    go_ret
    exact ⟨12, rfl, HourIs.none (hoP_f (.inr HS.out)), hB1⟩
  · obtain ⟨he, hn⟩ := svB_iff.1 hs
    have HS := Lib.hid hs
    clear hs
    cases hl : laB l
    · have HL := Lib.hid hl
      clear hl
      go_enter Try.func28, Try.ntmps28
      go_wp2_with fail
      refine (sv_is _ HS.out).mono ?_; rintro e' w1 ⟨rfl, hw1⟩
      obtain ⟨hP1, hB1⟩ := ownb hw1
      obtain ⟨c0, c1, f0, f1, z1⟩ := blk2 hP1
      go_wp2_with fail
      refine (wo_f _ e n _ _ HL.out).mono ?_; rintro e' w2 ⟨rfl, hw2⟩
      have hB2 := bel_next hB1 hw2
      go_wp2
      go_ret
      exact ⟨12, rfl, HourIs.none (hoP_f (.inl HL.out)), hB2⟩
    · have HL := Lib.hid hl
      clear hl
      go_enter Try.func28, Try.ntmps28
      go_wp2_with fail
      refine (sv_is _ HS.out).mono ?_; rintro e' w1 ⟨rfl, hw1⟩
      obtain ⟨hP1, hB1⟩ := ownb hw1
      obtain ⟨c0, c1, f0, f1, z1⟩ := blk2 hP1
      go_wp2_with fail
      refine (wo_t _ _ _ _ _ hP1 HL.out he hn).mono ?_; rintro e' w2 ⟨r, rfl, hr, hw2⟩
      have hB2 := bel_next hB1 hw2
      have HR := Lib.hid hr
      clear hr
      go_wp2
      go_ret
      exact ⟨r, rfl, HR.out, hB2⟩
set_option maxHeartbeats 2000000 in
theorem iHourBefore_any (l e n : Int) (w : World) : Calls Try.prog 31 #[.int .i64 l, .agg #[.int .i64 e, .int .i64 n]] w (HbRet l e n w) := by
  unfold HbRet
  cases hs : goB e n
  · have HS := Lib.hid hs
    clear hs
    go_enter Try.func31, Try.ntmps31
    go_wp2_with fail
    refine (iGoH_is _ HS.out).mono ?_; rintro e' w1 ⟨rfl, hw1⟩
    obtain ⟨hP1, hB1⟩ := ownb hw1
    obtain ⟨c0, c1, f0, f1, z1⟩ := blk2 hP1
    go_wp2
    go_ret
    exact ⟨12, rfl, HourIs.none (hbP_f (.inr HS.out)), hB1⟩
  · have HS := Lib.hid hs
    clear hs
    cases hl : laB l
    · have HL := Lib.hid hl
      clear hl
      go_enter Try.func31, Try.ntmps31
      go_wp2_with fail
      refine (iGoH_is _ HS.out).mono ?_; rintro e' w1 ⟨rfl, hw1⟩
      obtain ⟨hP1, hB1⟩ := ownb hw1
      obtain ⟨c0, c1, f0, f1, z1⟩ := blk2 hP1
      go_wp2_with fail
      refine (wb_f _ e n _ _ HL.out).mono ?_; rintro e' w2 ⟨rfl, hw2⟩
      have hB2 := bel_next hB1 hw2
      go_wp2
      go_ret
      exact ⟨12, rfl, HourIs.none (hbP_f (.inl HL.out)), hB2⟩
    · have HL := Lib.hid hl
      clear hl
      go_enter Try.func31, Try.ntmps31
      go_wp2_with fail
      refine (iGoH_is _ HS.out).mono ?_; rintro e' w1 ⟨rfl, hw1⟩
      obtain ⟨hP1, hB1⟩ := ownb hw1
      obtain ⟨c0, c1, f0, f1, z1⟩ := blk2 hP1
      go_wp2_with fail
      refine (wb_t _ _ _ _ _ hP1 HL.out HS.out).mono ?_; rintro e' w2 ⟨r, rfl, hr, hw2⟩
      have hB2 := bel_next hB1 hw2
      have HR := Lib.hid hr
      clear hr
      go_wp2
      go_ret
      exact ⟨r, rfl, HR.out, hB2⟩
end Go.Proofs.Ytgbelpkhfaajoab
