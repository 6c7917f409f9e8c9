/- Contracts of chapter 2: lists of ways. -/
import Derived.Test.YtibpaojhjgpdaaaWb
import Derived.Test.YtibpaojhjgpdaaaSl
namespace Go.Proofs.Ytibpaojhjgpdaaa
open Go.ChangeShapes Go.WideShapes Go.ChangeAt Go.RowKit
set_option linter.unusedSimpArgs false
set_option linter.unusedVariables false

def goP (p : Int × Int) : Bool := goB p.1 p.2
def wsB (xs : List (Int × Int)) : Bool := decide (xs.length ≤ 8) && xs.all goP
def AllLow (xs : List (Int × Int)) (k : Nat) : Prop := ∀ i (h : i < xs.length), i < k → goP xs[i] = true
theorem AllLow.zero (xs : List (Int × Int)) : AllLow xs 0 := fun i h hk => by omega
theorem AllLow.next {xs : List (Int × Int)} {k : Nat} (h : AllLow xs k) (hk : k < xs.length) (hp : goP xs[k] = true) : AllLow xs (k + 1) := fun i hi h1 => by
  by_cases e : i = k
  · subst e; exact hp
  · exact h i hi (by omega)
theorem AllLow.all {xs : List (Int × Int)} (h : AllLow xs xs.length) : xs.all goP = true := by
  rw [List.all_eq_true]
  intro p hp
  obtain ⟨i, hi, rfl⟩ := List.getElem_of_mem hp
  exact h i hi hi
theorem not_all {xs : List (Int × Int)} {k : Nat} (hk : k < xs.length) (hp : goP xs[k] = false) : xs.all goP = false := by
  rw [List.all_eq_false]
  exact ⟨xs[k], List.getElem_mem hk, by simp [hp]⟩
theorem wsB_bad {xs : List (Int × Int)} {k : Nat} (hk : k < xs.length) (hp : goP xs[k] = false) : false = wsB xs := by
  unfold wsB; rw [not_all hk hp, Bool.and_false]
theorem wsB_end {xs : List (Int × Int)} (h : AllLow xs xs.length) : decide ((xs.length : Int) ≤ 8) = wsB xs := by
  unfold wsB; rw [h.all, Bool.and_true, Bool.eq_iff_iff]; simp; omega
set_option maxHeartbeats 4000000 in
theorem sWsV_any (A : Option Addr) (cap : Nat) (xs : List (Int × Int)) (w : World) (h : WRow w A xs) (hl : xs.length ≤ 2000000) :
    Calls Try.prog 14 #[.slice A xs.length cap] w fun e w' => e = .returned (.bool (wsB xs)) ∧ Below w.heap.size w w' := by
  generalize hn : xs.length = n at hl ⊢
  have HN := Lib.hid hn
  clear hn
  go_enter Try.func14, Try.ntmps14
  go_wp2_with fail
  go_loopw [3] (fun i wr => ∃ k : Nat, k ≤ n ∧ i = .int .i64 k ∧ AllLow xs k ∧ WRow wr A xs ∧ Below w.heap.size w wr) (fun i _ => (n - intOf i).toNat)
  case atStart => exact ⟨0, by omega, rfl, AllLow.zero _, h, Below.refl _ _⟩
  case round =>
    obtain ⟨k, k1, rfl, hlow, hrow, hB⟩ := hrel
    by_cases hlt : k < n
    · have hk : k < xs.length := by rw [HN.out]; exact hlt
      obtain ⟨b, off, rfl, hb, c0, c1⟩ := hrow.at_ hk
      clear h
      cases hv : wvB xs[k].1 xs[k].2
      · have hp : goP xs[k] = false := by unfold goP goB; rw [hv]; rfl
        have HR := Lib.hid (wsB_bad hk hp)
        clear hp
        go_wp2_with fail
        refine (sWV_any _ _ _).mono ?_; rintro e w1 ⟨rfl, hw1⟩
        go_wp2_with fail
        go_ret
        exact ⟨ret_bool HR.out, bel_next hB hw1⟩
      · cases hp : goP xs[k]
        · have hh : halfI xs[k].1 xs[k].2 < 0 := by
            have : halfI xs[k].1 xs[k].2 = -1 := by
              apply half_nil.2
              unfold goP goB at hp
              rw [hv] at hp
              simpa using hp
            omega
          have HR := Lib.hid (wsB_bad hk hp)
          clear hp
          go_wp2_with fail
          refine (sWV_any _ _ _).mono ?_; rintro e w1 ⟨rfl, hw1⟩
          have d0 := cel_next c0 hw1
          have d1 := cel_next c1 hw1
          go_wp2_with fail
          refine (sHalf_any _ _ _).mono ?_; rintro e w2 ⟨rfl, hw2⟩
          go_wp2_with fail
          go_ret
          exact ⟨ret_bool HR.out, bel_next (bel_next hB hw1) hw2⟩
        · have hh := (go_half (a := xs[k].1) (b := xs[k].2) hp).1
          have HP := Lib.hid hp
          clear hp
          go_wp2_with fail
          refine (sWV_any _ _ _).mono ?_; rintro e w1 ⟨rfl, hw1⟩
          have d0 := cel_next c0 hw1
          have d1 := cel_next c1 hw1
          go_wp2_with fail
          refine (sHalf_any _ _ _).mono ?_; rintro e w2 ⟨rfl, hw2⟩
          go_wp2_with fail
          go_roundw
          case rel => exact ⟨k + 1, by omega, by go_num, hlow.next hk HP.out, (hrow.next hw1).next hw2, bel_next (bel_next hB hw1) hw2⟩
          case measure => simp [intOf]; omega
    · obtain rfl : k = n := by omega
      go_wp2_with fail
      go_ret
      refine ⟨ret_bool ?_, hB⟩
      have := HN.out
      subst this
      exact wsB_end hlow
set_option maxHeartbeats 4000000 in
theorem iWsV_any (A : Option Addr) (cap : Nat) (xs : List (Int × Int)) (w : World) (h : WRow w A xs) (hl : xs.length ≤ 2000000) :
    Calls Try.prog 42 #[.slice A xs.length cap] w fun e w' => e = .returned (.bool (wsB xs)) ∧ Below w.heap.size w w' := by
  by_cases h8 : 8 < xs.length
  · have HR : Hid (false = wsB xs) := by show false = wsB xs; unfold wsB; rw [decide_eq_false (by omega)]; rfl
    generalize xs.length = n at h8 hl ⊢
    go_enter Try.func42, Try.ntmps42
    go_wp2_with fail
    go_ret
    exact ⟨ret_bool HR.out, Below.refl _ _⟩
  generalize hn : xs.length = n at h8 hl ⊢
  have HN := Lib.hid hn
  clear hn
  go_enter Try.func42, Try.ntmps42
  go_wp2_with fail
  go_loopw [10] (fun i wr => ∃ k : Nat, k ≤ n ∧ i = .int .i64 k ∧ AllLow xs k ∧ WRow wr A xs ∧ Below w.heap.size w wr) (fun i _ => (n - intOf i).toNat)
  case atStart => exact ⟨0, by omega, rfl, AllLow.zero _, h, Below.refl _ _⟩
  case round =>
    obtain ⟨k, k1, rfl, hlow, hrow, hB⟩ := hrel
    by_cases hlt : k < n
    · have hk : k < xs.length := by rw [HN.out]; exact hlt
      obtain ⟨b, off, rfl, hb, c0, c1⟩ := hrow.at_ hk
      clear h
      cases hp : goP xs[k]
      · have HR := Lib.hid (wsB_bad hk hp)
        have hp' : goB xs[k].1 xs[k].2 = false := hp
        go_wp2_with fail
        refine (iGo_any _ _ _).mono ?_; rintro e w1 ⟨rfl, hw1⟩
        go_wp2_with fail
        go_ret
        exact ⟨ret_bool HR.out, bel_next hB (ownb hw1).2⟩
      · have hp' : goB xs[k].1 xs[k].2 = true := hp
        go_wp2_with fail
        refine (iGo_any _ _ _).mono ?_; rintro e w1 ⟨rfl, hw1⟩
        go_wp2_with fail
        go_roundw
        case rel => exact ⟨k + 1, by omega, by go_num, hlow.next hk hp, hrow.next (ownb hw1).2, bel_next hB (ownb hw1).2⟩
        case measure => simp [intOf]; omega
    · obtain rfl : k = n := by omega
      go_wp2_with fail
      go_ret
      refine ⟨ret_bool ?_, hB⟩
      have := HN.out
      subst this
      rw [← wsB_end hlow]
      simp; omega
end Go.Proofs.Ytibpaojhjgpdaaa
