/- The order of ways round, by both. -/
import Derived.Test.YtibpaojhjgpdaaaRo2
import Derived.Test.YtibpaojhjgpdaaaSiWay
namespace Go.Proofs.Ytibpaojhjgpdaaa
open Go.ChangeShapes Go.WideShapes Go.ChangeAt Go.RowKit
set_option linter.unusedSimpArgs false
set_option linter.unusedVariables false
set_option linter.unnecessarySimpa false

/-- What both give: the order; nothing for ways that are not valid. -/
def OrdOf (xs : List (Int × Int)) (l : List Nat) : Prop := (wsB xs = true ∧ IsOrder xs l ∧ l.length = xs.length) ∨ (wsB xs = false ∧ l = [])
theorem OrdOf.unique {xs : List (Int × Int)} {l m : List Nat} (h : OrdOf xs l) (k : OrdOf xs m) : l = m := by
  rcases h with ⟨h1, h2, _⟩ | ⟨h1, rfl⟩
  · rcases k with ⟨_, k2, _⟩ | ⟨k1, _⟩
    · exact h2.unique k2
    · rw [h1] at k1; cases k1
  · rcases k with ⟨k1, _⟩ | ⟨_, rfl⟩
    · rw [h1] at k1; cases k1
    · rfl
theorem OrdOf.len {xs : List (Int × Int)} {l : List Nat} (h : OrdOf xs l) : l.length ≤ 8 := by
  rcases h with ⟨h1, _, h3⟩ | ⟨_, rfl⟩
  · have := go_len h1; omega
  · simp
theorem OwnI.of_blk {w : World} {base g n : Nat} {xs : List Int} (h : IBlk w g 3 xs) (hb : base ≤ g) (hn : xs.length = n) (hm : n ≤ maxLen) : OwnI w base (some ⟨g, 0, none⟩) n xs := by
  refine ⟨by rw [ints_len]; omega, .inr ⟨g, n, (ints xs).toArray, by rw [hn], hb, h, by omega, hm, ?_, ?_⟩⟩
  · simp [ints_len]; omega
  · simp only [Nat.mul_one]; exact List.take_of_length_le (by rw [ints_len]; omega)
def OrdRet (xs : List (Int × Int)) (w : World) (e : Ending) (w' : World) : Prop :=
  ∃ (l : List Nat) (A : Option Addr) (cap : Nat), e = .returned (.slice A l.length cap) ∧ OrdOf xs l ∧ OwnI w' w.heap.size A cap (nat l) ∧ Below w.heap.size w w'
theorem ws_is_i {A : Option Addr} {cap n : Nat} (xs : List (Int × Int)) {w : World} {r : Bool} (hn : xs.length = n) (h : WRow w A xs) (hl : n ≤ 2000000) (hr : wsB xs = r) :
    Calls Try.prog 42 #[.slice A n cap] w fun e w' => e = .returned (.bool r) ∧ Below w.heap.size w w' := by
  subst hn; subst hr; exact iWsV_any A cap xs w h hl
theorem ws_is_s {A : Option Addr} {cap n : Nat} (xs : List (Int × Int)) {w : World} {r : Bool} (hn : xs.length = n) (h : WRow w A xs) (hl : n ≤ 2000000) (hr : wsB xs = r) :
    Calls Try.prog 14 #[.slice A n cap] w fun e w' => e = .returned (.bool r) ∧ Below w.heap.size w w' := by
  subst hn; subst hr; exact sWsV_any A cap xs w h hl
theorem flat_num : ∀ l : List Int, encNum.flat l = ints l
  | [] => rfl
  | x :: l => by show encNum.enc x ++ encNum.flat l = _; rw [flat_num l]; rfl
theorem IBlk.of_num {w : World} {g : Nat} {T : TypeId} {l : List Int} (h : SBlk encNum w g T l) : IBlk w g T l := by unfold SBlk at h; rw [flat_num] at h; exact h
theorem rowW {w : World} {A : Option Addr} {xs : List (Int × Int)} {n : Nat} (hn : xs.length = n) (h : WRow w A xs) : RowWay w A n (fun i => (wy xs i).1) (fun i => (wy xs i).2) := by
  rcases h with rfl | ⟨b, off, rfl, hc⟩
  · exact .inl (by rw [← hn]; rfl)
  · exact .inr ⟨b, off, rfl, fun i hi => by
      show _ = some (Value.int .i64 (wy xs i).1) ∧ _ = some (Value.int .i64 (wy xs i).2)
      rw [wy_at (show i < xs.length by omega)]; exact hc i (by omega)⟩
theorem cmpW {xs : List (Int × Int)} {n : Nat} (hn : xs.length = n) (hv : wsB xs = true) : CmpWay n (fun i => (wy xs i).1) (fun i => (wy xs i).2) (fun i j => cmpI (wy xs i).1 (wy xs i).2 (wy xs j).1 (wy xs j).2) := by
  intro i j hi hj w
  have e1 := wy_at (xs := xs) (i := i) (by omega)
  have e2 := wy_at (xs := xs) (i := j) (by omega)
  show Calls Try.prog 44 #[.agg #[.int .i64 (wy xs i).1, .int .i64 (wy xs i).2], .agg #[.int .i64 (wy xs j).1, .int .i64 (wy xs j).2]] w fun e w' => e = .returned (.int .i64 (cmpI (wy xs i).1 (wy xs i).2 (wy xs j).1 (wy xs j).2)) ∧ Below w.heap.size w w'
  rw [e1, e2]
  exact cmp_any _ _ _ _ w (go_cross (go_bd hv i (by omega)) (go_bd hv j (by omega))) (go_cross (go_bd hv j (by omega)) (go_bd hv i (by omega)))
theorem cmp_neg2 {a b c d : Int} : cmpI a b c d < 0 ↔ Bef a b c d := by
  have := cmp_neg (a := a) (b := b) (c := c) (d := d)
  rw [← befB_iff, ← this]; simp
theorem fitW {xs : List (Int × Int)} {n : Nat} (hn : xs.length = n) (hv : wsB xs = true) : FitWay n (Pre xs) (fun i j => cmpI (wy xs i).1 (wy xs i).2 (wy xs j).1 (wy xs j).2) where
  tot := ⟨pre_asymm xs, fun i j k h1 h2 h3 => pre_trans (all_go hv) (by omega) (by omega) (by omega)⟩
  lt i x h1 h2 h3 := pre_of_bef (cmp_neg2.1 h3)
  ge i x h1 h2 h3 := pre_of_nbef h1 (fun h => h3 (cmp_neg2.2 h))
set_option maxRecDepth 100000 in
theorem iRO_any (A : Option Addr) (cap : Nat) (xs : List (Int × Int)) (w : World) (h : WRow w A xs) (hl : xs.length ≤ 2000000) :
    Calls Try.prog 11 #[.slice A xs.length cap] w (OrdRet xs w) := by
  obtain ⟨n, hn⟩ : ∃ n, xs.length = n := ⟨_, rfl⟩
  rw [hn] at hl ⊢
  have HN := Lib.hid hn
  clear hn
  have H := Lib.hid h
  clear h
  cases hv : wsB xs
  · have HV := Lib.hid hv
    clear hv
    go_enter Try.func11, Try.ntmps11
    go_wp2_with fail
    refine (ws_is_i xs HN.out (H.out) hl HV.out).mono ?_; rintro e w1 ⟨rfl, hw1⟩
    go_wp2
    go_ret
    exact ⟨[], none, 0, rfl, .inr ⟨HV.out, rfl⟩, OwnI.nil _ _, hw1⟩
  · have hn8 := go_len hv
    rw [HN.out] at hn8
    have HV := Lib.hid hv
    clear hv
    go_enter Try.func11, Try.ntmps11
    go_wp2_with fail
    refine (ws_is_i xs HN.out (H.out) hl HV.out).mono ?_; rintro e w1 ⟨rfl, hw1⟩
    go_wp2_with fail
    refine (ordWay (rowW HN.out (H.out.next hw1)) (Lib.hid (cmpW HN.out HV.out)) (fitW HN.out HV.out) hn8).mono ?_; rintro e w2 ⟨l, q, rfl, hO, hq, hG, hw2⟩
    have hB2 := bel_next hw1 hw2
    have hl2 : l.length = n := hO.length (fitW HN.out HV.out).tot
    have HL := Lib.hid hl2
    clear hl2
    go_wp2
    go_ret
    exact ⟨l, some ⟨q, 0, none⟩, n, by rw [HL.out]; rfl, .inl ⟨HV.out, ⟨hO.1, fun i => by rw [HN.out]; exact hO.2 i⟩, by rw [HL.out, HN.out]⟩, OwnI.of_blk (IBlk.of_num hG) (Nat.le_trans hw1.size hq) (by rw [nat_len, HL.out]) (by unfold maxLen; omega), hB2⟩

/-- Is a number in a list. -/
def hasN (l : List Int) (n : Int) : Bool := decide (n ∈ l)
theorem s1Has_any (A : Option Addr) (cap : Nat) (xs : List Int) (x : Int) (w : World) (hA : IRow w A xs) (hl : xs.length ≤ 2000000) :
    Calls Try.prog 45 #[.slice A xs.length cap, .int .i64 x] w fun e w' => e = .returned (.bool (hasN xs x)) ∧ Below w.heap.size w w' := by
  obtain ⟨r, hr⟩ : ∃ r, hasN xs x = r := ⟨_, rfl⟩
  obtain ⟨n, hn⟩ : ∃ n, xs.length = n := ⟨_, rfl⟩
  rw [hr, hn]
  rw [hn] at hl
  have HR := Lib.hid hr
  have HN := Lib.hid hn
  clear hr hn
  go_enter Try.func45, Try.ntmps45
  go_wp2_with fail
  go_loopw [5] (fun i wr => ∃ k : Nat, k ≤ n ∧ i = .int .i64 k ∧ Hid (∀ y ∈ xs.take k, y ≠ x) ∧ Below w.heap.size w wr) (fun i _ => (n - intOf i).toNat)
  case atStart => exact ⟨0, by omega, rfl, (by show ∀ y ∈ _, _; simp), Below.refl _ _⟩
  case round =>
    obtain ⟨k, k1, rfl, HF, hB⟩ := hrel
    by_cases hlt : k < n
    · have hk : k < xs.length := by rw [HN.out]; exact hlt
      obtain ⟨b, off, rfl, hb, c0⟩ := (hA.next hB).at_ hk
      have hi0 : (0 : Int) ≤ (k : Int) := by omega
      have hi1 : (k : Int) < (n : Int) := by omega
      by_cases he : xs[k] = x
      · have HE : Hid (r = true) := by show _ = _; rw [← HR.out]; unfold hasN; rw [← he]; simp
        have he2 : (xs[k] == x) = true := by simpa using he
        clear he
        go_wp2_with fail
        go_ret
        exact ⟨ret_bool HE.out.symm, hB⟩
      · have HF2 : Hid (∀ y ∈ xs.take (k + 1), y ≠ x) := by
          show ∀ y ∈ xs.take (k + 1), y ≠ x
          intro y hy
          rw [List.take_succ_eq_append_getElem hk] at hy
          rcases List.mem_append.1 hy with h1 | h1
          · exact HF.out y h1
          · rw [List.mem_singleton.1 h1]; exact he
        have he2 : (xs[k] == x) = false := by simpa using he
        clear he HF
        go_wp2_with fail
        go_roundw
        case rel => exact ⟨k + 1, by omega, by go_num, HF2, hB⟩
        case measure => simp [intOf]; omega
    · obtain rfl : k = n := by omega
      have HE : Hid (r = false) := by
        show _ = _
        rw [← HR.out]; unfold hasN
        simp only [decide_eq_false_iff_not]
        intro h
        exact HF.out x (by rw [← HN.out]; simpa using h) rfl
      go_wp2_with fail
      go_ret
      exact ⟨ret_bool HE.out.symm, hB⟩
end Go.Proofs.Ytibpaojhjgpdaaa
