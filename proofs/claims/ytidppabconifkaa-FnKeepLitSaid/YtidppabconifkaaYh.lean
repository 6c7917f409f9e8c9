/- Sums and comparisons in the laws of cities. -/
import Derived.Test.YtidppabconifkaaYg
import Derived.Test.YtidppabconifkaaQk
import Derived.Test.YtidppabconifkaaIs
namespace Go.Proofs.Ytidppabconifkaa
open Go Go.ChangeShapes Go.WideShapes Go.ChangeAt Go.RowKit
set_option linter.unusedSimpArgs false
set_option linter.unusedVariables false

set_option maxHeartbeats 4000000 in
theorem sumC_is (A : Option Addr) (cap : Nat) (xs : List Int) {n : Nat} (w : World) (hn : xs.length = n) (h : SRow encNum w A xs) (hv : ∀ t ∈ xs, 0 ≤ t ∧ t ≤ 20) (hn36 : n ≤ 40) :
    Calls Try.prog 41 #[.slice A n cap] w fun E w' => E = .returned (.int .i64 (suI xs n)) ∧ Below w.heap.size w w' := by
  have HN := Lib.hid hn
  have HV := Lib.hid hv
  clear hn hv
  go_enter Try.func41, Try.ntmps41
  go_wp2_with fail
  go_loopw [3, 4] (fun sv v wr => ∃ k : Nat, v = .int .i64 k ∧ k ≤ n ∧ sv = .int .i64 (suI xs k) ∧ Below w.heap.size w wr) (fun _ v _ => (n - intOf v).toNat)
  case atStart => exact ⟨0, rfl, by omega, rfl, Below.refl _ _⟩
  case round =>
    obtain ⟨k, rfl, k1, rfl, hB⟩ := hrel
    by_cases hlt : k < n
    · have hk : k < xs.length := by rw [HN.out]; exact hlt
      have hki : (k : Int) < (n : Int) := by omega
      obtain ⟨b, off, rfl, hb, c0⟩ := rowNum (h.next hB) hk
      obtain ⟨v0, v1⟩ := HV.out xs[k] (List.getElem_mem hk)
      obtain ⟨s0, s1⟩ := su_rng HV.out k
      have HS := Lib.hid (su_next hk)
      generalize suI xs k = s at s0 s1 HS ⊢
      generalize xs[k] = v at c0 v0 v1 HS
      go_wp2_with fail
      go_roundw
      case rel => exact ⟨k + 1, by go_num, by omega, by rw [HS.out], hB⟩
      case measure => simp [intOf]; omega
    · obtain rfl : k = n := by omega
      have hki : ¬ (k : Int) < (k : Int) := by omega
      go_wp2_with fail
      go_ret
      exact ⟨rfl, hB⟩
set_option maxHeartbeats 4000000 in
theorem sameCity_is (d : Int) (A B : Option Addr) (ca cb : Nat) (xs : List Int) {n : Nat} {w : World} (hn : xs.length = n) (hA : SRow encNum w A xs) (hB' : SRow encNum w B xs) (hl : n ≤ 2000000) :
    Calls Try.prog 35 #[.agg #[.int .i64 d, .slice A n ca], .agg #[.int .i64 d, .slice B n cb]] w fun e w' => e = .returned (.bool true) ∧ Below w.heap.size w w' := by
  go_enter Try.func35, Try.ntmps35
  go_wp2_with fail
  refine (sameNums_is A B ca cb xs hn (hA.next (bel2 w _ _)) (hB'.next (bel2 w _ _)) hl).mono ?_; rintro e w1 ⟨rfl, hw1⟩
  have hB1 := bel_next (bel2 w _ _) hw1
  go_wp2
  go_ret
  exact ⟨rfl, hB1⟩
theorem SRow.toIY {w : World} {A : Option Addr} {xs : List Int} (h : SRow encNum w A xs) : IRow w A xs := by
  rcases h with h | ⟨b, off, e, hc⟩
  · exact .inl h
  · exact .inr ⟨b, off, e, fun i hi => by have := hc i hi 0 _ rfl; simpa [encNum] using this⟩
theorem hasY_is (A : Option Addr) (cap : Nat) (xs : List Int) (x : Int) {n : Nat} {r : Bool} (w : World) (hn : xs.length = n) (hA : SRow encNum w A xs) (hl : n ≤ 2000000) (hr : hasB xs x = r) :
    Calls Try.prog 30 #[.slice A n cap, .int .i64 x] w fun e w' => e = .returned (.bool r) ∧ Below w.heap.size w w' := by
  subst hn; subst hr; exact hasInt_any A cap xs x w hA.toIY hl
theorem ascY_is (A : Option Addr) (cap : Nat) (xs : List Int) {n : Nat} (w : World) (hn : xs.length = n) (hA : SRow encNum w A xs) (ha : Asc xs) (hl : n ≤ 2000000) :
    Calls Try.prog 32 #[.slice A n cap] w fun e w' => e = .returned (.bool true) ∧ Below w.heap.size w w' := by
  subst hn; exact ascend_t A cap xs w hA.toIY ha hl
theorem iCt_len (d : Int) (A : Option Addr) (cap : Nat) (xs : List Int) {r : Int} {l : List Int} {n q : Nat} (w : World) (hn : xs.length = n) (h : SRow encNum w A xs) (hl : n ≤ 2000000) (hr : ctD d xs = r) (hl2 : ctL d xs = l) (hq : l.length = q) : Calls Try.prog 31 #[.agg #[.int .i64 d, .slice A n cap]] w fun e w' => ∃ (V : Option Addr) (cv : Nat), e = .returned (.agg #[.int .i64 r, .slice V q cv]) ∧ SOwn encNum w' w.heap.size 3 V cv l ∧ Below w.heap.size w w' := by subst hq; exact iCt_is d A cap xs w hn h hl hr hl2
theorem iCset_len (d : Int) (A : Option Addr) (cap : Nat) (xs : List Int) (c t : Int) {b : Bool} {r : Int} {l : List Int} {n q : Nat} (w : World) (hn : xs.length = n) (h : SRow encNum w A xs) (hl : n ≤ 2000000) (hb : csB d xs c t = b) (hr : csD d xs c t = r) (hl2 : csL d xs c t = l) (hq : l.length = q) : Calls Try.prog 23 #[.agg #[.int .i64 d, .slice A n cap], .int .i64 c, .int .i64 t] w fun e w' => ∃ (V : Option Addr) (cv : Nat), e = .returned (.tuple #[.agg #[.int .i64 r, .slice V q cv], .bool b]) ∧ SOwn encNum w' w.heap.size 3 V cv l ∧ Below w.heap.size w w' := by subst hq; exact iCset_is d A cap xs c t w hn h hl hb hr hl2
theorem iSh_len (d : Int) (A : Option Addr) (cap : Nat) (xs : List Int) (e f : Int) {l : List Int} {n q : Nat} (w : World) (hn : xs.length = n) (h : SRow encNum w A xs) (hl : n ≤ 2000000) (hr : shL d xs e f = l) (hq : l.length = q) : Calls Try.prog 22 #[.agg #[.int .i64 d, .slice A n cap], .int .i64 e, .int .i64 f] w fun e w' => ∃ (V : Option Addr) (cv : Nat), e = .returned (.slice V q cv) ∧ SOwn encNum w' w.heap.size 3 V cv l ∧ Below w.heap.size w w' := by subst hq; exact iSh_is d A cap xs e f w hn h hl hr
theorem iLc_len (d : Int) (A : Option Addr) (cap : Nat) (xs : List Int) (e f : Int) {l : List Int} {n q : Nat} (w : World) (hn : xs.length = n) (h : SRow encNum w A xs) (hl : n ≤ 2000000) (hr : liL d xs e f = l) (hq : l.length = q) : Calls Try.prog 28 #[.agg #[.int .i64 d, .slice A n cap], .int .i64 e, .int .i64 f] w fun e w' => ∃ (V : Option Addr) (cv : Nat), e = .returned (.slice V q cv) ∧ SOwn encNum w' w.heap.size 3 V cv l ∧ Below w.heap.size w w' := by subst hq; exact iLc_is d A cap xs e f w hn h hl hr
theorem sCt_len (d : Int) (A : Option Addr) (cap : Nat) (xs : List Int) {r : Int} {l : List Int} {n q : Nat} (w : World) (hn : xs.length = n) (h : SRow encNum w A xs) (hl : n ≤ 2000000) (hr : ctD d xs = r) (hl2 : ctL d xs = l) (hq : l.length = q) : Calls Try.prog 38 #[.agg #[.int .i64 d, .slice A n cap]] w fun e w' => ∃ (V : Option Addr) (cv : Nat), e = .returned (.agg #[.int .i64 r, .slice V q cv]) ∧ SOwn encNum w' w.heap.size 3 V cv l ∧ Below w.heap.size w w' := by subst hq; exact sCt_is d A cap xs w hn h hl hr hl2
theorem sCset_len (d : Int) (A : Option Addr) (cap : Nat) (xs : List Int) (c t : Int) {b : Bool} {r : Int} {l : List Int} {n q : Nat} (w : World) (hn : xs.length = n) (h : SRow encNum w A xs) (hl : n ≤ 2000000) (hb : csB d xs c t = b) (hr : csD d xs c t = r) (hl2 : csL d xs c t = l) (hq : l.length = q) : Calls Try.prog 34 #[.agg #[.int .i64 d, .slice A n cap], .int .i64 c, .int .i64 t] w fun e w' => ∃ (V : Option Addr) (cv : Nat), e = .returned (.tuple #[.agg #[.int .i64 r, .slice V q cv], .bool b]) ∧ SOwn encNum w' w.heap.size 3 V cv l ∧ Below w.heap.size w w' := by subst hq; exact sCset_is d A cap xs c t w hn h hl hb hr hl2
theorem sSh_len (d : Int) (A : Option Addr) (cap : Nat) (xs : List Int) (e f : Int) {l : List Int} {n q : Nat} (w : World) (hn : xs.length = n) (h : SRow encNum w A xs) (hl : n ≤ 2000000) (hr : shL d xs e f = l) (hq : l.length = q) : Calls Try.prog 26 #[.agg #[.int .i64 d, .slice A n cap], .int .i64 e, .int .i64 f] w fun e w' => ∃ (V : Option Addr) (cv : Nat), e = .returned (.slice V q cv) ∧ SOwn encNum w' w.heap.size 3 V cv l ∧ Below w.heap.size w w' := by subst hq; exact sSh_is d A cap xs e f w hn h hl hr
theorem sLc_len (d : Int) (A : Option Addr) (cap : Nat) (xs : List Int) (e f : Int) {l : List Int} {n q : Nat} (w : World) (hn : xs.length = n) (h : SRow encNum w A xs) (hl : n ≤ 2000000) (hr : liL d xs e f = l) (hq : l.length = q) : Calls Try.prog 29 #[.agg #[.int .i64 d, .slice A n cap], .int .i64 e, .int .i64 f] w fun e w' => ∃ (V : Option Addr) (cv : Nat), e = .returned (.slice V q cv) ∧ SOwn encNum w' w.heap.size 3 V cv l ∧ Below w.heap.size w w' := by subst hq; exact sLc_is d A cap xs e f w hn h hl hr
theorem SRow.cutY {α : Type} {E : Enc α} {w : World} {A : Option Addr} {xs : List α} (h : SRow E w A xs) (k : Nat) : SRow E w A (xs.take k) := by
  rcases h with h | ⟨b, off, e, hc⟩
  · left; rw [h]; simp
  · refine .inr ⟨b, off, e, fun i hi j v hv => ?_⟩
    have hi2 : i < xs.length := by rw [List.length_take] at hi; omega
    rw [List.getElem_take] at hv
    exact hc i hi2 j v hv
end Go.Proofs.Ytidppabconifkaa
