/- The order of ways round: what the law asks. -/
import Derived.Test.YtibpaojhjgpdaaaRo4
import Derived.Test.YtibpaojhjgpdaaaIs
import Derived.Test.YtibpaojhjgpdaaaDw1
namespace Go.Proofs.Ytibpaojhjgpdaaa
open Go.ChangeShapes Go.WideShapes Go.ChangeAt Go.RowKit
set_option linter.unusedSimpArgs false
set_option linter.unusedVariables false

theorem sameInts_len (A B : Option Addr) (ca cb : Nat) (xs : List Int) {n : Nat} {w : World} (hn : xs.length = n) (hA : IRow w A xs) (hB' : IRow w B xs) (hl : n ≤ 2000000) :
    Calls Try.prog 12 #[.slice A n ca, .slice B n cb] w fun e w' => e = .returned (.bool true) ∧ Below w.heap.size w w' := by
  subst hn; exact sameInts_same A B ca cb xs w hA hB' hl
theorem hasInt_len {A : Option Addr} {cap n : Nat} (xs : List Int) (x : Int) {w : World} (hn : xs.length = n) (hA : IRow w A xs) (hl : n ≤ 2000000) (hx : x ∈ xs) :
    Calls Try.prog 52 #[.slice A n cap, .int .i64 x] w fun e w' => e = .returned (.bool true) ∧ Below w.heap.size w w' := by
  subst hn
  have := hasInt_any A cap xs x w hA hl
  rw [show hasB xs x = true by unfold hasB; simpa using hx] at this
  exact this
theorem order_t (A : Option Addr) (cap n : Nat) (xs : List Int) (w : World) (hn : xs.length = n) (hA : IRow w A xs) (hl : n ≤ 2000000) (hall : ∀ i : Nat, i < n → (i : Int) ∈ xs) :
    Calls Try.prog 18 #[.slice A n cap, .int .i64 n] w fun e w' => e = .returned (.bool true) ∧ Below w.heap.size w w' := by
  have HH := Lib.hid (And.intro hn hall)
  clear hn hall
  go_enter Try.func18, Try.ntmps18
  go_wp2_with fail
  go_loopw [5] (fun i wr => ∃ k : Nat, k ≤ n ∧ i = .int .i64 k ∧ Below w.heap.size w wr) (fun i _ => (n - intOf i).toNat)
  case atStart => exact ⟨0, by omega, rfl, Below.refl _ _⟩
  case round =>
    obtain ⟨k, k1, rfl, hB⟩ := hrel
    by_cases hlt : k < n
    · have hi1 : (k : Int) < (n : Int) := by omega
      go_wp2_with fail
      refine (hasInt_len xs (k : Int) HH.out.1 (hA.next hB) hl (HH.out.2 k hlt)).mono ?_; rintro e w1 ⟨rfl, hw1⟩
      go_wp2_with fail
      go_roundw
      case rel => exact ⟨k + 1, by omega, by go_num, bel_next hB hw1⟩
      case measure => simp [intOf]; omega
    · obtain rfl : k = n := by omega
      go_wp2_with fail
      go_ret
      exact ⟨rfl, hB⟩
theorem irl_is {a b c d : Int} (w : World) {r : Bool} (hr : rlB a b c d = r) : Calls Try.prog 16 #[.agg #[.int .i64 a, .int .i64 b], .agg #[.int .i64 c, .int .i64 d]] w fun e w' => e = .returned (.bool r) ∧ Below w.heap.size w w' := by
  subst hr; exact iRL_any a b c d w
theorem isw_is {a b c d : Int} (w : World) {r : Bool} (hr : swB a b c d = r) : Calls Try.prog 17 #[.agg #[.int .i64 a, .int .i64 b], .agg #[.int .i64 c, .int .i64 d]] w fun e w' => e = .returned (.bool r) ∧ Below w.heap.size w w' := by
  subst hr; exact iSW_any a b c d w
theorem iRO_len {A : Option Addr} {cap n : Nat} (xs : List (Int × Int)) {w : World} (hn : xs.length = n) (h : WRow w A xs) (hl : n ≤ 2000000) : Calls Try.prog 11 #[.slice A n cap] w (OrdRet xs w) := by
  subst hn; exact iRO_any A cap xs w h hl
theorem sRO_len {A : Option Addr} {cap n : Nat} (xs : List (Int × Int)) {w : World} (hn : xs.length = n) (h : WRow w A xs) (hl : n ≤ 2000000) : Calls Try.prog 13 #[.slice A n cap] w (OrdRet xs w) := by
  subst hn; exact sRO_any A cap xs w h hl
/-- Of two in the order: the later one does not come before the earlier one; if both are in the same direction, the earlier one has the lesser number. -/
theorem ord_pair {xs : List (Int × Int)} {l : List Nat} (ho : IsOrder xs l) {a b : Nat} (hab : b < a) (ha : a < l.length) (hp : l[a] < xs.length) (hq : l[b] < xs.length) :
    rlB xs[l[a]].1 xs[l[a]].2 xs[l[b]].1 xs[l[b]].2 = false ∧ (swB xs[l[a]].1 xs[l[a]].2 xs[l[b]].1 xs[l[b]].2 = true → l[b] < l[a]) := by
  have hpre := (List.pairwise_iff_getElem.1 ho.1) b a (by omega) ha hab
  unfold Pre at hpre
  rw [wy_at hp, wy_at hq] at hpre
  constructor
  · cases hr : rlB xs[l[a]].1 xs[l[a]].2 xs[l[b]].1 xs[l[b]].2
    · rfl
    · exfalso
      unfold rlB at hr
      rw [Bool.and_eq_true, Bool.and_eq_true] at hr
      have hb := befB_iff.1 hr.2
      rcases hpre with h | ⟨h, _⟩
      · exact bef_asymm h hb
      · exact h hb
  · intro hs
    rcases hpre with h | ⟨_, h⟩
    · exfalso
      unfold swB at hs
      rw [befB_iff.2 h] at hs
      simp at hs
    · exact h
theorem ord_pair2 {xs : List (Int × Int)} {l : List Nat} (ho : IsOrder xs l) {a b p q : Nat} (hab : b < a) (ha : a < l.length) (hb : b < l.length) (hp0 : l[a] = p) (hq0 : l[b] = q) (hp : p < xs.length) (hq : q < xs.length) :
    rlB xs[p].1 xs[p].2 xs[q].1 xs[q].2 = false ∧ (swB xs[p].1 xs[p].2 xs[q].1 xs[q].2 = true → q < p) := by
  subst hp0; subst hq0; exact ord_pair ho hab ha hp hq
end Go.Proofs.Ytibpaojhjgpdaaa
