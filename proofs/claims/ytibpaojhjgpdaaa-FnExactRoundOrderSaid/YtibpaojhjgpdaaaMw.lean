/- Marks in slices of ways. -/
import Derived.Test.YtibpaojhjgpdaaaWl
import Derived.Test.YtibpaojhjgpdaaaIl
namespace Go.Proofs.Ytibpaojhjgpdaaa
open Go.ChangeShapes Go.WideShapes Go.ChangeAt Go.RowKit
set_option linter.unusedSimpArgs false
set_option linter.unusedVariables false

theorem grown_cell {w w' : World} {g i : Nat} (h : w.grownBy w' (some g)) (v : Value) : w.grownBy (w'.setCell ⟨g, i, none⟩ v) (some g) :=
  ⟨h.os, h.tape, h.output, by simpa [World.setCell] using h.size, fun k hk hne => by
    have : k ≠ g := fun e => hne (by rw [e])
    rw [Below.heap_setCell _ _ _ _ this]; exact h.block k hk hne⟩
theorem WBlk.grown {w w' : World} {g : Nat} {T : TypeId} {xs : List (Int × Int)} {row : Option Nat} (h : WBlk w g T xs) (hg : w.grownBy w' row) (hne : row ≠ some g) : WBlk w' g T xs := by
  unfold WBlk; rw [hg.block g h.lt (fun e => hne e.symm)]; exact h
set_option maxHeartbeats 4000000 in
theorem markWayS_any (g : Nat) (cap : Nat) (xs : List (Int × Int)) (w : World) (hO : WBlk w g 32 xs) (hl : xs.length ≤ 2000000) :
    Calls Try.prog 23 #[.slice (some ⟨g, 0, none⟩) xs.length cap, .int .i64 1] w fun e w' => e = .returned (.int .i64 (1 + 2 * xs.length)) ∧ w.grownBy w' (some g) := by
  generalize hn : xs.length = n at hl ⊢
  have HN := Lib.hid hn
  clear hn
  go_enter Try.func23, Try.ntmps23
  go_wp2_with fail
  go_loopw [1, 5] (fun m i wr => ∃ (k : Nat) (ys : List (Int × Int)), k ≤ n ∧ i = .int .i64 k ∧ m = .int .i64 (1 + 2 * k) ∧ ys.length = n ∧ WBlk wr g 32 ys ∧ w.grownBy wr (some g)) (fun _ i _ => (n - intOf i).toNat)
  case atStart => exact ⟨0, xs, by omega, rfl, rfl, HN.out, hO, grown_refl _ _⟩
  case round =>
    obtain ⟨k, ys, k1, rfl, rfl, hy, hW, hG⟩ := hrel
    have HY := Lib.hid hy
    clear hy
    by_cases hlt : k < n
    · have hk : k < ys.length := by rw [HY.out]; exact hlt
      obtain ⟨d0, d1⟩ := hW.cell k hk
      have f0 := hW.frozen (k * 2)
      have f1 := hW.frozen (k * 2 + 1)
      go_wp2_with fail
      go_roundw
      case rel => exact ⟨k + 1, ys.set k (1 + 2 * k, 1 + 2 * k + 1), by omega, by go_num, by go_num, by simp [HY.out], hW.set k hk _ _, grown_cell (grown_cell hG _) _⟩
      case measure => simp [intOf]; omega
    · obtain rfl : k = n := by omega
      go_wp2_with fail
      go_ret
      exact ⟨rfl, hG⟩
theorem eqIntS_len (A B : Option Addr) (ca cb : Nat) (xs : List Int) {n : Nat} {w : World} (hn : xs.length = n) (hA : IRow w A xs) (hB' : IRow w B xs) (hl : n ≤ 2000000) :
    Calls Try.prog 21 #[.slice A n ca, .slice B n cb] w fun e w' => e = .returned (.bool true) ∧ Below w.heap.size w w' := by
  subst hn; exact eqIntS_same A B ca cb xs w hA hB' hl
theorem markIntS_len (base : Nat) (A : Option Addr) (cap : Nat) (xs : List Int) {n : Nat} {w : World} (hn : xs.length = n) (hO : OwnI w base A cap xs) (hl : n ≤ 2000000) :
    Calls Try.prog 24 #[.slice A n cap, .int .i64 1] w fun e w' => e = .returned (.int .i64 (1 + n)) ∧ OwnI w' base A cap (marks 1 n) ∧ w.grownBy w' (Value.ownBlock (.slice A n cap)) := by
  subst hn; exact markIntS_any base A cap xs w hO hl
end Go.Proofs.Ytibpaojhjgpdaaa
