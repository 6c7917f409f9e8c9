/- What the laws of chapter 1 draw out of a code: a year, a week and a day. -/
import Derived.Test.YthfehlmddlfcmaaDr2
namespace Go.Proofs.Ythfehlmddlfcmaa
open Go.ChangeShapes Go.WideShapes Go.ChangeAt Go.RowKit
set_option linter.unusedSimpArgs false

def Drew3 (w : World) (e : Ending) (w' : World) : Prop := ∃ k l j : Int, e = .returned (.tuple #[.int .i64 k, .int .i64 l, .int .i64 j]) ∧ -4 ≤ k ∧ k ≤ 4100 ∧ 0 ≤ l ∧ l ≤ 54 ∧ 0 ≤ j ∧ j ≤ 8 ∧ Below w.heap.size w w'
set_option maxHeartbeats 4000000 in
theorem drWeekDate_any (a : Option Addr) (len cap : Nat) (w : World) (h : CodeOk w a len cap) :
    Calls Try.prog 55 #[.slice a len cap] w (Drew3 w) := by
  go_enter Try.func55, Try.ntmps55
  go_wp2_with fail
  refine (open_any _ _ _ _ h).mono ?_; rintro e w1 ⟨B, rfl, hB, h1, hb1⟩
  have h1d : RdU B 0 w1.drew := h1.next ⟨rfl, rfl, rfl, Nat.le_refl _, fun _ _ => rfl⟩
  have hB1 := hb1.drew
  go_wp2_with fail
  go_region_with (first | (go_at_call 68; refine (year_any B 0 _ h1d (by omega)).mono ?_; rintro e w2 ⟨k, rfl, k0, k1, h2, hx2⟩) | (go_at_call_of 74 (Value.int IntKind.i64 53); refine (pick_any B _ 53 _ h2 (by omega) (by omega) (by omega)).mono ?_; rintro e w3 ⟨l, rfl, l0, l1, h3, hx3⟩; have ew := IntWalk.i64_in (1 + l) (by omega); have hb3 := h3.lt) | (go_at_call_of 74 (Value.int IntKind.i64 6); refine (pick_any B _ 6 _ (h3.alloc _) (by omega) (by omega) (by omega)).mono ?_; rintro e w4 ⟨i, rfl, i0, i1, h4, hx4⟩; have hL4 := blk_ext (blk_new w3 _) hx4 (by omega); obtain ⟨v, hv, v0, v1⟩ := blk_int_at [0, 1, 1 + l, 52, 53, 54] hL4 0 54 (by intro z hz; simp at hz; omega) i.toNat (by simp; omega)) | (go_at_call_of 74 (Value.int IntKind.i64 6); refine (pick_any B _ 6 _ h3 (by omega) (by omega) (by omega)).mono ?_; rintro e w4 ⟨i, rfl, i0, i1, h4, hx4⟩; have hb4 := h4.lt; have hL4 := blk_new w4 (.cells #[.int .i64 0, .int .i64 1, .int .i64 (1 + l), .int .i64 52, .int .i64 53, .int .i64 54] 3); obtain ⟨v, hv, v0, v1⟩ := blk_int_at [0, 1, 1 + l, 52, 53, 54] hL4 0 54 (by intro z hz; simp at hz; omega) i.toNat (by simp; omega)) | (go_at_call_of 74 (Value.int IntKind.i64 9); refine (pick_any B _ 9 _ h4 (by omega) (by omega) (by omega)).mono ?_; rintro e w5 ⟨j, rfl, j0, j1, h5, hx5⟩; obtain ⟨v', hv', v0', v1'⟩ := blk_int_at [0, 1, 1 + l, 52, 53, 54] (blk_ext hL4 hx5 (by omega)) 0 54 (by intro z hz; simp at hz; omega) i.toNat (by simp; omega)) | (go_at_call_of 74 (Value.int IntKind.i64 9); refine (pick_any B _ 9 _ (h4.alloc _) (by omega) (by omega) (by omega)).mono ?_; rintro e w5 ⟨j, rfl, j0, j1, h5, hx5⟩; obtain ⟨v', hv', v0', v1'⟩ := blk_int_at [0, 1, 1 + l, 52, 53, 54] (blk_ext hL4 hx5 (by omega)) 0 54 (by intro z hz; simp at hz; omega) i.toNat (by simp; omega)) | (go_at_call_of 74 (Value.int IntKind.i64 9); refine (pick_any B _ 9 _ h4 (by omega) (by omega) (by omega)).mono ?_; rintro e w5 ⟨j, rfl, j0, j1, h5, hx5⟩; have hb5 := h5.lt; obtain ⟨v', hv', v0', v1'⟩ := blk_int_at [0, 1, 1 + l, 52, 53, 54] (blk_new w5 (.cells #[.int .i64 0, .int .i64 1, .int .i64 (1 + l), .int .i64 52, .int .i64 53, .int .i64 54] 3)) 0 54 (by intro z hz; simp at hz; omega) i.toNat (by simp; omega)))
  all_goals (go_wp2_with fail; go_ret3; exact ⟨k, _, j, rfl, k0, k1, by omega, by omega, j0, by omega, hB1.trans (Ext.below (B := B) (by repeat (first | exact Ext.refl _ _ | refine Ext.alloc ?_ _ | refine Ext.trans ?_ (by assumption))) hB hB1.size)⟩)
end Go.Proofs.Ythfehlmddlfcmaa
