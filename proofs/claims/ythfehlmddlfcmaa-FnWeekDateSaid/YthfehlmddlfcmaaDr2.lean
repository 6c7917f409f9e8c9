/- What the laws of chapter 1 draw out of a code: pairs. -/
import Derived.Test.YthfehlmddlfcmaaDr1
namespace Go.Proofs.Ythfehlmddlfcmaa
open Go.ChangeShapes Go.WideShapes Go.ChangeAt Go.RowKit
set_option linter.unusedSimpArgs false

def Drew2 (lo hi lo2 hi2 : Int) (w : World) (e : Ending) (w' : World) : Prop := ∃ k l : Int, e = .returned (.tuple #[.int .i64 k, .int .i64 l]) ∧ lo ≤ k ∧ k ≤ hi ∧ lo2 ≤ l ∧ l ≤ hi2 ∧ Below w.heap.size w w'
theorem drMonthLong_any (a : Option Addr) (len cap : Nat) (w : World) (h : CodeOk w a len cap) :
    Calls Try.prog 29 #[.slice a len cap] w (Drew2 (-4) 4100 0 13 w) := by
  go_enter Try.func29, Try.ntmps29
  go_wp2_with fail
  refine (open_any _ _ _ _ h).mono ?_; rintro e w1 ⟨B, rfl, hB, h1, hb1⟩
  go_wp2_with fail
  refine (year_any B 0 _ h1 (by omega)).mono ?_; rintro e w2 ⟨k, rfl, k0, k1, h2, hx⟩
  go_wp2_with fail
  refine (pick_any B _ 14 _ h2 (by omega) (by omega) (by omega)).mono ?_; rintro e w3 ⟨l, rfl, l0, l1, _, hx3⟩
  go_wp2
  go_ret2
  exact ⟨k, l, rfl, k0, k1, l0, by omega, hb1.trans ((hx.trans hx3).below hB hb1.size)⟩
def DrewD1 (w : World) (e : Ending) (w' : World) : Prop := ∃ y m d k : Int, e = .returned (.tuple #[.agg #[.int .i64 y, .int .i64 m, .int .i64 d], .int .i64 k]) ∧ -10 ≤ y ∧ y ≤ 5000 ∧ -10 ≤ m ∧ m ≤ 100 ∧ -10 ≤ d ∧ d ≤ 100 ∧ -2000000 ≤ k ∧ k ≤ 2000000 ∧ Below w.heap.size w w'
set_option maxHeartbeats 4000000 in
theorem drDateAdd_any (a : Option Addr) (len cap : Nat) (w : World) (h : CodeOk w a len cap) :
    Calls Try.prog 39 #[.slice a len cap] w (DrewD1 w) := by
  go_enter Try.func39, Try.ntmps39
  go_wp2_with fail
  refine (open_any _ _ _ _ (code_below h (bel1 _ _))).mono ?_; rintro e w1 ⟨B, rfl, hB, h1, hb1⟩
  obtain ⟨hH1, hB1⟩ := ownb hb1
  have hz1 := blk_lt hH1
  have hB' : w.heap.size < B := by simp at hB; omega
  clear hB
  go_wp2_with fail
  refine (date_any B 0 12 _ h1 (by omega) (by omega) (by omega)).mono ?_; rintro e w2 ⟨y, m, d, rfl, y0, y1, m0, m1, d0, d1, h2, hx⟩
  have hH2 := blk_ext hH1 hx (by omega)
  have hBw2 := h2.lt
  have hB2 := hB1.trans (hx.below (N := w.heap.size) (by omega) (by omega))
  have hz2 := blk_lt hH2
  go_wp2_with fail
  refine (pick_any B _ 3 _ (h2.alloc _) (by omega) (by omega) (by omega)).mono ?_; rintro e w3 ⟨k, rfl, k0, k1, h3, hx3⟩
  have hH3 := blk_ext (blk_old hH2 _) hx3 (by omega)
  have hD3 := blk_ext (blk_new w2 _) hx3 (by omega)
  have hB3 := (hB2.alloc (by omega) _).trans (hx3.below (N := w.heap.size) (by omega) (by simp; omega))
  obtain ⟨c0, c1, c2, f0, f1, f2, hz⟩ := blk3 hH3
  obtain ⟨g0, g1, g2, e0, e1, e2, hz'⟩ := blk3 hD3
  have h3d : RdU B _ w3.drew := h3.next ⟨rfl, rfl, rfl, Nat.le_refl _, fun _ _ => rfl⟩
  have hH3d : w3.drew.heap[w.heap.size]? = _ := hH3
  have hD3d : w3.drew.heap[w2.heap.size]? = _ := hD3
  have hB3d := hB3.drew
  clear hH1 hH2 hB1 hB2 hB3 hH3 hD3 hx hx3 hb1 h1 h2
  by_cases hk : k = 0
  · subst hk
    go_wp2_with fail
    go_region_held3 (fun w' => w'.cell? ⟨w2.heap.size, 0, none⟩ = some (.int .i64 y) ∧ w'.cell? ⟨w2.heap.size, 1, none⟩ = some (.int .i64 m) ∧ w'.cell? ⟨w2.heap.size, 2, none⟩ = some (.int .i64 d))
      (first
        | (refine ⟨?_, ?_, ?_⟩ <;> first | assumption | (simp [*]; done))
        | exact ⟨t0, t1, t2⟩
        | (refine ⟨?_, ?_, ?_⟩ <;> (rw [World.cell?_setCell_far _ _ _ _ (by first | (simp; done) | (simp; omega)), World.cell?_setCell_far _ _ _ _ (by first | (simp; done) | (simp; omega)), World.cell?_setCell_far _ _ _ _ (by first | (simp; done) | (simp; omega))]; assumption)))
      (first | (go_at_call 81; refine (day_any B _ _ h3d (by omega)).mono ?_; rintro e w4 ⟨j, rfl, j0, j1, h4, hx4⟩; have hH4 := blk_ext hH3d hx4 (by omega); have hD4 := blk_ext hD3d hx4 (by omega); have hB4 := hB3d.trans (hx4.below (N := w.heap.size) (by omega) (by simp; omega)); obtain ⟨s0, s1, s2, r0, r1, r2, hs⟩ := blk3 hH4; obtain ⟨t0, t1, t2, q0, q1, q2, ht⟩ := blk3 hD4; have ew := IntWalk.i64_in (j - 700000) (by omega)))
    go_wp2_with fail
    exact bodyPost_ret (v := .tuple #[.agg #[.int .i64 y, .int .i64 m, .int .i64 d], .int .i64 (j - 700000)]) (by simp [results, Try.results39, go_sem, s0, s1, s2]) rfl ⟨_, _, _, _, rfl, y0, y1, m0, m1, d0, d1, by omega, by omega, (((hB4.setCell (p := ⟨_, _, _⟩) (by simp) _).setCell (p := ⟨_, _, _⟩) (by simp) _).setCell (p := ⟨_, _, _⟩) (by simp) _)⟩
  · have ek : (k == 0) = false := by rw [beq_eq_false_iff_ne]; omega
    clear hk
    go_wp2_with fail
    go_region_held3 (fun w' => w'.cell? ⟨w2.heap.size, 0, none⟩ = some (.int .i64 y) ∧ w'.cell? ⟨w2.heap.size, 1, none⟩ = some (.int .i64 m) ∧ w'.cell? ⟨w2.heap.size, 2, none⟩ = some (.int .i64 d))
      (first
        | (refine ⟨?_, ?_, ?_⟩ <;> first | assumption | (simp [*]; done))
        | exact ⟨t0, t1, t2⟩
        | (refine ⟨?_, ?_, ?_⟩ <;> (rw [World.cell?_setCell_far _ _ _ _ (by first | (simp; done) | (simp; omega)), World.cell?_setCell_far _ _ _ _ (by first | (simp; done) | (simp; omega)), World.cell?_setCell_far _ _ _ _ (by first | (simp; done) | (simp; omega))]; assumption)))
      (first | (go_at_call 74; refine (pick_any B _ 256 _ h3d (by omega) (by omega) (by omega)).mono ?_; rintro e w4 ⟨j, rfl, j0, j1, h4, hx4⟩; have hH4 := blk_ext hH3d hx4 (by omega); have hD4 := blk_ext hD3d hx4 (by omega); have hB4 := hB3d.trans (hx4.below (N := w.heap.size) (by omega) (by simp; omega)); obtain ⟨s0, s1, s2, r0, r1, r2, hs⟩ := blk3 hH4; obtain ⟨t0, t1, t2, q0, q1, q2, ht⟩ := blk3 hD4; have ew := IntWalk.i64_in (j * 3) (by omega); have ew2 := IntWalk.i64_in (j * 3 - 380) (by omega)))
    go_wp2_with fail
    exact bodyPost_ret (v := .tuple #[.agg #[.int .i64 y, .int .i64 m, .int .i64 d], .int .i64 (j * 3 - 380)]) (by simp [results, Try.results39, go_sem, s0, s1, s2]) rfl ⟨_, _, _, _, rfl, y0, y1, m0, m1, d0, d1, by omega, by omega, (((hB4.setCell (p := ⟨_, _, _⟩) (by simp) _).setCell (p := ⟨_, _, _⟩) (by simp) _).setCell (p := ⟨_, _, _⟩) (by simp) _)⟩
end Go.Proofs.Ythfehlmddlfcmaa
