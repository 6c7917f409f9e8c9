/- Angles that are drawn out of a code. -/
import Derived.Test.YtbiajaafdbbmgadDr5
import Derived.Test.YtbiajaafdbbmgadAng
import Derived.Test.YtbiajaafdbbmgadWb
namespace Go.Proofs.Ytbiajaafdbbmgad
open Go.ChangeShapes Go.WideShapes Go.ChangeAt Go.RowKit
set_option linter.unusedSimpArgs false
set_option linter.unusedVariables false

theorem drSine_any (a : Option Addr) (len cap : Nat) (w : World) (h : CodeOk w a len cap) : Calls Try.prog 35 #[.slice a len cap] w (DrewI (-1020) 1020 w) := by
  go_enter Try.func35, Try.ntmps35
  go_wp2_with fail
  refine (open_any _ _ _ _ h).mono ?_; rintro e w1 ⟨B, rfl, hB, h1, hb1⟩
  go_wp2_with fail
  refine (angle_any B 0 _ h1 (by omega)).mono ?_; rintro e w2 ⟨k, rfl, k0, k1, _, hx⟩
  go_wp2
  go_ret
  exact ⟨k, rfl, k0, k1, hb1.trans (hx.below hB hb1.size)⟩
theorem drCosine_any (a : Option Addr) (len cap : Nat) (w : World) (h : CodeOk w a len cap) : Calls Try.prog 39 #[.slice a len cap] w (DrewI (-1020) 1020 w) := by
  go_enter Try.func39, Try.ntmps39
  go_wp2_with fail
  refine (open_any _ _ _ _ h).mono ?_; rintro e w1 ⟨B, rfl, hB, h1, hb1⟩
  go_wp2_with fail
  refine (angle_any B 0 _ h1 (by omega)).mono ?_; rintro e w2 ⟨k, rfl, k0, k1, _, hx⟩
  go_wp2
  go_ret
  exact ⟨k, rfl, k0, k1, hb1.trans (hx.below hB hb1.size)⟩
set_option maxHeartbeats 2000000 in
theorem drHeading_any (a : Option Addr) (len cap : Nat) (w : World) (h : CodeOk w a len cap) : Calls Try.prog 42 #[.slice a len cap] w (DrewW w) := by
  go_enter Try.func42, Try.ntmps42
  go_wp2_with fail
  refine (open_any _ _ _ _ (code_below h (bel1 _ _))).mono ?_; rintro e w1 ⟨B, rfl, hB, h1, hb1⟩
  obtain ⟨hH1, hB1⟩ := ownb hb1
  have hz1 := blk_lt hH1
  have hB' : w.heap.size < B := by simp at hB; omega
  clear hB
  go_wp2_with fail
  refine (pick_any B 0 2 _ h1 (by omega) (by omega) (by omega)).mono ?_; rintro e w2 ⟨k, rfl, k0, k1, h2, hx2⟩
  have hH2 := blk_ext hH1 hx2 (by omega)
  by_cases e0 : k = 0
  · subst e0
    go_wp2_with fail
    refine (angle_any B _ _ h2 (by omega)).mono ?_; rintro e w3 ⟨q, rfl, q0, q1, h3, hx3⟩
    have hH3 := blk_ext hH2 hx3 (by omega)
    have hB3 := hB1.trans ((hx2.trans hx3).below (N := w.heap.size) (by omega) (by omega))
    obtain ⟨c0, c1, f0, f1, hz⟩ := blk2 hH3
    have hs := sin_bd q
    have hc := cos_bd q
    go_wp2_with fail
    refine (sCos_any _ _).mono ?_; rintro e w' ⟨rfl, rfl⟩
    go_wp2_with fail
    refine (sSine_any _ _).mono ?_; rintro e w' ⟨rfl, rfl⟩
    go_wp2
    exact bodyPost_ret (v := .agg #[.int .i64 (cosI q), .int .i64 (sinI q)]) (by simp [results, Try.results42, go_sem, c0, c1]) rfl ⟨_, _, rfl, by omega, by omega, by omega, by omega, (hB3.setCell (p := ⟨_, _, _⟩) (by simp) _).setCell (p := ⟨_, _, _⟩) (by simp) _⟩
  · have z0 : (k == 0) = false := by rw [beq_eq_false_iff_ne]; omega
    clear e0
    go_wp2_with fail
    refine (way_any B _ 9 _ h2 (by omega) (by omega) (by omega)).mono ?_; rintro e w3 ⟨x, y, rfl, x0, x1, y0, y1, _, hx3⟩
    have hH3 := blk_ext hH2 hx3 (by omega)
    have hB3 := hB1.trans ((hx2.trans hx3).below (N := w.heap.size) (by omega) (by omega))
    obtain ⟨c0, c1, f0, f1, hz⟩ := blk2 hH3
    go_wp2
    exact bodyPost_ret (v := .agg #[.int .i64 x, .int .i64 y]) (by simp [results, Try.results42, go_sem, c0, c1]) rfl ⟨_, _, rfl, x0, x1, y0, y1, (hB3.setCell (p := ⟨_, _, _⟩) (by simp) _).setCell (p := ⟨_, _, _⟩) (by simp) _⟩
end Go.Proofs.Ytbiajaafdbbmgad
