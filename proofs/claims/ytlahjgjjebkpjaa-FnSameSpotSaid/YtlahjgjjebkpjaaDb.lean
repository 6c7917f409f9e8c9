/- What the laws of chapter 5 draw: one thing. -/
import Derived.Test.YtlahjgjjebkpjaaDa
import Derived.Test.YtlahjgjjebkpjaaVt
import Derived.Test.YtlahjgjjebkpjaaLp
namespace Go.Proofs.Ytlahjgjjebkpjaa
open Go Go.ChangeShapes Go.WideShapes Go.ChangeAt Go.RowKit
set_option linter.unusedSimpArgs false
set_option linter.unusedVariables false

def DrewPlace (w : World) (e : Ending) (w' : World) : Prop := ∃ x0 x1 : Int, e = .returned (.agg #[.int .i64 x0, .int .i64 x1]) ∧ (-100 ≤ x0 ∧ x0 ≤ 100) ∧ (-100 ≤ x1 ∧ x1 ≤ 100) ∧ Below w.heap.size w w'
set_option maxHeartbeats 2000000 in
theorem drPlaceValid_any (a : Option Addr) (len cap : Nat) (w : World) (h : CodeOk w a len cap) : Calls Try.prog 12 #[.slice a len cap] w (DrewPlace w) := by
  go_enter Try.func12, Try.ntmps12
  go_wp2_with fail
  refine (open_any _ _ _ _ (code_below h (bel1 _ _))).mono ?_; rintro e w1 ⟨B, rfl, hB, h1, hb1⟩
  obtain ⟨hH1, hB1⟩ := ownb hb1
  have hz1 := blk_lt hH1
  have hB' : w.heap.size < B := by simp at hB; omega
  clear hB
  go_wp2_with fail
  refine (place_any B 0 2 _ h1 (by omega) (by omega) (by omega)).mono ?_; rintro e w2 ⟨x0, x1, rfl, ⟨x0_0, x0_1⟩, ⟨x1_0, x1_1⟩, _, hx⟩
  have hH2 := blk_ext hH1 hx (by omega)
  have hB2 := hB1.trans (hx.below (N := w.heap.size) (by omega) (by omega))
  obtain ⟨c0, c1, f0, f1, hz⟩ := blk2 hH2
  go_wp2
  exact bodyPost_ret (v := .agg #[.int .i64 x0, .int .i64 x1]) (by simp [results, Try.results12, go_sem, c0, c1]) rfl ⟨_, _, rfl, ⟨x0_0, x0_1⟩, ⟨x1_0, x1_1⟩, ((hB2.setCell (p := ⟨_, _, _⟩) (by simp) _).setCell (p := ⟨_, _, _⟩) (by simp) _)⟩
set_option maxHeartbeats 2000000 in
theorem drPlaceTurn_any (a : Option Addr) (len cap : Nat) (w : World) (h : CodeOk w a len cap) : Calls Try.prog 35 #[.slice a len cap] w (DrewPlace w) := by
  go_enter Try.func35, Try.ntmps35
  go_wp2_with fail
  refine (open_any _ _ _ _ (code_below h (bel1 _ _))).mono ?_; rintro e w1 ⟨B, rfl, hB, h1, hb1⟩
  obtain ⟨hH1, hB1⟩ := ownb hb1
  have hz1 := blk_lt hH1
  have hB' : w.heap.size < B := by simp at hB; omega
  clear hB
  go_wp2_with fail
  refine (place_any B 0 6 _ h1 (by omega) (by omega) (by omega)).mono ?_; rintro e w2 ⟨x0, x1, rfl, ⟨x0_0, x0_1⟩, ⟨x1_0, x1_1⟩, _, hx⟩
  have hH2 := blk_ext hH1 hx (by omega)
  have hB2 := hB1.trans (hx.below (N := w.heap.size) (by omega) (by omega))
  obtain ⟨c0, c1, f0, f1, hz⟩ := blk2 hH2
  go_wp2
  exact bodyPost_ret (v := .agg #[.int .i64 x0, .int .i64 x1]) (by simp [results, Try.results35, go_sem, c0, c1]) rfl ⟨_, _, rfl, ⟨x0_0, x0_1⟩, ⟨x1_0, x1_1⟩, ((hB2.setCell (p := ⟨_, _, _⟩) (by simp) _).setCell (p := ⟨_, _, _⟩) (by simp) _)⟩
def DrewBlock (w : World) (e : Ending) (w' : World) : Prop := ∃ x0 x1 x2 x3 x4 : Int, e = .returned (.agg #[.int .i64 x0, .int .i64 x1, .int .i64 x2, .int .i64 x3, .int .i64 x4]) ∧ (-100 ≤ x0 ∧ x0 ≤ 100) ∧ (-100 ≤ x1 ∧ x1 ≤ 100) ∧ (-100 ≤ x2 ∧ x2 ≤ 100) ∧ (-100 ≤ x3 ∧ x3 ≤ 100) ∧ (-100 ≤ x4 ∧ x4 ≤ 100) ∧ Below w.heap.size w w'
set_option maxHeartbeats 2000000 in
theorem drBlockValid_any (a : Option Addr) (len cap : Nat) (w : World) (h : CodeOk w a len cap) : Calls Try.prog 16 #[.slice a len cap] w (DrewBlock w) := by
  go_enter Try.func16, Try.ntmps16
  go_wp2_with fail
  refine (open_any _ _ _ _ (code_below h (bel1 _ _))).mono ?_; rintro e w1 ⟨B, rfl, hB, h1, hb1⟩
  obtain ⟨hH1, hB1⟩ := ownb hb1
  have hz1 := blk_lt hH1
  have hB' : w.heap.size < B := by simp at hB; omega
  clear hB
  go_wp2_with fail
  refine (block_any B 0 2 _ h1 (by omega) (by omega) (by omega)).mono ?_; rintro e w2 ⟨x0, x1, x2, x3, x4, rfl, ⟨x0_0, x0_1⟩, ⟨x1_0, x1_1⟩, ⟨x2_0, x2_1⟩, ⟨x3_0, x3_1⟩, ⟨x4_0, x4_1⟩, _, hx⟩
  have hH2 := blk_ext hH1 hx (by omega)
  have hB2 := hB1.trans (hx.below (N := w.heap.size) (by omega) (by omega))
  obtain ⟨c0, c1, c2, c3, c4, f0, f1, f2, f3, f4, hz⟩ := blk5 hH2
  go_wp2
  exact bodyPost_ret (v := .agg #[.int .i64 x0, .int .i64 x1, .int .i64 x2, .int .i64 x3, .int .i64 x4]) (by simp [results, Try.results16, go_sem, c0, c1, c2, c3, c4]) rfl ⟨_, _, _, _, _, rfl, ⟨x0_0, x0_1⟩, ⟨x1_0, x1_1⟩, ⟨x2_0, x2_1⟩, ⟨x3_0, x3_1⟩, ⟨x4_0, x4_1⟩, (((((hB2.setCell (p := ⟨_, _, _⟩) (by simp) _).setCell (p := ⟨_, _, _⟩) (by simp) _).setCell (p := ⟨_, _, _⟩) (by simp) _).setCell (p := ⟨_, _, _⟩) (by simp) _).setCell (p := ⟨_, _, _⟩) (by simp) _)⟩
set_option maxHeartbeats 2000000 in
theorem drBlockTurn_any (a : Option Addr) (len cap : Nat) (w : World) (h : CodeOk w a len cap) : Calls Try.prog 38 #[.slice a len cap] w (DrewBlock w) := by
  go_enter Try.func38, Try.ntmps38
  go_wp2_with fail
  refine (open_any _ _ _ _ (code_below h (bel1 _ _))).mono ?_; rintro e w1 ⟨B, rfl, hB, h1, hb1⟩
  obtain ⟨hH1, hB1⟩ := ownb hb1
  have hz1 := blk_lt hH1
  have hB' : w.heap.size < B := by simp at hB; omega
  clear hB
  go_wp2_with fail
  refine (block_any B 0 6 _ h1 (by omega) (by omega) (by omega)).mono ?_; rintro e w2 ⟨x0, x1, x2, x3, x4, rfl, ⟨x0_0, x0_1⟩, ⟨x1_0, x1_1⟩, ⟨x2_0, x2_1⟩, ⟨x3_0, x3_1⟩, ⟨x4_0, x4_1⟩, _, hx⟩
  have hH2 := blk_ext hH1 hx (by omega)
  have hB2 := hB1.trans (hx.below (N := w.heap.size) (by omega) (by omega))
  obtain ⟨c0, c1, c2, c3, c4, f0, f1, f2, f3, f4, hz⟩ := blk5 hH2
  go_wp2
  exact bodyPost_ret (v := .agg #[.int .i64 x0, .int .i64 x1, .int .i64 x2, .int .i64 x3, .int .i64 x4]) (by simp [results, Try.results38, go_sem, c0, c1, c2, c3, c4]) rfl ⟨_, _, _, _, _, rfl, ⟨x0_0, x0_1⟩, ⟨x1_0, x1_1⟩, ⟨x2_0, x2_1⟩, ⟨x3_0, x3_1⟩, ⟨x4_0, x4_1⟩, (((((hB2.setCell (p := ⟨_, _, _⟩) (by simp) _).setCell (p := ⟨_, _, _⟩) (by simp) _).setCell (p := ⟨_, _, _⟩) (by simp) _).setCell (p := ⟨_, _, _⟩) (by simp) _).setCell (p := ⟨_, _, _⟩) (by simp) _)⟩
def DrewRay (w : World) (e : Ending) (w' : World) : Prop := ∃ x0 x1 x2 : Int, e = .returned (.agg #[.int .i64 x0, .int .i64 x1, .int .i64 x2]) ∧ (-100 ≤ x0 ∧ x0 ≤ 100) ∧ (-100 ≤ x1 ∧ x1 ≤ 100) ∧ (-100 ≤ x2 ∧ x2 ≤ 100) ∧ Below w.heap.size w w'
set_option maxHeartbeats 2000000 in
theorem drRayValid_any (a : Option Addr) (len cap : Nat) (w : World) (h : CodeOk w a len cap) : Calls Try.prog 19 #[.slice a len cap] w (DrewRay w) := by
  go_enter Try.func19, Try.ntmps19
  go_wp2_with fail
  refine (open_any _ _ _ _ (code_below h (bel1 _ _))).mono ?_; rintro e w1 ⟨B, rfl, hB, h1, hb1⟩
  obtain ⟨hH1, hB1⟩ := ownb hb1
  have hz1 := blk_lt hH1
  have hB' : w.heap.size < B := by simp at hB; omega
  clear hB
  go_wp2_with fail
  refine (ray_any B 0 2 _ h1 (by omega) (by omega) (by omega)).mono ?_; rintro e w2 ⟨x0, x1, x2, rfl, ⟨x0_0, x0_1⟩, ⟨x1_0, x1_1⟩, ⟨x2_0, x2_1⟩, _, hx⟩
  have hH2 := blk_ext hH1 hx (by omega)
  have hB2 := hB1.trans (hx.below (N := w.heap.size) (by omega) (by omega))
  obtain ⟨c0, c1, c2, f0, f1, f2, hz⟩ := blk3 hH2
  go_wp2
  exact bodyPost_ret (v := .agg #[.int .i64 x0, .int .i64 x1, .int .i64 x2]) (by simp [results, Try.results19, go_sem, c0, c1, c2]) rfl ⟨_, _, _, rfl, ⟨x0_0, x0_1⟩, ⟨x1_0, x1_1⟩, ⟨x2_0, x2_1⟩, (((hB2.setCell (p := ⟨_, _, _⟩) (by simp) _).setCell (p := ⟨_, _, _⟩) (by simp) _).setCell (p := ⟨_, _, _⟩) (by simp) _)⟩
set_option maxHeartbeats 2000000 in
theorem drRayTurn_any (a : Option Addr) (len cap : Nat) (w : World) (h : CodeOk w a len cap) : Calls Try.prog 32 #[.slice a len cap] w (DrewRay w) := by
  go_enter Try.func32, Try.ntmps32
  go_wp2_with fail
  refine (open_any _ _ _ _ (code_below h (bel1 _ _))).mono ?_; rintro e w1 ⟨B, rfl, hB, h1, hb1⟩
  obtain ⟨hH1, hB1⟩ := ownb hb1
  have hz1 := blk_lt hH1
  have hB' : w.heap.size < B := by simp at hB; omega
  clear hB
  go_wp2_with fail
  refine (ray_any B 0 6 _ h1 (by omega) (by omega) (by omega)).mono ?_; rintro e w2 ⟨x0, x1, x2, rfl, ⟨x0_0, x0_1⟩, ⟨x1_0, x1_1⟩, ⟨x2_0, x2_1⟩, _, hx⟩
  have hH2 := blk_ext hH1 hx (by omega)
  have hB2 := hB1.trans (hx.below (N := w.heap.size) (by omega) (by omega))
  obtain ⟨c0, c1, c2, f0, f1, f2, hz⟩ := blk3 hH2
  go_wp2
  exact bodyPost_ret (v := .agg #[.int .i64 x0, .int .i64 x1, .int .i64 x2]) (by simp [results, Try.results32, go_sem, c0, c1, c2]) rfl ⟨_, _, _, rfl, ⟨x0_0, x0_1⟩, ⟨x1_0, x1_1⟩, ⟨x2_0, x2_1⟩, (((hB2.setCell (p := ⟨_, _, _⟩) (by simp) _).setCell (p := ⟨_, _, _⟩) (by simp) _).setCell (p := ⟨_, _, _⟩) (by simp) _)⟩
theorem iPT_is {e n p : Int} (w : World) (hv : plB e n = true) (hp : -n = p) : Calls Try.prog 36 #[.agg #[.int .i64 e, .int .i64 n]] w fun E w' => E = .returned (.agg #[.int .i64 p, .int .i64 e]) ∧ Below w.heap.size w w' := by subst hp; exact iPT_t e n w hv
theorem iRT_is {e n u p : Int} (w : World) (hv : ryB e n u = true) (hp : -n = p) : Calls Try.prog 33 #[.agg #[.int .i64 e, .int .i64 n, .int .i64 u]] w fun E w' => E = .returned (.agg #[.int .i64 p, .int .i64 e, .int .i64 u]) ∧ Below w.heap.size w w' := by subst hp; exact iRT_t e n u w hv
theorem iBT_is {a b c d h p q : Int} (w : World) (hv : blB a b c d h = true) (hp : -d = p) (hq : -c = q) : Calls Try.prog 39 #[.agg #[.int .i64 a, .int .i64 b, .int .i64 c, .int .i64 d, .int .i64 h]] w fun E w' => E = .returned (.agg #[.int .i64 p, .int .i64 q, .int .i64 a, .int .i64 b, .int .i64 h]) ∧ Below w.heap.size w w' := by subst hp; subst hq; exact iBT_t a b c d h w hv
theorem sPT_is {e n p : Int} (w : World) (hv : plB e n = true) (hp : -n = p) : Calls Try.prog 37 #[.agg #[.int .i64 e, .int .i64 n]] w fun E w' => E = .returned (.agg #[.int .i64 p, .int .i64 e]) ∧ Below w.heap.size w w' := by subst hp; exact sPT_t e n w hv
theorem sRT_is {e n u p : Int} (w : World) (hv : ryB e n u = true) (hp : -n = p) : Calls Try.prog 34 #[.agg #[.int .i64 e, .int .i64 n, .int .i64 u]] w fun E w' => E = .returned (.agg #[.int .i64 p, .int .i64 e, .int .i64 u]) ∧ Below w.heap.size w w' := by subst hp; exact sRT_t e n u w hv
theorem sBT_is {a b c d h p q : Int} (w : World) (hv : blB a b c d h = true) (hp : -d = p) (hq : -c = q) : Calls Try.prog 40 #[.agg #[.int .i64 a, .int .i64 b, .int .i64 c, .int .i64 d, .int .i64 h]] w fun E w' => E = .returned (.agg #[.int .i64 p, .int .i64 q, .int .i64 a, .int .i64 b, .int .i64 h]) ∧ Below w.heap.size w w' := by subst hp; subst hq; exact sBT_t a b c d h w hv
end Go.Proofs.Ytlahjgjjebkpjaa
