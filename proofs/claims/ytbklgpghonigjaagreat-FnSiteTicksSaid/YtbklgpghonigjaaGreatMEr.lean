/- Er: texts joined. -/
import Derived.Test.YtbklgpghonigjaaGreatMEd
namespace Go.Proofs.YtbklgpghonigjaaGreat
open Go Go.Deep Go.ChangeShapes Go.WideShapes Go.ChangeAt Go.RowKit
set_option linter.unusedSimpArgs false
set_option linter.unusedVariables false
theorem draw_ret {w wn : World} (la dy mi e1 n1 fe fn fu ho ha ne lo hi st : Int) (up : Bool) (xs : List VBlock) (A : Option Addr) (cap : Nat) (hZ : wn.heap[w.heap.size]? = some (.cells #[.int .i64 0, .int .i64 0, .int .i64 0, .slice none 0 0, .int .i64 0, .int .i64 0, .int .i64 0, .int .i64 0, .int .i64 0, .int .i64 0, .int .i64 0, .int .i64 0, .int .i64 0, .int .i64 0, .bool false, .int .i64 0] 33 (0, 0))) (hO : SOwn encBlock wn w.heap.size 40 A cap xs) (hB : Below w.heap.size w wn) :
    SOwn encBlock (wn.setRow w.heap.size #[.int .i64 la, .int .i64 dy, .int .i64 mi, .slice A xs.length cap, .int .i64 e1, .int .i64 n1, .int .i64 fe, .int .i64 fn, .int .i64 fu, .int .i64 ho, .int .i64 ha, .int .i64 ne, .int .i64 lo, .int .i64 hi, .bool up, .int .i64 st]) w.heap.size 40 A cap xs ∧ Below w.heap.size w (wn.setRow w.heap.size #[.int .i64 la, .int .i64 dy, .int .i64 mi, .slice A xs.length cap, .int .i64 e1, .int .i64 n1, .int .i64 fe, .int .i64 fn, .int .i64 fu, .int .i64 ho, .int .i64 ha, .int .i64 ne, .int .i64 lo, .int .i64 hi, .bool up, .int .i64 st]) ∧ (wn.setRow w.heap.size #[.int .i64 la, .int .i64 dy, .int .i64 mi, .slice A xs.length cap, .int .i64 e1, .int .i64 n1, .int .i64 fe, .int .i64 fn, .int .i64 fu, .int .i64 ho, .int .i64 ha, .int .i64 ne, .int .i64 lo, .int .i64 hi, .bool up, .int .i64 st]).heap[w.heap.size]? = some (.cells #[.int .i64 la, .int .i64 dy, .int .i64 mi, .slice A xs.length cap, .int .i64 e1, .int .i64 n1, .int .i64 fe, .int .i64 fn, .int .i64 fu, .int .i64 ho, .int .i64 ha, .int .i64 ne, .int .i64 lo, .int .i64 hi, .bool up, .int .i64 st] 33 (0, 0)) := by
  refine ⟨?_, ?_, setRow_heap _ _ _ _ _ _ hZ⟩
  · exact hO.grown_far (setRow_grown _ _ _) (fun g hg e => by
      have := SOwn.ne_typeE (n := 0) hO hZ (by decide)
      rw [hg] at this; simp [Value.ownBlock] at this e; exact this e.symm)
  · exact hB.grown (setRow_grown _ _ _) hB.size (fun j hj => by cases hj; exact Nat.le_refl _)
theorem quo29E {n : Int} (h0 : 0 ≤ n) (h1 : n < 30) : 0 ≤ n.tdiv 29 ∧ n.tdiv 29 ≤ 1 := by
  rw [Int.tdiv_eq_ediv_of_nonneg h0]; omega
def DrewSiteN (w : World) (e : Ending) (w' : World) : Prop :=
  ∃ (la dy mi e1 n1 fe fn fu ho ha ne lo hi st : Int) (up : Bool) (xs : List VBlock) (A : Option Addr) (cap : Nat) (mq : Int), e = .returned (.tuple #[.agg #[.int .i64 la, .int .i64 dy, .int .i64 mi, .slice A xs.length cap, .int .i64 e1, .int .i64 n1, .int .i64 fe, .int .i64 fn, .int .i64 fu, .int .i64 ho, .int .i64 ha, .int .i64 ne, .int .i64 lo, .int .i64 hi, .bool up, .int .i64 st], .int .i64 mq]) ∧ (-200 ≤ mq ∧ mq ≤ 300) ∧ (0 ≤ ho ∧ ho ≤ 100) ∧ xs.length ≤ 6 ∧ SOwn encBlock w' w.heap.size 40 A cap xs ∧ Below w.heap.size w w'
set_option maxRecDepth 100000 in
set_option maxHeartbeats 8000000 in
theorem drSiteTicks_any (a : Option Addr) (len cap : Nat) (w : World) (h : CodeOk w a len cap) : Calls Tryz.prog 30 #[.slice a len cap] w (DrewSiteN w) := by
  go_enter Tryz.func30, Tryz.ntmps30
  go_wp2_with fail
  refine (open_any _ _ _ _ (code_below h (bel1 w (.cells #[.int .i64 0, .int .i64 0, .int .i64 0, .slice none 0 0, .int .i64 0, .int .i64 0, .int .i64 0, .int .i64 0, .int .i64 0, .int .i64 0, .int .i64 0, .int .i64 0, .int .i64 0, .int .i64 0, .bool false, .int .i64 0] 33 (0, 0))))).mono ?_; rintro e w1 ⟨B, rfl, hB, h1, hb1⟩
  obtain ⟨hZ1, hB1⟩ := ownb hb1
  simp at hB
  have hz1 := hB1.size
  have hzR := blk_lt hZ1
  go_wp2_with fail
  refine (site_any B 0 9 _ h1 (by omega) (by omega) (by omega)).mono ?_; rintro e w2 ⟨la, dy, mi, e1, n1, fe, fn, fu, ho, ha, ne, lo, hi, st, up, xs, A, cap, rfl, hho, hx6, hO2, h2, hx2⟩
  go_wp2_with fail
  refine (pick_any B _ 97 _ h2 (by omega) (by omega) (by omega)).mono ?_; rintro e w3 ⟨m, rfl, m0, m1, h3, hx3⟩
  go_wp2_with fail
  refine (pick_any B _ 30 _ h3 (by omega) (by omega) (by omega)).mono ?_; rintro e w4 ⟨j, rfl, j0, j1, h4, hx4⟩
  obtain ⟨q0, q1⟩ := quo29E j0 j1
  obtain ⟨q, hq⟩ : ∃ q, j.tdiv 29 = q := ⟨_, rfl⟩
  rw [hq] at q0 q1
  have hqd : j / 29 = q := by rw [← hq, Int.tdiv_eq_ediv_of_nonneg j0]
  go_wp2_with fail
  refine (pick_any B _ 30 _ h4 (by omega) (by omega) (by omega)).mono ?_; rintro e w5 ⟨i, rfl, i0, i1, h5, hx5⟩
  obtain ⟨p0, p1⟩ := quo29E i0 i1
  obtain ⟨p, hp⟩ : ∃ q, i.tdiv 29 = q := ⟨_, rfl⟩
  rw [hp] at p0 p1
  have hpd : i / 29 = p := by rw [← hp, Int.tdiv_eq_ediv_of_nonneg i0]
  have hX := (hx2.trans hx3).trans (hx4.trans hx5)
  have hX3 := hx3.trans (hx4.trans hx5)
  have hZ5 := blk_ext hZ1 hX (by omega)
  have hB5 := hB1.trans (hX.below (N := w.heap.size) (by omega) hB1.size)
  have hO5 := SOwn.mono (base' := w.heap.size) (hO2.extK hX3 h1.lt) hz1
  obtain ⟨hO9, hB9, hZ9⟩ := draw_ret la dy mi e1 n1 fe fn fu ho ha ne lo hi st up xs A cap hZ5 hO5 hB5
  obtain ⟨u0, u1, u2, u3, u4, u5, u6, u7, u8, u9, u10, u11, u12, u13, u14, u15, u16, u17, u18, u19, u20, u21, u22, u23, u24, u25, u26, u27, u28, u29, u30, u31, zZ⟩ := blk16 hZ9
  go_wp2_with (refine wpList_store_row rfl 33 (.tmp 2) (.tmp 8) rfl w.heap.size _ rfl rfl 33 _ hZ5 (by kernel_rfl) (by kernel_rfl) (by kernel_rfl) ?_)
  exact bodyPost_ret (v := .tuple #[.agg #[.int .i64 la, .int .i64 dy, .int .i64 mi, .slice A xs.length cap, .int .i64 e1, .int .i64 n1, .int .i64 fe, .int .i64 fn, .int .i64 fu, .int .i64 ho, .int .i64 ha, .int .i64 ne, .int .i64 lo, .int .i64 hi, .bool up, .int .i64 st], .int .i64 (m + q * 97 - p * 99)]) (by simp [results, Tryz.results30, go_sem, u0, u1, u2, u3, u4, u5, u6, u7, u8, u9, u10, u11, u12, u13, u14, u15]) rfl ⟨la, dy, mi, e1, n1, fe, fn, fu, ho, ha, ne, lo, hi, st, up, xs, A, cap, _, rfl, ⟨by omega, by omega⟩, hho, hx6, hO9, hB9⟩
end Go.Proofs.YtbklgpghonigjaaGreat
