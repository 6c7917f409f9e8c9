/- Sites: SiteRay, SiteLight, SiteGain on both sides. -/
import Derived.Laws.Rows
import Derived.Test.YtigndpajpofofaaEg
import Derived.Test.YtigndpajpofofaaEh
namespace Go.Proofs.Ytigndpajpofofaa
open Go Go.ChangeShapes Go.WideShapes Go.ChangeAt Go.RowKit
set_option linter.unusedSimpArgs false
set_option linter.unusedVariables false
set_option linter.unnecessarySimpa false

theorem ra_one (u : Int) : (if raI u (-20) < 1 then 1 else raI u (-20)) = raI u 1 := by unfold raI; split <;> omega
theorem sSR_is (la dy mi e1 n1 fe fn fu ho ha ne lo hi st : Int) (up : Bool) (A : Option Addr) (cap : Nat) (xs : List VBlock) {x y z : Int} {b : Bool} {n : Nat} (w : World) (hn : xs.length = n) (h : SRow encBlock w A xs) (hl : n ≤ 2000000) (hb : siB la dy mi e1 n1 fe fn fu ho ha ne lo hi st xs = true) (hx : ryE la dy mi = x) (hy : ryN la dy mi = y) (hz : ryU la dy mi = z) (kO : ryO la dy mi = b) :
    Calls Try.prog 12 #[.agg #[.int .i64 la, .int .i64 dy, .int .i64 mi, .slice A n cap, .int .i64 e1, .int .i64 n1, .int .i64 fe, .int .i64 fn, .int .i64 fu, .int .i64 ho, .int .i64 ha, .int .i64 ne, .int .i64 lo, .int .i64 hi, .bool up, .int .i64 st]] w fun E w' => E = .returned (.tuple #[.agg #[.int .i64 x, .int .i64 y, .int .i64 z], .bool b]) ∧ Below w.heap.size w w' := by
  have he := east_bd (tiltI dy) (haI mi)
  have hno := north_bd la (tiltI dy) (haI mi)
  have hu := up_bd la (tiltI dy) (haI mi)
  have hs := sky_of hb
  subst kO hx hy hz
  cases h9 : ryO la dy mi
  · obtain ⟨a1, a2, a3⟩ := ry_no h9
    rw [a1, a2, a3]
    simp only [ryO, decide_eq_false_iff_not] at h9
    exact sSRno la dy mi e1 n1 fe fn fu ho ha ne lo hi st up A cap xs w hn h hl hb rfl rfl hs rfl rfl rfl (by unfold suI at h9; omega)
  · simp only [ryO, decide_eq_true_eq] at h9
    have a1 : ryE la dy mi = reI dy mi := by simp [ryE, h9]
    have a2 : ryN la dy mi = rnI la dy mi := by simp [ryN, h9]
    have a3 : ryU la dy mi = ruI la dy mi := by simp [ryU, h9]
    rw [a1, a2, a3]
    exact sSRyes la dy mi e1 n1 fe fn fu ho ha ne lo hi st up A cap xs w hn h hl hb rfl rfl hs rfl rfl rfl h9 ⟨by omega, by omega⟩ hno hu rfl rfl rfl (ra_one _)
theorem iSR_is (la dy mi e1 n1 fe fn fu ho ha ne lo hi st : Int) (up : Bool) (A : Option Addr) (cap : Nat) (xs : List VBlock) {x y z : Int} {b : Bool} {n : Nat} (w : World) (hn : xs.length = n) (h : SRow encBlock w A xs) (hl : n ≤ 2000000) (hb : siB la dy mi e1 n1 fe fn fu ho ha ne lo hi st xs = true) (hx : ryE la dy mi = x) (hy : ryN la dy mi = y) (hz : ryU la dy mi = z) (kO : ryO la dy mi = b) :
    Calls Try.prog 13 #[.agg #[.int .i64 la, .int .i64 dy, .int .i64 mi, .slice A n cap, .int .i64 e1, .int .i64 n1, .int .i64 fe, .int .i64 fn, .int .i64 fu, .int .i64 ho, .int .i64 ha, .int .i64 ne, .int .i64 lo, .int .i64 hi, .bool up, .int .i64 st]] w fun E w' => E = .returned (.tuple #[.agg #[.int .i64 x, .int .i64 y, .int .i64 z], .bool b]) ∧ Below w.heap.size w w' := by
  have he := east_bd (tiltI dy) (haI mi)
  have hno := north_bd la (tiltI dy) (haI mi)
  have hu := up_bd la (tiltI dy) (haI mi)
  have hs := sky_of hb
  subst kO hx hy hz
  cases h9 : ryO la dy mi
  · obtain ⟨a1, a2, a3⟩ := ry_no h9
    rw [a1, a2, a3]
    simp only [ryO, decide_eq_false_iff_not] at h9
    exact iSRno la dy mi e1 n1 fe fn fu ho ha ne lo hi st up A cap xs w hn h hl hb rfl rfl hs rfl rfl rfl (by unfold suI at h9; omega)
  · simp only [ryO, decide_eq_true_eq] at h9
    have a1 : ryE la dy mi = reI dy mi := by simp [ryE, h9]
    have a2 : ryN la dy mi = rnI la dy mi := by simp [ryN, h9]
    have a3 : ryU la dy mi = ruI la dy mi := by simp [ryU, h9]
    rw [a1, a2, a3]
    exact iSRyes la dy mi e1 n1 fe fn fu ho ha ne lo hi st up A cap xs w hn h hl hb rfl rfl hs rfl rfl rfl h9 ⟨by omega, by omega⟩ hno hu rfl rfl rfl
/-- The direction to the sun at any site. -/
def srE (la dy mi e1 n1 fe fn fu ho ha ne lo hi st : Int) (xs : List VBlock) : Int := if siB la dy mi e1 n1 fe fn fu ho ha ne lo hi st xs = true then ryE la dy mi else 0
def srN (la dy mi e1 n1 fe fn fu ho ha ne lo hi st : Int) (xs : List VBlock) : Int := if siB la dy mi e1 n1 fe fn fu ho ha ne lo hi st xs = true then ryN la dy mi else 0
def srU (la dy mi e1 n1 fe fn fu ho ha ne lo hi st : Int) (xs : List VBlock) : Int := if siB la dy mi e1 n1 fe fn fu ho ha ne lo hi st xs = true then ryU la dy mi else 0
def srO (la dy mi e1 n1 fe fn fu ho ha ne lo hi st : Int) (xs : List VBlock) : Bool := siB la dy mi e1 n1 fe fn fu ho ha ne lo hi st xs && ryO la dy mi
theorem sSRv_is (la dy mi e1 n1 fe fn fu ho ha ne lo hi st : Int) (up : Bool) (A : Option Addr) (cap : Nat) (xs : List VBlock) {x y z : Int} {b : Bool} {n : Nat} (w : World) (hn : xs.length = n) (h : SRow encBlock w A xs) (hl : n ≤ 2000000) (hx : srE la dy mi e1 n1 fe fn fu ho ha ne lo hi st xs = x) (hy : srN la dy mi e1 n1 fe fn fu ho ha ne lo hi st xs = y) (hz : srU la dy mi e1 n1 fe fn fu ho ha ne lo hi st xs = z) (kO : srO la dy mi e1 n1 fe fn fu ho ha ne lo hi st xs = b) :
    Calls Try.prog 12 #[.agg #[.int .i64 la, .int .i64 dy, .int .i64 mi, .slice A n cap, .int .i64 e1, .int .i64 n1, .int .i64 fe, .int .i64 fn, .int .i64 fu, .int .i64 ho, .int .i64 ha, .int .i64 ne, .int .i64 lo, .int .i64 hi, .bool up, .int .i64 st]] w fun E w' => E = .returned (.tuple #[.agg #[.int .i64 x, .int .i64 y, .int .i64 z], .bool b]) ∧ Below w.heap.size w w' := by
  unfold srE at hx
  unfold srN at hy
  unfold srU at hz
  unfold srO at kO
  cases hb : siB la dy mi e1 n1 fe fn fu ho ha ne lo hi st xs
  · rw [hb] at hx hy hz kO
    simp only [Bool.false_eq_true, if_false, Bool.false_and] at hx hy hz kO
    subst hx hy hz kO
    exact sSRbad la dy mi e1 n1 fe fn fu ho ha ne lo hi st up A cap xs w hn h hl hb
  · rw [hb] at hx hy hz kO
    simp only [if_true, Bool.true_and] at hx hy hz kO
    exact sSR_is la dy mi e1 n1 fe fn fu ho ha ne lo hi st up A cap xs w hn h hl hb hx hy hz kO
theorem iSRv_is (la dy mi e1 n1 fe fn fu ho ha ne lo hi st : Int) (up : Bool) (A : Option Addr) (cap : Nat) (xs : List VBlock) {x y z : Int} {b : Bool} {n : Nat} (w : World) (hn : xs.length = n) (h : SRow encBlock w A xs) (hl : n ≤ 2000000) (hx : srE la dy mi e1 n1 fe fn fu ho ha ne lo hi st xs = x) (hy : srN la dy mi e1 n1 fe fn fu ho ha ne lo hi st xs = y) (hz : srU la dy mi e1 n1 fe fn fu ho ha ne lo hi st xs = z) (kO : srO la dy mi e1 n1 fe fn fu ho ha ne lo hi st xs = b) :
    Calls Try.prog 13 #[.agg #[.int .i64 la, .int .i64 dy, .int .i64 mi, .slice A n cap, .int .i64 e1, .int .i64 n1, .int .i64 fe, .int .i64 fn, .int .i64 fu, .int .i64 ho, .int .i64 ha, .int .i64 ne, .int .i64 lo, .int .i64 hi, .bool up, .int .i64 st]] w fun E w' => E = .returned (.tuple #[.agg #[.int .i64 x, .int .i64 y, .int .i64 z], .bool b]) ∧ Below w.heap.size w w' := by
  unfold srE at hx
  unfold srN at hy
  unfold srU at hz
  unfold srO at kO
  cases hb : siB la dy mi e1 n1 fe fn fu ho ha ne lo hi st xs
  · rw [hb] at hx hy hz kO
    simp only [Bool.false_eq_true, if_false, Bool.false_and] at hx hy hz kO
    subst hx hy hz kO
    exact iSRbad la dy mi e1 n1 fe fn fu ho ha ne lo hi st up A cap xs w hn h hl hb
  · rw [hb] at hx hy hz kO
    simp only [if_true, Bool.true_and] at hx hy hz kO
    exact iSR_is la dy mi e1 n1 fe fn fu ho ha ne lo hi st up A cap xs w hn h hl hb hx hy hz kO
set_option maxRecDepth 100000 in
set_option maxHeartbeats 8000000 in
theorem sSLbad (la dy mi e1 n1 fe fn fu ho ha ne lo hi st : Int) (up : Bool) (A : Option Addr) (cap : Nat) (xs : List VBlock)  {n : Nat} (w : World) (hn : xs.length = n) (h : SRow encBlock w A xs) (hl : n ≤ 2000000) (hb : siB la dy mi e1 n1 fe fn fu ho ha ne lo hi st xs = false) :
    Calls Try.prog 15 #[.agg #[.int .i64 la, .int .i64 dy, .int .i64 mi, .slice A n cap, .int .i64 e1, .int .i64 n1, .int .i64 fe, .int .i64 fn, .int .i64 fu, .int .i64 ho, .int .i64 ha, .int .i64 ne, .int .i64 lo, .int .i64 hi, .bool up, .int .i64 st]] w fun E w' => E = .returned (.int .i64 (-1)) ∧ Below w.heap.size w w' := by
  have HB := Lib.hid hb
  have HN := Lib.hid hn
  clear hb hn
  have h0 := h
  clear h
  go_enter Try.func15, Try.ntmps15
  have hP0 := blk_new w (.cells #[.int .i64 la, .int .i64 dy, .int .i64 mi, .slice A n cap, .int .i64 e1, .int .i64 n1, .int .i64 fe, .int .i64 fn, .int .i64 fu, .int .i64 ho, .int .i64 ha, .int .i64 ne, .int .i64 lo, .int .i64 hi, .bool up, .int .i64 st] 41 (0, 0))
  go_wp2_with (refine wpList_load_row rfl 41 _ rfl _ rfl _ _ (0, 0) _ (by assumption) Try.underlying41 rfl (by kernel_rfl) ?_)
  refine (sSV10_is la dy mi e1 n1 fe fn fu ho ha ne lo hi st up A cap xs _ HN.out (h0.next (bel1 w _)) hl HB.out).mono ?_; rintro E w1 ⟨rfl, hw1⟩
  have hP1 := blk_next hP0 hw1
  have hB1 := bel_next (bel1 w _) hw1
  clear hP0
  go_wp2
  exact bodyPost_ret (v := .int .i64 (-1)) (by simp [results, Try.results15, go_sem]) rfl ⟨rfl, hB1⟩
set_option maxRecDepth 100000 in
set_option maxHeartbeats 8000000 in
theorem sSGbad (la dy mi e1 n1 fe fn fu ho ha ne lo hi st : Int) (up : Bool) (A : Option Addr) (cap : Nat) (xs : List VBlock)  {n : Nat} (w : World) (hn : xs.length = n) (h : SRow encBlock w A xs) (hl : n ≤ 2000000) (hb : siB la dy mi e1 n1 fe fn fu ho ha ne lo hi st xs = false) :
    Calls Try.prog 17 #[.agg #[.int .i64 la, .int .i64 dy, .int .i64 mi, .slice A n cap, .int .i64 e1, .int .i64 n1, .int .i64 fe, .int .i64 fn, .int .i64 fu, .int .i64 ho, .int .i64 ha, .int .i64 ne, .int .i64 lo, .int .i64 hi, .bool up, .int .i64 st]] w fun E w' => E = .returned (.int .i64 (-1)) ∧ Below w.heap.size w w' := by
  have HB := Lib.hid hb
  have HN := Lib.hid hn
  clear hb hn
  have h0 := h
  clear h
  go_enter Try.func17, Try.ntmps17
  have hP0 := blk_new w (.cells #[.int .i64 la, .int .i64 dy, .int .i64 mi, .slice A n cap, .int .i64 e1, .int .i64 n1, .int .i64 fe, .int .i64 fn, .int .i64 fu, .int .i64 ho, .int .i64 ha, .int .i64 ne, .int .i64 lo, .int .i64 hi, .bool up, .int .i64 st] 41 (0, 0))
  go_wp2_with (refine wpList_load_row rfl 41 _ rfl _ rfl _ _ (0, 0) _ (by assumption) Try.underlying41 rfl (by kernel_rfl) ?_)
  refine (sSV10_is la dy mi e1 n1 fe fn fu ho ha ne lo hi st up A cap xs _ HN.out (h0.next (bel1 w _)) hl HB.out).mono ?_; rintro E w1 ⟨rfl, hw1⟩
  have hP1 := blk_next hP0 hw1
  have hB1 := bel_next (bel1 w _) hw1
  clear hP0
  go_wp2
  exact bodyPost_ret (v := .int .i64 (-1)) (by simp [results, Try.results17, go_sem]) rfl ⟨rfl, hB1⟩
set_option maxRecDepth 100000 in
set_option maxHeartbeats 8000000 in
theorem iSLbad (la dy mi e1 n1 fe fn fu ho ha ne lo hi st : Int) (up : Bool) (A : Option Addr) (cap : Nat) (xs : List VBlock)  {n : Nat} (w : World) (hn : xs.length = n) (h : SRow encBlock w A xs) (hl : n ≤ 2000000) (hb : siB la dy mi e1 n1 fe fn fu ho ha ne lo hi st xs = false) :
    Calls Try.prog 16 #[.agg #[.int .i64 la, .int .i64 dy, .int .i64 mi, .slice A n cap, .int .i64 e1, .int .i64 n1, .int .i64 fe, .int .i64 fn, .int .i64 fu, .int .i64 ho, .int .i64 ha, .int .i64 ne, .int .i64 lo, .int .i64 hi, .bool up, .int .i64 st]] w fun E w' => E = .returned (.int .i64 (-1)) ∧ Below w.heap.size w w' := by
  have HB := Lib.hid hb
  have HN := Lib.hid hn
  clear hb hn
  have h0 := h
  clear h
  go_enter Try.func16, Try.ntmps16
  have hP0 := blk_new w (.cells #[.int .i64 la, .int .i64 dy, .int .i64 mi, .slice A n cap, .int .i64 e1, .int .i64 n1, .int .i64 fe, .int .i64 fn, .int .i64 fu, .int .i64 ho, .int .i64 ha, .int .i64 ne, .int .i64 lo, .int .i64 hi, .bool up, .int .i64 st] 41 (0, 0))
  go_wp2_with (refine wpList_load_row rfl 41 _ rfl _ rfl _ _ (0, 0) _ (by assumption) Try.underlying41 rfl (by kernel_rfl) ?_)
  refine (iSV_is la dy mi e1 n1 fe fn fu ho ha ne lo hi st up A cap xs _ HN.out (h0.next (bel1 w _)) hl HB.out).mono ?_; rintro E w1 ⟨rfl, hw1⟩
  have hP1 := blk_next hP0 hw1
  have hB1 := bel_next (bel1 w _) hw1
  clear hP0
  go_wp2
  exact bodyPost_ret (v := .int .i64 (-1)) (by simp [results, Try.results16, go_sem]) rfl ⟨rfl, hB1⟩
set_option maxRecDepth 100000 in
set_option maxHeartbeats 8000000 in
theorem iSGbad (la dy mi e1 n1 fe fn fu ho ha ne lo hi st : Int) (up : Bool) (A : Option Addr) (cap : Nat) (xs : List VBlock)  {n : Nat} (w : World) (hn : xs.length = n) (h : SRow encBlock w A xs) (hl : n ≤ 2000000) (hb : siB la dy mi e1 n1 fe fn fu ho ha ne lo hi st xs = false) :
    Calls Try.prog 18 #[.agg #[.int .i64 la, .int .i64 dy, .int .i64 mi, .slice A n cap, .int .i64 e1, .int .i64 n1, .int .i64 fe, .int .i64 fn, .int .i64 fu, .int .i64 ho, .int .i64 ha, .int .i64 ne, .int .i64 lo, .int .i64 hi, .bool up, .int .i64 st]] w fun E w' => E = .returned (.int .i64 (-1)) ∧ Below w.heap.size w w' := by
  have HB := Lib.hid hb
  have HN := Lib.hid hn
  clear hb hn
  have h0 := h
  clear h
  go_enter Try.func18, Try.ntmps18
  have hP0 := blk_new w (.cells #[.int .i64 la, .int .i64 dy, .int .i64 mi, .slice A n cap, .int .i64 e1, .int .i64 n1, .int .i64 fe, .int .i64 fn, .int .i64 fu, .int .i64 ho, .int .i64 ha, .int .i64 ne, .int .i64 lo, .int .i64 hi, .bool up, .int .i64 st] 41 (0, 0))
  go_wp2_with (refine wpList_load_row rfl 41 _ rfl _ rfl _ _ (0, 0) _ (by assumption) Try.underlying41 rfl (by kernel_rfl) ?_)
  refine (iSV_is la dy mi e1 n1 fe fn fu ho ha ne lo hi st up A cap xs _ HN.out (h0.next (bel1 w _)) hl HB.out).mono ?_; rintro E w1 ⟨rfl, hw1⟩
  have hP1 := blk_next hP0 hw1
  have hB1 := bel_next (bel1 w _) hw1
  clear hP0
  go_wp2
  exact bodyPost_ret (v := .int .i64 (-1)) (by simp [results, Try.results18, go_sem]) rfl ⟨rfl, hB1⟩
set_option maxRecDepth 100000 in
set_option maxHeartbeats 8000000 in
theorem iSLyes (la dy mi e1 n1 fe fn fu ho ha ne lo hi st : Int) (up : Bool) (A : Option Addr) (cap : Nat) (xs : List VBlock) {x y z : Int} {n : Nat} (w : World) (hn : xs.length = n) (h : SRow encBlock w A xs) (hl : n ≤ 2000000) (hb : siB la dy mi e1 n1 fe fn fu ho ha ne lo hi st xs = true) (khx : (ryE la dy mi = x)) (khy : (ryN la dy mi = y)) (khz : (ryU la dy mi = z)) (khL : (liB e1 n1 xs x y z = true)) :
    Calls Try.prog 16 #[.agg #[.int .i64 la, .int .i64 dy, .int .i64 mi, .slice A n cap, .int .i64 e1, .int .i64 n1, .int .i64 fe, .int .i64 fn, .int .i64 fu, .int .i64 ho, .int .i64 ha, .int .i64 ne, .int .i64 lo, .int .i64 hi, .bool up, .int .i64 st]] w fun E w' => E = .returned (.int .i64 (5 * z)) ∧ Below w.heap.size w w' := by
  have HS := Lib.hid (sky_of hb)
  have HX := Lib.hid khx
  have HY := Lib.hid khy
  have HZ := Lib.hid khz
  have HL := Lib.hid khL
  clear khx khy khz khL
  have HB := Lib.hid hb
  have HN := Lib.hid hn
  clear hb hn
  have h0 := h
  clear h
  go_enter Try.func16, Try.ntmps16
  have hP0 := blk_new w (.cells #[.int .i64 la, .int .i64 dy, .int .i64 mi, .slice A n cap, .int .i64 e1, .int .i64 n1, .int .i64 fe, .int .i64 fn, .int .i64 fu, .int .i64 ho, .int .i64 ha, .int .i64 ne, .int .i64 lo, .int .i64 hi, .bool up, .int .i64 st] 41 (0, 0))
  go_wp2_with (refine wpList_load_row rfl 41 _ rfl _ rfl _ _ (0, 0) _ (by assumption) Try.underlying41 rfl (by kernel_rfl) ?_)
  refine (iSV_is la dy mi e1 n1 fe fn fu ho ha ne lo hi st up A cap xs _ HN.out (h0.next (bel1 w _)) hl HB.out).mono ?_; rintro E w1 ⟨rfl, hw1⟩
  have hP1 := blk_next hP0 hw1
  have hB1 := bel_next (bel1 w _) hw1
  clear hP0
  go_wp2_with (refine wpList_load_row rfl 41 _ rfl _ rfl _ _ (0, 0) _ (by assumption) Try.underlying41 rfl (by kernel_rfl) ?_)
  refine (partsOf_any la dy mi e1 n1 fe fn fu ho ha ne lo hi st up A n cap _).mono ?_; rintro E w2 ⟨rfl, hw2⟩
  have hB2 := bel_next hB1 hw2
  have hA2 := h0.next hB2
  clear hP1
  go_wp2_with fail
  refine (iLg_yes la dy mi e1 n1 fe fn fu ho ha ne lo hi st up A cap xs _ HN.out hA2 hl HS.out HX.out HY.out HZ.out HL.out).mono ?_; rintro E w3 ⟨rfl, hw3⟩
  have hB3 := bel_next hB2 hw3
  go_wp2
  exact bodyPost_ret (v := .int .i64 (5 * z)) (by simp [results, Try.results16, go_sem]) rfl ⟨rfl, hB3⟩
set_option maxRecDepth 100000 in
set_option maxHeartbeats 8000000 in
theorem iSLno (la dy mi e1 n1 fe fn fu ho ha ne lo hi st : Int) (up : Bool) (A : Option Addr) (cap : Nat) (xs : List VBlock) {x y z : Int} {n : Nat} (w : World) (hn : xs.length = n) (h : SRow encBlock w A xs) (hl : n ≤ 2000000) (hb : siB la dy mi e1 n1 fe fn fu ho ha ne lo hi st xs = true) (khx : (ryE la dy mi = x)) (khy : (ryN la dy mi = y)) (khz : (ryU la dy mi = z)) (khL : (liB e1 n1 xs x y z = false)) :
    Calls Try.prog 16 #[.agg #[.int .i64 la, .int .i64 dy, .int .i64 mi, .slice A n cap, .int .i64 e1, .int .i64 n1, .int .i64 fe, .int .i64 fn, .int .i64 fu, .int .i64 ho, .int .i64 ha, .int .i64 ne, .int .i64 lo, .int .i64 hi, .bool up, .int .i64 st]] w fun E w' => E = .returned (.int .i64 z) ∧ Below w.heap.size w w' := by
  have HS := Lib.hid (sky_of hb)
  have HX := Lib.hid khx
  have HY := Lib.hid khy
  have HZ := Lib.hid khz
  have HL := Lib.hid khL
  clear khx khy khz khL
  have HB := Lib.hid hb
  have HN := Lib.hid hn
  clear hb hn
  have h0 := h
  clear h
  go_enter Try.func16, Try.ntmps16
  have hP0 := blk_new w (.cells #[.int .i64 la, .int .i64 dy, .int .i64 mi, .slice A n cap, .int .i64 e1, .int .i64 n1, .int .i64 fe, .int .i64 fn, .int .i64 fu, .int .i64 ho, .int .i64 ha, .int .i64 ne, .int .i64 lo, .int .i64 hi, .bool up, .int .i64 st] 41 (0, 0))
  go_wp2_with (refine wpList_load_row rfl 41 _ rfl _ rfl _ _ (0, 0) _ (by assumption) Try.underlying41 rfl (by kernel_rfl) ?_)
  refine (iSV_is la dy mi e1 n1 fe fn fu ho ha ne lo hi st up A cap xs _ HN.out (h0.next (bel1 w _)) hl HB.out).mono ?_; rintro E w1 ⟨rfl, hw1⟩
  have hP1 := blk_next hP0 hw1
  have hB1 := bel_next (bel1 w _) hw1
  clear hP0
  go_wp2_with (refine wpList_load_row rfl 41 _ rfl _ rfl _ _ (0, 0) _ (by assumption) Try.underlying41 rfl (by kernel_rfl) ?_)
  refine (partsOf_any la dy mi e1 n1 fe fn fu ho ha ne lo hi st up A n cap _).mono ?_; rintro E w2 ⟨rfl, hw2⟩
  have hB2 := bel_next hB1 hw2
  have hA2 := h0.next hB2
  clear hP1
  go_wp2_with fail
  refine (iLg_no la dy mi e1 n1 fe fn fu ho ha ne lo hi st up A cap xs _ HN.out hA2 hl HS.out HX.out HY.out HZ.out HL.out).mono ?_; rintro E w3 ⟨rfl, hw3⟩
  have hB3 := bel_next hB2 hw3
  go_wp2
  exact bodyPost_ret (v := .int .i64 z) (by simp [results, Try.results16, go_sem]) rfl ⟨rfl, hB3⟩
set_option maxRecDepth 100000 in
set_option maxHeartbeats 8000000 in
theorem iSGno (la dy mi e1 n1 fe fn fu ho ha ne lo hi st : Int) (up : Bool) (A : Option Addr) (cap : Nat) (xs : List VBlock) {x y z : Int} {n : Nat} (w : World) (hn : xs.length = n) (h : SRow encBlock w A xs) (hl : n ≤ 2000000) (hb : siB la dy mi e1 n1 fe fn fu ho ha ne lo hi st xs = true) (khx : (ryE la dy mi = x)) (khy : (ryN la dy mi = y)) (khz : (ryU la dy mi = z)) (khL : (liB e1 n1 xs x y z = false)) :
    Calls Try.prog 18 #[.agg #[.int .i64 la, .int .i64 dy, .int .i64 mi, .slice A n cap, .int .i64 e1, .int .i64 n1, .int .i64 fe, .int .i64 fn, .int .i64 fu, .int .i64 ho, .int .i64 ha, .int .i64 ne, .int .i64 lo, .int .i64 hi, .bool up, .int .i64 st]] w fun E w' => E = .returned (.int .i64 0) ∧ Below w.heap.size w w' := by
  have HS := Lib.hid (sky_of hb)
  have HX := Lib.hid khx
  have HY := Lib.hid khy
  have HZ := Lib.hid khz
  have HL := Lib.hid khL
  clear khx khy khz khL
  have HB := Lib.hid hb
  have HN := Lib.hid hn
  clear hb hn
  have h0 := h
  clear h
  go_enter Try.func18, Try.ntmps18
  have hP0 := blk_new w (.cells #[.int .i64 la, .int .i64 dy, .int .i64 mi, .slice A n cap, .int .i64 e1, .int .i64 n1, .int .i64 fe, .int .i64 fn, .int .i64 fu, .int .i64 ho, .int .i64 ha, .int .i64 ne, .int .i64 lo, .int .i64 hi, .bool up, .int .i64 st] 41 (0, 0))
  go_wp2_with (refine wpList_load_row rfl 41 _ rfl _ rfl _ _ (0, 0) _ (by assumption) Try.underlying41 rfl (by kernel_rfl) ?_)
  refine (iSV_is la dy mi e1 n1 fe fn fu ho ha ne lo hi st up A cap xs _ HN.out (h0.next (bel1 w _)) hl HB.out).mono ?_; rintro E w1 ⟨rfl, hw1⟩
  have hP1 := blk_next hP0 hw1
  have hB1 := bel_next (bel1 w _) hw1
  clear hP0
  go_wp2_with (refine wpList_load_row rfl 41 _ rfl _ rfl _ _ (0, 0) _ (by assumption) Try.underlying41 rfl (by kernel_rfl) ?_)
  refine (partsOf_any la dy mi e1 n1 fe fn fu ho ha ne lo hi st up A n cap _).mono ?_; rintro E w2 ⟨rfl, hw2⟩
  have hB2 := bel_next hB1 hw2
  have hA2 := h0.next hB2
  clear hP1
  go_wp2_with fail
  refine (iGn_no la dy mi e1 n1 fe fn fu ho ha ne lo hi st up A cap xs _ HN.out hA2 hl HS.out HX.out HY.out HZ.out HL.out).mono ?_; rintro E w3 ⟨rfl, hw3⟩
  have hB3 := bel_next hB2 hw3
  go_wp2
  exact bodyPost_ret (v := .int .i64 0) (by simp [results, Try.results18, go_sem]) rfl ⟨rfl, hB3⟩
set_option maxRecDepth 100000 in
set_option maxHeartbeats 8000000 in
theorem iSGyes (la dy mi e1 n1 fe fn fu ho ha ne lo hi st : Int) (up : Bool) (A : Option Addr) (cap : Nat) (xs : List VBlock) {x y z f r : Int} {n : Nat} (w : World) (hn : xs.length = n) (h : SRow encBlock w A xs) (hl : n ≤ 2000000) (hb : siB la dy mi e1 n1 fe fn fu ho ha ne lo hi st xs = true) (khx : (ryE la dy mi = x)) (khy : (ryN la dy mi = y)) (khz : (ryU la dy mi = z)) (khL : (liB e1 n1 xs x y z = true)) (khF : (fgI fe fn fu x y z = f)) (khR : (goI f = r)) :
    Calls Try.prog 18 #[.agg #[.int .i64 la, .int .i64 dy, .int .i64 mi, .slice A n cap, .int .i64 e1, .int .i64 n1, .int .i64 fe, .int .i64 fn, .int .i64 fu, .int .i64 ho, .int .i64 ha, .int .i64 ne, .int .i64 lo, .int .i64 hi, .bool up, .int .i64 st]] w fun E w' => E = .returned (.int .i64 r) ∧ Below w.heap.size w w' := by
  have HS := Lib.hid (sky_of hb)
  have HX := Lib.hid khx
  have HY := Lib.hid khy
  have HZ := Lib.hid khz
  have HL := Lib.hid khL
  have HF := Lib.hid khF
  have HR := Lib.hid khR
  clear khx khy khz khL khF khR
  have HB := Lib.hid hb
  have HN := Lib.hid hn
  clear hb hn
  have h0 := h
  clear h
  go_enter Try.func18, Try.ntmps18
  have hP0 := blk_new w (.cells #[.int .i64 la, .int .i64 dy, .int .i64 mi, .slice A n cap, .int .i64 e1, .int .i64 n1, .int .i64 fe, .int .i64 fn, .int .i64 fu, .int .i64 ho, .int .i64 ha, .int .i64 ne, .int .i64 lo, .int .i64 hi, .bool up, .int .i64 st] 41 (0, 0))
  go_wp2_with (refine wpList_load_row rfl 41 _ rfl _ rfl _ _ (0, 0) _ (by assumption) Try.underlying41 rfl (by kernel_rfl) ?_)
  refine (iSV_is la dy mi e1 n1 fe fn fu ho ha ne lo hi st up A cap xs _ HN.out (h0.next (bel1 w _)) hl HB.out).mono ?_; rintro E w1 ⟨rfl, hw1⟩
  have hP1 := blk_next hP0 hw1
  have hB1 := bel_next (bel1 w _) hw1
  clear hP0
  go_wp2_with (refine wpList_load_row rfl 41 _ rfl _ rfl _ _ (0, 0) _ (by assumption) Try.underlying41 rfl (by kernel_rfl) ?_)
  refine (partsOf_any la dy mi e1 n1 fe fn fu ho ha ne lo hi st up A n cap _).mono ?_; rintro E w2 ⟨rfl, hw2⟩
  have hB2 := bel_next hB1 hw2
  have hA2 := h0.next hB2
  clear hP1
  go_wp2_with fail
  refine (iGn_yes la dy mi e1 n1 fe fn fu ho ha ne lo hi st up A cap xs _ HN.out hA2 hl HS.out HX.out HY.out HZ.out HL.out HF.out HR.out).mono ?_; rintro E w3 ⟨rfl, hw3⟩
  have hB3 := bel_next hB2 hw3
  go_wp2
  exact bodyPost_ret (v := .int .i64 r) (by simp [results, Try.results18, go_sem]) rfl ⟨rfl, hB3⟩
set_option maxRecDepth 100000 in
set_option maxHeartbeats 8000000 in
theorem sSLnight (la dy mi e1 n1 fe fn fu ho ha ne lo hi st : Int) (up : Bool) (A : Option Addr) (cap : Nat) (xs : List VBlock) {x y z : Int} {n : Nat} (w : World) (hn : xs.length = n) (h : SRow encBlock w A xs) (hl : n ≤ 2000000) (hb : siB la dy mi e1 n1 fe fn fu ho ha ne lo hi st xs = true) (khx : (ryE la dy mi = x)) (khy : (ryN la dy mi = y)) (khz : (ryU la dy mi = z)) (khO : (ryO la dy mi = false)) :
    Calls Try.prog 15 #[.agg #[.int .i64 la, .int .i64 dy, .int .i64 mi, .slice A n cap, .int .i64 e1, .int .i64 n1, .int .i64 fe, .int .i64 fn, .int .i64 fu, .int .i64 ho, .int .i64 ha, .int .i64 ne, .int .i64 lo, .int .i64 hi, .bool up, .int .i64 st]] w fun E w' => E = .returned (.int .i64 0) ∧ Below w.heap.size w w' := by
  have hzb := ryU_bd la dy mi
  rw [khz] at hzb
  have HBB := Lib.hid hb
  have HX := Lib.hid khx
  have HY := Lib.hid khy
  have HZ := Lib.hid khz
  have HO := Lib.hid khO
  clear khx khy khz khO
  have HB := Lib.hid hb
  have HN := Lib.hid hn
  clear hb hn
  have h0 := h
  clear h
  go_enter Try.func15, Try.ntmps15
  have hP0 := blk_new w (.cells #[.int .i64 la, .int .i64 dy, .int .i64 mi, .slice A n cap, .int .i64 e1, .int .i64 n1, .int .i64 fe, .int .i64 fn, .int .i64 fu, .int .i64 ho, .int .i64 ha, .int .i64 ne, .int .i64 lo, .int .i64 hi, .bool up, .int .i64 st] 41 (0, 0))
  go_wp2_with (refine wpList_load_row rfl 41 _ rfl _ rfl _ _ (0, 0) _ (by assumption) Try.underlying41 rfl (by kernel_rfl) ?_)
  refine (sSV10_is la dy mi e1 n1 fe fn fu ho ha ne lo hi st up A cap xs _ HN.out (h0.next (bel1 w _)) hl HB.out).mono ?_; rintro E w1 ⟨rfl, hw1⟩
  have hP1 := blk_next hP0 hw1
  have hB1 := bel_next (bel1 w _) hw1
  clear hP0
  have hA1 := h0.next hB1
  go_wp2_with (refine wpList_load_row rfl 41 _ rfl _ rfl _ _ (0, 0) _ (by assumption) Try.underlying41 rfl (by kernel_rfl) ?_)
  refine (sSR_is la dy mi e1 n1 fe fn fu ho ha ne lo hi st up A cap xs _ HN.out hA1 hl HBB.out HX.out HY.out HZ.out HO.out).mono ?_; rintro E w2 ⟨rfl, hw2⟩
  have hP2 := blk_next hP1 hw2
  have hB2 := bel_next hB1 hw2
  have hS3 := blk_new w2 (.cells #[.int .i64 x, .int .i64 y, .int .i64 z] 45 (0, 0))
  have hP3 := blk_old hP2 (.cells #[.int .i64 x, .int .i64 y, .int .i64 z] 45 (0, 0))
  have hB3 : Below w.heap.size w (w2.alloc (.cells #[.int .i64 x, .int .i64 y, .int .i64 z] 45 (0, 0))) := hB2.alloc (by have := hB2.size; omega) _
  clear hP2 hP1 hA1
  clear hP3
  have hB8 := hB3
  go_wp2
  exact bodyPost_ret (v := .int .i64 0) (by simp [results, Try.results15, go_sem]) rfl ⟨rfl, hB8⟩
set_option maxRecDepth 100000 in
set_option maxHeartbeats 8000000 in
theorem sSLyes (la dy mi e1 n1 fe fn fu ho ha ne lo hi st : Int) (up : Bool) (A : Option Addr) (cap : Nat) (xs : List VBlock) {x y z : Int} {n : Nat} (w : World) (hn : xs.length = n) (h : SRow encBlock w A xs) (hl : n ≤ 2000000) (hb : siB la dy mi e1 n1 fe fn fu ho ha ne lo hi st xs = true) (khx : (ryE la dy mi = x)) (khy : (ryN la dy mi = y)) (khz : (ryU la dy mi = z)) (khO : (ryO la dy mi = true)) (khL : (liB e1 n1 xs x y z = true)) :
    Calls Try.prog 15 #[.agg #[.int .i64 la, .int .i64 dy, .int .i64 mi, .slice A n cap, .int .i64 e1, .int .i64 n1, .int .i64 fe, .int .i64 fn, .int .i64 fu, .int .i64 ho, .int .i64 ha, .int .i64 ne, .int .i64 lo, .int .i64 hi, .bool up, .int .i64 st]] w fun E w' => E = .returned (.int .i64 (5 * z)) ∧ Below w.heap.size w w' := by
  have hzb := ryU_bd la dy mi
  rw [khz] at hzb
  have HBB := Lib.hid hb
  have HX := Lib.hid khx
  have HY := Lib.hid khy
  have HZ := Lib.hid khz
  have HO := Lib.hid khO
  have HL := Lib.hid khL
  clear khx khy khz khO khL
  have HB := Lib.hid hb
  have HN := Lib.hid hn
  clear hb hn
  have h0 := h
  clear h
  go_enter Try.func15, Try.ntmps15
  have hP0 := blk_new w (.cells #[.int .i64 la, .int .i64 dy, .int .i64 mi, .slice A n cap, .int .i64 e1, .int .i64 n1, .int .i64 fe, .int .i64 fn, .int .i64 fu, .int .i64 ho, .int .i64 ha, .int .i64 ne, .int .i64 lo, .int .i64 hi, .bool up, .int .i64 st] 41 (0, 0))
  go_wp2_with (refine wpList_load_row rfl 41 _ rfl _ rfl _ _ (0, 0) _ (by assumption) Try.underlying41 rfl (by kernel_rfl) ?_)
  refine (sSV10_is la dy mi e1 n1 fe fn fu ho ha ne lo hi st up A cap xs _ HN.out (h0.next (bel1 w _)) hl HB.out).mono ?_; rintro E w1 ⟨rfl, hw1⟩
  have hP1 := blk_next hP0 hw1
  have hB1 := bel_next (bel1 w _) hw1
  clear hP0
  have hA1 := h0.next hB1
  go_wp2_with (refine wpList_load_row rfl 41 _ rfl _ rfl _ _ (0, 0) _ (by assumption) Try.underlying41 rfl (by kernel_rfl) ?_)
  refine (sSR_is la dy mi e1 n1 fe fn fu ho ha ne lo hi st up A cap xs _ HN.out hA1 hl HBB.out HX.out HY.out HZ.out HO.out).mono ?_; rintro E w2 ⟨rfl, hw2⟩
  have hP2 := blk_next hP1 hw2
  have hB2 := bel_next hB1 hw2
  have hS3 := blk_new w2 (.cells #[.int .i64 x, .int .i64 y, .int .i64 z] 45 (0, 0))
  have hP3 := blk_old hP2 (.cells #[.int .i64 x, .int .i64 y, .int .i64 z] 45 (0, 0))
  have hB3 : Below w.heap.size w (w2.alloc (.cells #[.int .i64 x, .int .i64 y, .int .i64 z] 45 (0, 0))) := hB2.alloc (by have := hB2.size; omega) _
  clear hP2 hP1 hA1
  have hA2 := h0.next hB3
  obtain ⟨cS0, cS1, cS2, fS0, fS1, fS2, zS⟩ := blk3 hS3
  obtain ⟨cP0, cP1, cP2, cP3, cP4, cP5, cP6, cP7, cP8, cP9, cP10, cP11, cP12, cP13, cP14, cP15, fP0, fP1, fP2, fP3, fP4, fP5, fP6, fP7, fP8, fP9, fP10, fP11, fP12, fP13, fP14, fP15, zP⟩ := blk16 hP3
  go_wp2_with fail
  refine (sLi_is A cap xs e1 n1 x y z _ HN.out hA2 hl HL.out).mono ?_; rintro E w8 ⟨rfl, hw8⟩
  have hB8 := bel_next hB3 hw8
  have hS8 := blk_next hS3 hw8
  have hP8 := blk_next hP3 hw8
  clear hA2 cS0 fS0 cS1 fS1 cS2 fS2 zS cP0 fP0 cP1 fP1 cP2 fP2 cP3 fP3 cP4 fP4 cP5 fP5 cP6 fP6 cP7 fP7 cP8 fP8 cP9 fP9 cP10 fP10 cP11 fP11 cP12 fP12 cP13 fP13 cP14 fP14 cP15 fP15 zP hS3 hP3
  obtain ⟨cS0, cS1, cS2, fS0, fS1, fS2, zS⟩ := blk3 hS8
  clear hP8
  go_wp2
  exact bodyPost_ret (v := .int .i64 (5 * z)) (by simp [results, Try.results15, go_sem]) rfl ⟨rfl, hB8⟩
set_option maxRecDepth 100000 in
set_option maxHeartbeats 8000000 in
theorem sSLno (la dy mi e1 n1 fe fn fu ho ha ne lo hi st : Int) (up : Bool) (A : Option Addr) (cap : Nat) (xs : List VBlock) {x y z : Int} {n : Nat} (w : World) (hn : xs.length = n) (h : SRow encBlock w A xs) (hl : n ≤ 2000000) (hb : siB la dy mi e1 n1 fe fn fu ho ha ne lo hi st xs = true) (khx : (ryE la dy mi = x)) (khy : (ryN la dy mi = y)) (khz : (ryU la dy mi = z)) (khO : (ryO la dy mi = true)) (khL : (liB e1 n1 xs x y z = false)) :
    Calls Try.prog 15 #[.agg #[.int .i64 la, .int .i64 dy, .int .i64 mi, .slice A n cap, .int .i64 e1, .int .i64 n1, .int .i64 fe, .int .i64 fn, .int .i64 fu, .int .i64 ho, .int .i64 ha, .int .i64 ne, .int .i64 lo, .int .i64 hi, .bool up, .int .i64 st]] w fun E w' => E = .returned (.int .i64 z) ∧ Below w.heap.size w w' := by
  have hzb := ryU_bd la dy mi
  rw [khz] at hzb
  have HBB := Lib.hid hb
  have HX := Lib.hid khx
  have HY := Lib.hid khy
  have HZ := Lib.hid khz
  have HO := Lib.hid khO
  have HL := Lib.hid khL
  clear khx khy khz khO khL
  have HB := Lib.hid hb
  have HN := Lib.hid hn
  clear hb hn
  have h0 := h
  clear h
  go_enter Try.func15, Try.ntmps15
  have hP0 := blk_new w (.cells #[.int .i64 la, .int .i64 dy, .int .i64 mi, .slice A n cap, .int .i64 e1, .int .i64 n1, .int .i64 fe, .int .i64 fn, .int .i64 fu, .int .i64 ho, .int .i64 ha, .int .i64 ne, .int .i64 lo, .int .i64 hi, .bool up, .int .i64 st] 41 (0, 0))
  go_wp2_with (refine wpList_load_row rfl 41 _ rfl _ rfl _ _ (0, 0) _ (by assumption) Try.underlying41 rfl (by kernel_rfl) ?_)
  refine (sSV10_is la dy mi e1 n1 fe fn fu ho ha ne lo hi st up A cap xs _ HN.out (h0.next (bel1 w _)) hl HB.out).mono ?_; rintro E w1 ⟨rfl, hw1⟩
  have hP1 := blk_next hP0 hw1
  have hB1 := bel_next (bel1 w _) hw1
  clear hP0
  have hA1 := h0.next hB1
  go_wp2_with (refine wpList_load_row rfl 41 _ rfl _ rfl _ _ (0, 0) _ (by assumption) Try.underlying41 rfl (by kernel_rfl) ?_)
  refine (sSR_is la dy mi e1 n1 fe fn fu ho ha ne lo hi st up A cap xs _ HN.out hA1 hl HBB.out HX.out HY.out HZ.out HO.out).mono ?_; rintro E w2 ⟨rfl, hw2⟩
  have hP2 := blk_next hP1 hw2
  have hB2 := bel_next hB1 hw2
  have hS3 := blk_new w2 (.cells #[.int .i64 x, .int .i64 y, .int .i64 z] 45 (0, 0))
  have hP3 := blk_old hP2 (.cells #[.int .i64 x, .int .i64 y, .int .i64 z] 45 (0, 0))
  have hB3 : Below w.heap.size w (w2.alloc (.cells #[.int .i64 x, .int .i64 y, .int .i64 z] 45 (0, 0))) := hB2.alloc (by have := hB2.size; omega) _
  clear hP2 hP1 hA1
  have hA2 := h0.next hB3
  obtain ⟨cS0, cS1, cS2, fS0, fS1, fS2, zS⟩ := blk3 hS3
  obtain ⟨cP0, cP1, cP2, cP3, cP4, cP5, cP6, cP7, cP8, cP9, cP10, cP11, cP12, cP13, cP14, cP15, fP0, fP1, fP2, fP3, fP4, fP5, fP6, fP7, fP8, fP9, fP10, fP11, fP12, fP13, fP14, fP15, zP⟩ := blk16 hP3
  go_wp2_with fail
  refine (sLi_is A cap xs e1 n1 x y z _ HN.out hA2 hl HL.out).mono ?_; rintro E w8 ⟨rfl, hw8⟩
  have hB8 := bel_next hB3 hw8
  have hS8 := blk_next hS3 hw8
  have hP8 := blk_next hP3 hw8
  clear hA2 cS0 fS0 cS1 fS1 cS2 fS2 zS cP0 fP0 cP1 fP1 cP2 fP2 cP3 fP3 cP4 fP4 cP5 fP5 cP6 fP6 cP7 fP7 cP8 fP8 cP9 fP9 cP10 fP10 cP11 fP11 cP12 fP12 cP13 fP13 cP14 fP14 cP15 fP15 zP hS3 hP3
  obtain ⟨cS0, cS1, cS2, fS0, fS1, fS2, zS⟩ := blk3 hS8
  clear hP8
  go_wp2
  exact bodyPost_ret (v := .int .i64 z) (by simp [results, Try.results15, go_sem]) rfl ⟨rfl, hB8⟩
set_option maxRecDepth 100000 in
set_option maxHeartbeats 8000000 in
theorem sSGnight (la dy mi e1 n1 fe fn fu ho ha ne lo hi st : Int) (up : Bool) (A : Option Addr) (cap : Nat) (xs : List VBlock) {x y z : Int} {n : Nat} (w : World) (hn : xs.length = n) (h : SRow encBlock w A xs) (hl : n ≤ 2000000) (hb : siB la dy mi e1 n1 fe fn fu ho ha ne lo hi st xs = true) (khx : (ryE la dy mi = x)) (khy : (ryN la dy mi = y)) (khz : (ryU la dy mi = z)) (khO : (ryO la dy mi = false)) :
    Calls Try.prog 17 #[.agg #[.int .i64 la, .int .i64 dy, .int .i64 mi, .slice A n cap, .int .i64 e1, .int .i64 n1, .int .i64 fe, .int .i64 fn, .int .i64 fu, .int .i64 ho, .int .i64 ha, .int .i64 ne, .int .i64 lo, .int .i64 hi, .bool up, .int .i64 st]] w fun E w' => E = .returned (.int .i64 0) ∧ Below w.heap.size w w' := by
  have hzb := ryU_bd la dy mi
  rw [khz] at hzb
  have HBB := Lib.hid hb
  have HX := Lib.hid khx
  have HY := Lib.hid khy
  have HZ := Lib.hid khz
  have HO := Lib.hid khO
  clear khx khy khz khO
  have HB := Lib.hid hb
  have HN := Lib.hid hn
  clear hb hn
  have h0 := h
  clear h
  go_enter Try.func17, Try.ntmps17
  have hP0 := blk_new w (.cells #[.int .i64 la, .int .i64 dy, .int .i64 mi, .slice A n cap, .int .i64 e1, .int .i64 n1, .int .i64 fe, .int .i64 fn, .int .i64 fu, .int .i64 ho, .int .i64 ha, .int .i64 ne, .int .i64 lo, .int .i64 hi, .bool up, .int .i64 st] 41 (0, 0))
  go_wp2_with (refine wpList_load_row rfl 41 _ rfl _ rfl _ _ (0, 0) _ (by assumption) Try.underlying41 rfl (by kernel_rfl) ?_)
  refine (sSV10_is la dy mi e1 n1 fe fn fu ho ha ne lo hi st up A cap xs _ HN.out (h0.next (bel1 w _)) hl HB.out).mono ?_; rintro E w1 ⟨rfl, hw1⟩
  have hP1 := blk_next hP0 hw1
  have hB1 := bel_next (bel1 w _) hw1
  clear hP0
  have hA1 := h0.next hB1
  go_wp2_with (refine wpList_load_row rfl 41 _ rfl _ rfl _ _ (0, 0) _ (by assumption) Try.underlying41 rfl (by kernel_rfl) ?_)
  refine (sSR_is la dy mi e1 n1 fe fn fu ho ha ne lo hi st up A cap xs _ HN.out hA1 hl HBB.out HX.out HY.out HZ.out HO.out).mono ?_; rintro E w2 ⟨rfl, hw2⟩
  have hP2 := blk_next hP1 hw2
  have hB2 := bel_next hB1 hw2
  have hS3 := blk_new w2 (.cells #[.int .i64 x, .int .i64 y, .int .i64 z] 45 (0, 0))
  have hP3 := blk_old hP2 (.cells #[.int .i64 x, .int .i64 y, .int .i64 z] 45 (0, 0))
  have hB3 : Below w.heap.size w (w2.alloc (.cells #[.int .i64 x, .int .i64 y, .int .i64 z] 45 (0, 0))) := hB2.alloc (by have := hB2.size; omega) _
  clear hP2 hP1 hA1
  clear hP3
  have hB8 := hB3
  go_wp2
  exact bodyPost_ret (v := .int .i64 0) (by simp [results, Try.results17, go_sem]) rfl ⟨rfl, hB8⟩
set_option maxRecDepth 100000 in
set_option maxHeartbeats 8000000 in
theorem sSGno (la dy mi e1 n1 fe fn fu ho ha ne lo hi st : Int) (up : Bool) (A : Option Addr) (cap : Nat) (xs : List VBlock) {x y z : Int} {n : Nat} (w : World) (hn : xs.length = n) (h : SRow encBlock w A xs) (hl : n ≤ 2000000) (hb : siB la dy mi e1 n1 fe fn fu ho ha ne lo hi st xs = true) (khx : (ryE la dy mi = x)) (khy : (ryN la dy mi = y)) (khz : (ryU la dy mi = z)) (khO : (ryO la dy mi = true)) (khL : (liB e1 n1 xs x y z = false)) :
    Calls Try.prog 17 #[.agg #[.int .i64 la, .int .i64 dy, .int .i64 mi, .slice A n cap, .int .i64 e1, .int .i64 n1, .int .i64 fe, .int .i64 fn, .int .i64 fu, .int .i64 ho, .int .i64 ha, .int .i64 ne, .int .i64 lo, .int .i64 hi, .bool up, .int .i64 st]] w fun E w' => E = .returned (.int .i64 0) ∧ Below w.heap.size w w' := by
  have hzb := ryU_bd la dy mi
  rw [khz] at hzb
  have HBB := Lib.hid hb
  have HX := Lib.hid khx
  have HY := Lib.hid khy
  have HZ := Lib.hid khz
  have HO := Lib.hid khO
  have HL := Lib.hid khL
  clear khx khy khz khO khL
  have HB := Lib.hid hb
  have HN := Lib.hid hn
  clear hb hn
  have h0 := h
  clear h
  go_enter Try.func17, Try.ntmps17
  have hP0 := blk_new w (.cells #[.int .i64 la, .int .i64 dy, .int .i64 mi, .slice A n cap, .int .i64 e1, .int .i64 n1, .int .i64 fe, .int .i64 fn, .int .i64 fu, .int .i64 ho, .int .i64 ha, .int .i64 ne, .int .i64 lo, .int .i64 hi, .bool up, .int .i64 st] 41 (0, 0))
  go_wp2_with (refine wpList_load_row rfl 41 _ rfl _ rfl _ _ (0, 0) _ (by assumption) Try.underlying41 rfl (by kernel_rfl) ?_)
  refine (sSV10_is la dy mi e1 n1 fe fn fu ho ha ne lo hi st up A cap xs _ HN.out (h0.next (bel1 w _)) hl HB.out).mono ?_; rintro E w1 ⟨rfl, hw1⟩
  have hP1 := blk_next hP0 hw1
  have hB1 := bel_next (bel1 w _) hw1
  clear hP0
  have hA1 := h0.next hB1
  go_wp2_with (refine wpList_load_row rfl 41 _ rfl _ rfl _ _ (0, 0) _ (by assumption) Try.underlying41 rfl (by kernel_rfl) ?_)
  refine (sSR_is la dy mi e1 n1 fe fn fu ho ha ne lo hi st up A cap xs _ HN.out hA1 hl HBB.out HX.out HY.out HZ.out HO.out).mono ?_; rintro E w2 ⟨rfl, hw2⟩
  have hP2 := blk_next hP1 hw2
  have hB2 := bel_next hB1 hw2
  have hS3 := blk_new w2 (.cells #[.int .i64 x, .int .i64 y, .int .i64 z] 45 (0, 0))
  have hP3 := blk_old hP2 (.cells #[.int .i64 x, .int .i64 y, .int .i64 z] 45 (0, 0))
  have hB3 : Below w.heap.size w (w2.alloc (.cells #[.int .i64 x, .int .i64 y, .int .i64 z] 45 (0, 0))) := hB2.alloc (by have := hB2.size; omega) _
  clear hP2 hP1 hA1
  have hA2 := h0.next hB3
  obtain ⟨cS0, cS1, cS2, fS0, fS1, fS2, zS⟩ := blk3 hS3
  obtain ⟨cP0, cP1, cP2, cP3, cP4, cP5, cP6, cP7, cP8, cP9, cP10, cP11, cP12, cP13, cP14, cP15, fP0, fP1, fP2, fP3, fP4, fP5, fP6, fP7, fP8, fP9, fP10, fP11, fP12, fP13, fP14, fP15, zP⟩ := blk16 hP3
  go_wp2_with fail
  refine (sLi_is A cap xs e1 n1 x y z _ HN.out hA2 hl HL.out).mono ?_; rintro E w8 ⟨rfl, hw8⟩
  have hB8 := bel_next hB3 hw8
  have hS8 := blk_next hS3 hw8
  have hP8 := blk_next hP3 hw8
  clear hA2 cS0 fS0 cS1 fS1 cS2 fS2 zS cP0 fP0 cP1 fP1 cP2 fP2 cP3 fP3 cP4 fP4 cP5 fP5 cP6 fP6 cP7 fP7 cP8 fP8 cP9 fP9 cP10 fP10 cP11 fP11 cP12 fP12 cP13 fP13 cP14 fP14 cP15 fP15 zP hS3 hP3
  obtain ⟨cS0, cS1, cS2, fS0, fS1, fS2, zS⟩ := blk3 hS8
  clear hP8
  go_wp2
  exact bodyPost_ret (v := .int .i64 0) (by simp [results, Try.results17, go_sem]) rfl ⟨rfl, hB8⟩
set_option maxRecDepth 100000 in
set_option maxHeartbeats 8000000 in
theorem sSGyes (la dy mi e1 n1 fe fn fu ho ha ne lo hi st : Int) (up : Bool) (A : Option Addr) (cap : Nat) (xs : List VBlock) {x y z f r : Int} {n : Nat} (w : World) (hn : xs.length = n) (h : SRow encBlock w A xs) (hl : n ≤ 2000000) (hb : siB la dy mi e1 n1 fe fn fu ho ha ne lo hi st xs = true) (khx : (ryE la dy mi = x)) (khy : (ryN la dy mi = y)) (khz : (ryU la dy mi = z)) (khO : (ryO la dy mi = true)) (khL : (liB e1 n1 xs x y z = true)) (khF : (fgI fe fn fu x y z = f)) (khR : (goI f = r)) :
    Calls Try.prog 17 #[.agg #[.int .i64 la, .int .i64 dy, .int .i64 mi, .slice A n cap, .int .i64 e1, .int .i64 n1, .int .i64 fe, .int .i64 fn, .int .i64 fu, .int .i64 ho, .int .i64 ha, .int .i64 ne, .int .i64 lo, .int .i64 hi, .bool up, .int .i64 st]] w fun E w' => E = .returned (.int .i64 r) ∧ Below w.heap.size w w' := by
  have hzb := ryU_bd la dy mi
  rw [khz] at hzb
  have HBB := Lib.hid hb
  have HX := Lib.hid khx
  have HY := Lib.hid khy
  have HZ := Lib.hid khz
  have HO := Lib.hid khO
  have HL := Lib.hid khL
  have HF := Lib.hid khF
  have HR := Lib.hid khR
  clear khx khy khz khO khL khF khR
  have HB := Lib.hid hb
  have HN := Lib.hid hn
  clear hb hn
  have h0 := h
  clear h
  go_enter Try.func17, Try.ntmps17
  have hP0 := blk_new w (.cells #[.int .i64 la, .int .i64 dy, .int .i64 mi, .slice A n cap, .int .i64 e1, .int .i64 n1, .int .i64 fe, .int .i64 fn, .int .i64 fu, .int .i64 ho, .int .i64 ha, .int .i64 ne, .int .i64 lo, .int .i64 hi, .bool up, .int .i64 st] 41 (0, 0))
  go_wp2_with (refine wpList_load_row rfl 41 _ rfl _ rfl _ _ (0, 0) _ (by assumption) Try.underlying41 rfl (by kernel_rfl) ?_)
  refine (sSV10_is la dy mi e1 n1 fe fn fu ho ha ne lo hi st up A cap xs _ HN.out (h0.next (bel1 w _)) hl HB.out).mono ?_; rintro E w1 ⟨rfl, hw1⟩
  have hP1 := blk_next hP0 hw1
  have hB1 := bel_next (bel1 w _) hw1
  clear hP0
  have hA1 := h0.next hB1
  go_wp2_with (refine wpList_load_row rfl 41 _ rfl _ rfl _ _ (0, 0) _ (by assumption) Try.underlying41 rfl (by kernel_rfl) ?_)
  refine (sSR_is la dy mi e1 n1 fe fn fu ho ha ne lo hi st up A cap xs _ HN.out hA1 hl HBB.out HX.out HY.out HZ.out HO.out).mono ?_; rintro E w2 ⟨rfl, hw2⟩
  have hP2 := blk_next hP1 hw2
  have hB2 := bel_next hB1 hw2
  have hS3 := blk_new w2 (.cells #[.int .i64 x, .int .i64 y, .int .i64 z] 45 (0, 0))
  have hP3 := blk_old hP2 (.cells #[.int .i64 x, .int .i64 y, .int .i64 z] 45 (0, 0))
  have hB3 : Below w.heap.size w (w2.alloc (.cells #[.int .i64 x, .int .i64 y, .int .i64 z] 45 (0, 0))) := hB2.alloc (by have := hB2.size; omega) _
  clear hP2 hP1 hA1
  have hA2 := h0.next hB3
  obtain ⟨cS0, cS1, cS2, fS0, fS1, fS2, zS⟩ := blk3 hS3
  obtain ⟨cP0, cP1, cP2, cP3, cP4, cP5, cP6, cP7, cP8, cP9, cP10, cP11, cP12, cP13, cP14, cP15, fP0, fP1, fP2, fP3, fP4, fP5, fP6, fP7, fP8, fP9, fP10, fP11, fP12, fP13, fP14, fP15, zP⟩ := blk16 hP3
  go_wp2_with fail
  refine (sLi_is A cap xs e1 n1 x y z _ HN.out hA2 hl HL.out).mono ?_; rintro E w8 ⟨rfl, hw8⟩
  have hB8 := bel_next hB3 hw8
  have hS8 := blk_next hS3 hw8
  have hP8 := blk_next hP3 hw8
  clear hA2 cS0 fS0 cS1 fS1 cS2 fS2 zS cP0 fP0 cP1 fP1 cP2 fP2 cP3 fP3 cP4 fP4 cP5 fP5 cP6 fP6 cP7 fP7 cP8 fP8 cP9 fP9 cP10 fP10 cP11 fP11 cP12 fP12 cP13 fP13 cP14 fP14 cP15 fP15 zP hS3 hP3
  obtain ⟨cS0, cS1, cS2, fS0, fS1, fS2, zS⟩ := blk3 hS8
  obtain ⟨cP0, cP1, cP2, cP3, cP4, cP5, cP6, cP7, cP8, cP9, cP10, cP11, cP12, cP13, cP14, cP15, fP0, fP1, fP2, fP3, fP4, fP5, fP6, fP7, fP8, fP9, fP10, fP11, fP12, fP13, fP14, fP15, zP⟩ := blk16 hP8
  go_wp2_with fail
  refine (sFG_is _ HF.out).mono ?_; rintro E w9 ⟨rfl, hw9⟩
  have hB9 := bel_next hB8 hw9
  obtain ⟨q0, q1⟩ := go_td HF.out
  have hwq := go_wrap q0 q1
  by_cases hc : 20 < f.tdiv 20
  · have e9 : r = 20 := by rw [← HR.out, goI_le, if_pos hc]
    subst e9
    go_wp2
    exact bodyPost_ret (v := .int .i64 20) (by simp [results, Try.results17, go_sem]) rfl ⟨rfl, hB9⟩
  · have e9 : r = f.tdiv 20 := by rw [← HR.out, goI_le, if_neg hc]
    subst e9
    go_wp2
    exact bodyPost_ret (v := .int .i64 (f.tdiv 20)) (by simp [results, Try.results17, go_sem]) rfl ⟨rfl, hB9⟩
/-- The light, and the gain, of a site. -/
def lgI (la dy mi e1 n1 fe fn fu ho ha ne lo hi st : Int) (xs : List VBlock) : Int := if siB la dy mi e1 n1 fe fn fu ho ha ne lo hi st xs = true then (if liB e1 n1 xs (ryE la dy mi) (ryN la dy mi) (ryU la dy mi) = true then 5 * ryU la dy mi else ryU la dy mi) else -1
def gnI (la dy mi e1 n1 fe fn fu ho ha ne lo hi st : Int) (xs : List VBlock) : Int := if siB la dy mi e1 n1 fe fn fu ho ha ne lo hi st xs = true then (if liB e1 n1 xs (ryE la dy mi) (ryN la dy mi) (ryU la dy mi) = true then goI (fgI fe fn fu (ryE la dy mi) (ryN la dy mi) (ryU la dy mi)) else 0) else -1
theorem li_night {e1 n1 : Int} {xs : List VBlock} : liB e1 n1 xs 0 0 0 = false := by
  have : ryB 0 0 0 = false := by decide
  simp [liB, this]
theorem iSL_is (la dy mi e1 n1 fe fn fu ho ha ne lo hi st : Int) (up : Bool) (A : Option Addr) (cap : Nat) (xs : List VBlock) {r : Int} {n : Nat} (w : World) (hn : xs.length = n) (h : SRow encBlock w A xs) (hl : n ≤ 2000000) (hr : lgI la dy mi e1 n1 fe fn fu ho ha ne lo hi st xs = r) : Calls Try.prog 16 #[.agg #[.int .i64 la, .int .i64 dy, .int .i64 mi, .slice A n cap, .int .i64 e1, .int .i64 n1, .int .i64 fe, .int .i64 fn, .int .i64 fu, .int .i64 ho, .int .i64 ha, .int .i64 ne, .int .i64 lo, .int .i64 hi, .bool up, .int .i64 st]] w fun E w' => E = .returned (.int .i64 r) ∧ Below w.heap.size w w' := by
  subst hr
  unfold lgI
  cases hb : siB la dy mi e1 n1 fe fn fu ho ha ne lo hi st xs
  · exact iSLbad la dy mi e1 n1 fe fn fu ho ha ne lo hi st up A cap xs w hn h hl hb
  · cases hL : liB e1 n1 xs (ryE la dy mi) (ryN la dy mi) (ryU la dy mi)
    · exact iSLno la dy mi e1 n1 fe fn fu ho ha ne lo hi st up A cap xs w hn h hl hb rfl rfl rfl hL
    · exact iSLyes la dy mi e1 n1 fe fn fu ho ha ne lo hi st up A cap xs w hn h hl hb rfl rfl rfl hL
theorem sSL_is (la dy mi e1 n1 fe fn fu ho ha ne lo hi st : Int) (up : Bool) (A : Option Addr) (cap : Nat) (xs : List VBlock) {r : Int} {n : Nat} (w : World) (hn : xs.length = n) (h : SRow encBlock w A xs) (hl : n ≤ 2000000) (hr : lgI la dy mi e1 n1 fe fn fu ho ha ne lo hi st xs = r) : Calls Try.prog 15 #[.agg #[.int .i64 la, .int .i64 dy, .int .i64 mi, .slice A n cap, .int .i64 e1, .int .i64 n1, .int .i64 fe, .int .i64 fn, .int .i64 fu, .int .i64 ho, .int .i64 ha, .int .i64 ne, .int .i64 lo, .int .i64 hi, .bool up, .int .i64 st]] w fun E w' => E = .returned (.int .i64 r) ∧ Below w.heap.size w w' := by
  subst hr
  unfold lgI
  cases hb : siB la dy mi e1 n1 fe fn fu ho ha ne lo hi st xs
  · exact sSLbad la dy mi e1 n1 fe fn fu ho ha ne lo hi st up A cap xs w hn h hl hb
  · cases kO : ryO la dy mi
    · obtain ⟨a1, a2, a3⟩ := ry_no kO
      simp only [a1, a2, a3, li_night, if_true, if_false, Bool.false_eq_true]
      exact sSLnight la dy mi e1 n1 fe fn fu ho ha ne lo hi st up A cap xs w hn h hl hb a1 a2 a3 kO
    · cases hL : liB e1 n1 xs (ryE la dy mi) (ryN la dy mi) (ryU la dy mi)
      · exact sSLno la dy mi e1 n1 fe fn fu ho ha ne lo hi st up A cap xs w hn h hl hb rfl rfl rfl kO hL
      · exact sSLyes la dy mi e1 n1 fe fn fu ho ha ne lo hi st up A cap xs w hn h hl hb rfl rfl rfl kO hL
theorem iSG_is (la dy mi e1 n1 fe fn fu ho ha ne lo hi st : Int) (up : Bool) (A : Option Addr) (cap : Nat) (xs : List VBlock) {r : Int} {n : Nat} (w : World) (hn : xs.length = n) (h : SRow encBlock w A xs) (hl : n ≤ 2000000) (hr : gnI la dy mi e1 n1 fe fn fu ho ha ne lo hi st xs = r) : Calls Try.prog 18 #[.agg #[.int .i64 la, .int .i64 dy, .int .i64 mi, .slice A n cap, .int .i64 e1, .int .i64 n1, .int .i64 fe, .int .i64 fn, .int .i64 fu, .int .i64 ho, .int .i64 ha, .int .i64 ne, .int .i64 lo, .int .i64 hi, .bool up, .int .i64 st]] w fun E w' => E = .returned (.int .i64 r) ∧ Below w.heap.size w w' := by
  subst hr
  unfold gnI
  cases hb : siB la dy mi e1 n1 fe fn fu ho ha ne lo hi st xs
  · exact iSGbad la dy mi e1 n1 fe fn fu ho ha ne lo hi st up A cap xs w hn h hl hb
  · cases hL : liB e1 n1 xs (ryE la dy mi) (ryN la dy mi) (ryU la dy mi)
    · exact iSGno la dy mi e1 n1 fe fn fu ho ha ne lo hi st up A cap xs w hn h hl hb rfl rfl rfl hL
    · exact iSGyes la dy mi e1 n1 fe fn fu ho ha ne lo hi st up A cap xs w hn h hl hb rfl rfl rfl hL rfl rfl
theorem sSG_is (la dy mi e1 n1 fe fn fu ho ha ne lo hi st : Int) (up : Bool) (A : Option Addr) (cap : Nat) (xs : List VBlock) {r : Int} {n : Nat} (w : World) (hn : xs.length = n) (h : SRow encBlock w A xs) (hl : n ≤ 2000000) (hr : gnI la dy mi e1 n1 fe fn fu ho ha ne lo hi st xs = r) : Calls Try.prog 17 #[.agg #[.int .i64 la, .int .i64 dy, .int .i64 mi, .slice A n cap, .int .i64 e1, .int .i64 n1, .int .i64 fe, .int .i64 fn, .int .i64 fu, .int .i64 ho, .int .i64 ha, .int .i64 ne, .int .i64 lo, .int .i64 hi, .bool up, .int .i64 st]] w fun E w' => E = .returned (.int .i64 r) ∧ Below w.heap.size w w' := by
  subst hr
  unfold gnI
  cases hb : siB la dy mi e1 n1 fe fn fu ho ha ne lo hi st xs
  · exact sSGbad la dy mi e1 n1 fe fn fu ho ha ne lo hi st up A cap xs w hn h hl hb
  · cases kO : ryO la dy mi
    · obtain ⟨a1, a2, a3⟩ := ry_no kO
      simp only [a1, a2, a3, li_night, if_true, if_false, Bool.false_eq_true]
      exact sSGnight la dy mi e1 n1 fe fn fu ho ha ne lo hi st up A cap xs w hn h hl hb a1 a2 a3 kO
    · cases hL : liB e1 n1 xs (ryE la dy mi) (ryN la dy mi) (ryU la dy mi)
      · exact sSGno la dy mi e1 n1 fe fn fu ho ha ne lo hi st up A cap xs w hn h hl hb rfl rfl rfl kO hL
      · exact sSGyes la dy mi e1 n1 fe fn fu ho ha ne lo hi st up A cap xs w hn h hl hb rfl rfl rfl kO hL rfl rfl
end Go.Proofs.Ytigndpajpofofaa
