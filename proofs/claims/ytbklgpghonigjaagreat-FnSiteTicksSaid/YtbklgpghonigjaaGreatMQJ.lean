/- QJ: texts joined. -/
import Derived.Laws.Rows
import Derived.Test.YtbklgpghonigjaaGreatMEf
import Derived.Test.YtbklgpghonigjaaGreatMVl
import Derived.Test.YtbklgpghonigjaaGreatMQE
import Derived.Test.YtbklgpghonigjaaGreatMEg
namespace Go.Proofs.YtbklgpghonigjaaGreat
open Go Go.ChangeShapes Go.WideShapes Go.ChangeAt Go.RowKit
set_option linter.unusedSimpArgs false
set_option linter.unusedVariables false
set_option linter.unnecessarySimpa false
/-- How high the sun is at a site. -/
def suI (la dy mi : Int) : Int := upI la (tiltI dy) (haI mi)
def reI (dy mi : Int) : Int := raI (eastI (tiltI dy) (haI mi)) (-20)
def rnI (la dy mi : Int) : Int := raI (northI la (tiltI dy) (haI mi)) (-20)
def ruI (la dy mi : Int) : Int := raI (suI la dy mi) 1
/-- The direction to the sun; nothing by night. -/
def ryE (la dy mi : Int) : Int := if 0 < suI la dy mi then reI dy mi else 0
def ryN (la dy mi : Int) : Int := if 0 < suI la dy mi then rnI la dy mi else 0
def ryU (la dy mi : Int) : Int := if 0 < suI la dy mi then ruI la dy mi else 0
def ryO (la dy mi : Int) : Bool := decide (0 < suI la dy mi)
theorem ry_no {la dy mi : Int} (h : ryO la dy mi = false) : ryE la dy mi = 0 ∧ ryN la dy mi = 0 ∧ ryU la dy mi = 0 := by
  simp only [ryO, decide_eq_false_iff_not] at h
  simp [ryE, ryN, ryU, h]
theorem ryU_bd (la dy mi : Int) : 0 ≤ ryU la dy mi ∧ ryU la dy mi ≤ 20 := by
  unfold ryU ruI
  have := raI_bd (n := suI la dy mi) (least := 1) (by omega) (by omega)
  split <;> omega
theorem sky_of {la dy mi e1 n1 fe fn fu ho ha ne lo hi st : Int} {xs : List VBlock} (h : siB la dy mi e1 n1 fe fn fu ho ha ne lo hi st xs = true) : skyB la (tiltI dy) = true := by
  have ht := tilt_bd dy
  unfold siB at h
  simp only [Bool.and_eq_true] at h
  have hv := h.1.1.1.1.1
  unfold tvB at hv
  simp only [Bool.and_eq_true] at hv
  have hl := hv.1.1.1
  simp only [inV, decide_eq_true_eq] at hl
  rw [skyB_iff]
  exact ⟨hl.1, hl.2, ht.1, ht.2⟩
theorem iCR_is {la dy mi x y z : Int} {b : Bool} (w : World) (hs : skyB la (tiltI dy) = true) (hx : ryE la dy mi = x) (hy : ryN la dy mi = y) (hz : ryU la dy mi = z) (hb : ryO la dy mi = b) :
    Calls Tryz.prog 53 #[.agg #[.int .i64 la, .int .i64 dy, .int .i64 mi]] w fun E w' => E = .returned (.tuple #[.agg #[.int .i64 x, .int .i64 y, .int .i64 z], .bool b]) ∧ Below w.heap.size w w' := by
  have he := east_bd (tiltI dy) (haI mi)
  have hn := north_bd la (tiltI dy) (haI mi)
  have hu := up_bd la (tiltI dy) (haI mi)
  subst hb hx hy hz
  cases h : ryO la dy mi
  · obtain ⟨e1, e2, e3⟩ := ry_no h
    rw [e1, e2, e3]
    simp only [ryO, decide_eq_false_iff_not] at h
    exact iCR_no w rfl rfl hs rfl rfl rfl (by unfold suI at h; omega)
  · simp only [ryO, decide_eq_true_eq] at h
    have e1 : ryE la dy mi = reI dy mi := by simp [ryE, h]
    have e2 : ryN la dy mi = rnI la dy mi := by simp [ryN, h]
    have e3 : ryU la dy mi = ruI la dy mi := by simp [ryU, h]
    rw [e1, e2, e3]
    exact iCR_yes w rfl rfl hs rfl rfl rfl h ⟨by omega, by omega⟩ hn hu rfl rfl rfl
/-- What a panel gains. -/
def goI (f : Int) : Int := min (f.tdiv 20) 20
theorem goI_le {f : Int} : goI f = if 20 < f.tdiv 20 then 20 else f.tdiv 20 := by unfold goI; split <;> omega
theorem go_td {fe fn fu x y z f : Int} (h : fgI fe fn fu x y z = f) : 0 ≤ f.tdiv 20 ∧ f.tdiv 20 ≤ 30 := by
  cases hf : fcB fe fn fu
  · rw [fgI_no1 hf] at h; subst h; decide
  · cases hr : ryB x y z
    · rw [fgI_no2 hr] at h; subst h; decide
    · have b := fgI_bd hf hr
      rw [h] at b
      rw [Int.tdiv_eq_ediv_of_nonneg b.1]
      omega
theorem go_wrap {q : Int} (h0 : 0 ≤ q) (h1 : q ≤ 30) : wrap64 q = q := by unfold wrap64; omega
set_option maxRecDepth 100000 in
set_option maxHeartbeats 4000000 in
theorem iGO_is {fe fn fu ho ha ne x y z f r : Int} (w : World) (kf : fgI fe fn fu x y z = f) (hr : goI f = r) :
    Calls Tryz.prog 108 #[.agg #[.int .i64 fe, .int .i64 fn, .int .i64 fu, .int .i64 ho, .int .i64 ha, .int .i64 ne], .agg #[.int .i64 x, .int .i64 y, .int .i64 z]] w fun E w' => E = .returned (.int .i64 r) ∧ Below w.heap.size w w' := by
  have HF := Lib.hid kf
  have HR := Lib.hid hr
  clear kf hr
  go_enter Tryz.func108, Tryz.ntmps108
  go_wp2_with fail
  refine (iFG_is _ HF.out).mono ?_; rintro E w1 ⟨rfl, hw1⟩
  have hB1 := bel_next (bel2 w _ _) hw1
  obtain ⟨q0, q1⟩ := go_td HF.out
  have hwq := go_wrap q0 q1
  by_cases hc : 20 < f.tdiv 20
  · have e9 : r = 20 := by rw [← HR.out, goI_le, if_pos hc]
    subst e9
    go_wp2
    exact bodyPost_ret (v := .int .i64 20) (by simp [results, Tryz.results108, go_sem]) rfl ⟨rfl, hB1⟩
  · have e9 : r = f.tdiv 20 := by rw [← HR.out, goI_le, if_neg hc]
    subst e9
    go_wp2
    exact bodyPost_ret (v := .int .i64 (f.tdiv 20)) (by simp [results, Tryz.results108, go_sem]) rfl ⟨rfl, hB1⟩
set_option maxRecDepth 100000 in
set_option maxHeartbeats 8000000 in
theorem iLg_yes (la dy mi e1 n1 fe fn fu ho ha ne lo hi st : Int) (up : Bool) (A : Option Addr) (cap : Nat) (xs : List VBlock) {x y z : Int} {n : Nat} (w : World) (hn : xs.length = n) (h : SRow encBlock w A xs) (hl : n ≤ 2000000) (khs : (skyB la (tiltI dy) = true)) (khx : (ryE la dy mi = x)) (khy : (ryN la dy mi = y)) (khz : (ryU la dy mi = z)) (khL : (liB e1 n1 xs x y z = true)) :
    Calls Tryz.prog 46 #[.agg #[.int .i64 la, .int .i64 dy, .int .i64 mi, .int .i64 fe, .int .i64 fn, .int .i64 fu, .int .i64 ho, .int .i64 ha, .int .i64 ne, .slice A n cap, .int .i64 e1, .int .i64 n1, .int .i64 lo, .int .i64 hi, .bool up, .int .i64 st]] w fun E w' => E = .returned (.int .i64 (5 * z)) ∧ Below w.heap.size w w' := by
  have hzb := ryU_bd la dy mi
  rw [khz] at hzb
  obtain ⟨b9, kb⟩ : ∃ b, ryO la dy mi = b := ⟨_, rfl⟩
  have HB9 := Lib.hid kb
  clear kb
  have HS := Lib.hid khs
  have HX := Lib.hid khx
  have HY := Lib.hid khy
  have HZ := Lib.hid khz
  have HL := Lib.hid khL
  clear khs khx khy khz khL
  have HN := Lib.hid hn
  clear hn
  go_enter Tryz.func46, Tryz.ntmps46
  have h0 := h
  clear h
  go_wp2_with fail
  refine (iCR_is _ HS.out HX.out HY.out HZ.out HB9.out).mono ?_; rintro E w2 ⟨rfl, hw2⟩
  have hP2 := blk_next (blk_new w (.cells #[.int .i64 la, .int .i64 dy, .int .i64 mi, .int .i64 fe, .int .i64 fn, .int .i64 fu, .int .i64 ho, .int .i64 ha, .int .i64 ne, .slice A n cap, .int .i64 e1, .int .i64 n1, .int .i64 lo, .int .i64 hi, .bool up, .int .i64 st] 77 (0, 0))) hw2
  have hB2 := bel_next (bel1 w _) hw2
  have hS3 := blk_new w2 (.cells #[.int .i64 x, .int .i64 y, .int .i64 z] 43 (0, 0))
  have hP3 := blk_old hP2 (.cells #[.int .i64 x, .int .i64 y, .int .i64 z] 43 (0, 0))
  have hB3 : Below w.heap.size w (w2.alloc (.cells #[.int .i64 x, .int .i64 y, .int .i64 z] 43 (0, 0))) := hB2.alloc (by have := hB2.size; omega) _
  clear hP2
  have hA2 := h0.next hB3
  obtain ⟨cS0, cS1, cS2, fS0, fS1, fS2, zS⟩ := blk3 hS3
  obtain ⟨cP0, cP1, cP2, cP3, cP4, cP5, cP6, cP7, cP8, cP9, cP10, cP11, cP12, cP13, cP14, cP15, fP0, fP1, fP2, fP3, fP4, fP5, fP6, fP7, fP8, fP9, fP10, fP11, fP12, fP13, fP14, fP15, zP⟩ := blk16 hP3
  go_wp2_with fail
  refine (iLi_is A cap xs e1 n1 x y z _ HN.out hA2 hl HL.out).mono ?_; rintro E w8 ⟨rfl, hw8⟩
  have hB8 := bel_next hB3 hw8
  have hS8 := blk_next hS3 hw8
  have hP8 := blk_next hP3 hw8
  clear hA2 cS0 fS0 cS1 fS1 cS2 fS2 cP0 fP0 cP1 fP1 cP2 fP2 cP3 fP3 cP4 fP4 cP5 fP5 cP6 fP6 cP7 fP7 cP8 fP8 cP9 fP9 cP10 fP10 cP11 fP11 cP12 fP12 cP13 fP13 cP14 fP14 cP15 fP15 zS zP hS3 hP3
  obtain ⟨cS0, cS1, cS2, fS0, fS1, fS2, zS⟩ := blk3 hS8
  go_wp2
  exact bodyPost_ret (v := .int .i64 (5 * z)) (by simp [results, Tryz.results46, go_sem]) rfl ⟨rfl, hB8⟩
set_option maxRecDepth 100000 in
set_option maxHeartbeats 8000000 in
theorem iLg_no (la dy mi e1 n1 fe fn fu ho ha ne lo hi st : Int) (up : Bool) (A : Option Addr) (cap : Nat) (xs : List VBlock) {x y z : Int} {n : Nat} (w : World) (hn : xs.length = n) (h : SRow encBlock w A xs) (hl : n ≤ 2000000) (khs : (skyB la (tiltI dy) = true)) (khx : (ryE la dy mi = x)) (khy : (ryN la dy mi = y)) (khz : (ryU la dy mi = z)) (khL : (liB e1 n1 xs x y z = false)) :
    Calls Tryz.prog 46 #[.agg #[.int .i64 la, .int .i64 dy, .int .i64 mi, .int .i64 fe, .int .i64 fn, .int .i64 fu, .int .i64 ho, .int .i64 ha, .int .i64 ne, .slice A n cap, .int .i64 e1, .int .i64 n1, .int .i64 lo, .int .i64 hi, .bool up, .int .i64 st]] w fun E w' => E = .returned (.int .i64 z) ∧ Below w.heap.size w w' := by
  have hzb := ryU_bd la dy mi
  rw [khz] at hzb
  obtain ⟨b9, kb⟩ : ∃ b, ryO la dy mi = b := ⟨_, rfl⟩
  have HB9 := Lib.hid kb
  clear kb
  have HS := Lib.hid khs
  have HX := Lib.hid khx
  have HY := Lib.hid khy
  have HZ := Lib.hid khz
  have HL := Lib.hid khL
  clear khs khx khy khz khL
  have HN := Lib.hid hn
  clear hn
  go_enter Tryz.func46, Tryz.ntmps46
  have h0 := h
  clear h
  go_wp2_with fail
  refine (iCR_is _ HS.out HX.out HY.out HZ.out HB9.out).mono ?_; rintro E w2 ⟨rfl, hw2⟩
  have hP2 := blk_next (blk_new w (.cells #[.int .i64 la, .int .i64 dy, .int .i64 mi, .int .i64 fe, .int .i64 fn, .int .i64 fu, .int .i64 ho, .int .i64 ha, .int .i64 ne, .slice A n cap, .int .i64 e1, .int .i64 n1, .int .i64 lo, .int .i64 hi, .bool up, .int .i64 st] 77 (0, 0))) hw2
  have hB2 := bel_next (bel1 w _) hw2
  have hS3 := blk_new w2 (.cells #[.int .i64 x, .int .i64 y, .int .i64 z] 43 (0, 0))
  have hP3 := blk_old hP2 (.cells #[.int .i64 x, .int .i64 y, .int .i64 z] 43 (0, 0))
  have hB3 : Below w.heap.size w (w2.alloc (.cells #[.int .i64 x, .int .i64 y, .int .i64 z] 43 (0, 0))) := hB2.alloc (by have := hB2.size; omega) _
  clear hP2
  have hA2 := h0.next hB3
  obtain ⟨cS0, cS1, cS2, fS0, fS1, fS2, zS⟩ := blk3 hS3
  obtain ⟨cP0, cP1, cP2, cP3, cP4, cP5, cP6, cP7, cP8, cP9, cP10, cP11, cP12, cP13, cP14, cP15, fP0, fP1, fP2, fP3, fP4, fP5, fP6, fP7, fP8, fP9, fP10, fP11, fP12, fP13, fP14, fP15, zP⟩ := blk16 hP3
  go_wp2_with fail
  refine (iLi_is A cap xs e1 n1 x y z _ HN.out hA2 hl HL.out).mono ?_; rintro E w8 ⟨rfl, hw8⟩
  have hB8 := bel_next hB3 hw8
  have hS8 := blk_next hS3 hw8
  have hP8 := blk_next hP3 hw8
  clear hA2 cS0 fS0 cS1 fS1 cS2 fS2 cP0 fP0 cP1 fP1 cP2 fP2 cP3 fP3 cP4 fP4 cP5 fP5 cP6 fP6 cP7 fP7 cP8 fP8 cP9 fP9 cP10 fP10 cP11 fP11 cP12 fP12 cP13 fP13 cP14 fP14 cP15 fP15 zS zP hS3 hP3
  obtain ⟨cS0, cS1, cS2, fS0, fS1, fS2, zS⟩ := blk3 hS8
  go_wp2
  exact bodyPost_ret (v := .int .i64 z) (by simp [results, Tryz.results46, go_sem]) rfl ⟨rfl, hB8⟩
set_option maxRecDepth 100000 in
set_option maxHeartbeats 8000000 in
theorem iGn_no (la dy mi e1 n1 fe fn fu ho ha ne lo hi st : Int) (up : Bool) (A : Option Addr) (cap : Nat) (xs : List VBlock) {x y z : Int} {n : Nat} (w : World) (hn : xs.length = n) (h : SRow encBlock w A xs) (hl : n ≤ 2000000) (khs : (skyB la (tiltI dy) = true)) (khx : (ryE la dy mi = x)) (khy : (ryN la dy mi = y)) (khz : (ryU la dy mi = z)) (khL : (liB e1 n1 xs x y z = false)) :
    Calls Tryz.prog 54 #[.agg #[.int .i64 la, .int .i64 dy, .int .i64 mi, .int .i64 fe, .int .i64 fn, .int .i64 fu, .int .i64 ho, .int .i64 ha, .int .i64 ne, .slice A n cap, .int .i64 e1, .int .i64 n1, .int .i64 lo, .int .i64 hi, .bool up, .int .i64 st]] w fun E w' => E = .returned (.int .i64 0) ∧ Below w.heap.size w w' := by
  have hzb := ryU_bd la dy mi
  rw [khz] at hzb
  obtain ⟨b9, kb⟩ : ∃ b, ryO la dy mi = b := ⟨_, rfl⟩
  have HB9 := Lib.hid kb
  clear kb
  have HS := Lib.hid khs
  have HX := Lib.hid khx
  have HY := Lib.hid khy
  have HZ := Lib.hid khz
  have HL := Lib.hid khL
  clear khs khx khy khz khL
  have HN := Lib.hid hn
  clear hn
  go_enter Tryz.func54, Tryz.ntmps54
  have h0 := h
  clear h
  go_wp2_with fail
  refine (iCR_is _ HS.out HX.out HY.out HZ.out HB9.out).mono ?_; rintro E w2 ⟨rfl, hw2⟩
  have hP2 := blk_next (blk_new w (.cells #[.int .i64 la, .int .i64 dy, .int .i64 mi, .int .i64 fe, .int .i64 fn, .int .i64 fu, .int .i64 ho, .int .i64 ha, .int .i64 ne, .slice A n cap, .int .i64 e1, .int .i64 n1, .int .i64 lo, .int .i64 hi, .bool up, .int .i64 st] 77 (0, 0))) hw2
  have hB2 := bel_next (bel1 w _) hw2
  have hS3 := blk_new w2 (.cells #[.int .i64 x, .int .i64 y, .int .i64 z] 43 (0, 0))
  have hP3 := blk_old hP2 (.cells #[.int .i64 x, .int .i64 y, .int .i64 z] 43 (0, 0))
  have hB3 : Below w.heap.size w (w2.alloc (.cells #[.int .i64 x, .int .i64 y, .int .i64 z] 43 (0, 0))) := hB2.alloc (by have := hB2.size; omega) _
  clear hP2
  have hA2 := h0.next hB3
  obtain ⟨cS0, cS1, cS2, fS0, fS1, fS2, zS⟩ := blk3 hS3
  obtain ⟨cP0, cP1, cP2, cP3, cP4, cP5, cP6, cP7, cP8, cP9, cP10, cP11, cP12, cP13, cP14, cP15, fP0, fP1, fP2, fP3, fP4, fP5, fP6, fP7, fP8, fP9, fP10, fP11, fP12, fP13, fP14, fP15, zP⟩ := blk16 hP3
  go_wp2_with fail
  refine (iLi_is A cap xs e1 n1 x y z _ HN.out hA2 hl HL.out).mono ?_; rintro E w8 ⟨rfl, hw8⟩
  have hB8 := bel_next hB3 hw8
  have hS8 := blk_next hS3 hw8
  have hP8 := blk_next hP3 hw8
  clear hA2 cS0 fS0 cS1 fS1 cS2 fS2 cP0 fP0 cP1 fP1 cP2 fP2 cP3 fP3 cP4 fP4 cP5 fP5 cP6 fP6 cP7 fP7 cP8 fP8 cP9 fP9 cP10 fP10 cP11 fP11 cP12 fP12 cP13 fP13 cP14 fP14 cP15 fP15 zS zP hS3 hP3
  obtain ⟨cS0, cS1, cS2, fS0, fS1, fS2, zS⟩ := blk3 hS8
  go_wp2
  exact bodyPost_ret (v := .int .i64 0) (by simp [results, Tryz.results54, go_sem]) rfl ⟨rfl, hB8⟩
set_option maxRecDepth 100000 in
set_option maxHeartbeats 8000000 in
theorem iGn_yes (la dy mi e1 n1 fe fn fu ho ha ne lo hi st : Int) (up : Bool) (A : Option Addr) (cap : Nat) (xs : List VBlock) {x y z f r : Int} {n : Nat} (w : World) (hn : xs.length = n) (h : SRow encBlock w A xs) (hl : n ≤ 2000000) (khs : (skyB la (tiltI dy) = true)) (khx : (ryE la dy mi = x)) (khy : (ryN la dy mi = y)) (khz : (ryU la dy mi = z)) (khL : (liB e1 n1 xs x y z = true)) (khF : (fgI fe fn fu x y z = f)) (khR : (goI f = r)) :
    Calls Tryz.prog 54 #[.agg #[.int .i64 la, .int .i64 dy, .int .i64 mi, .int .i64 fe, .int .i64 fn, .int .i64 fu, .int .i64 ho, .int .i64 ha, .int .i64 ne, .slice A n cap, .int .i64 e1, .int .i64 n1, .int .i64 lo, .int .i64 hi, .bool up, .int .i64 st]] w fun E w' => E = .returned (.int .i64 r) ∧ Below w.heap.size w w' := by
  have hzb := ryU_bd la dy mi
  rw [khz] at hzb
  obtain ⟨b9, kb⟩ : ∃ b, ryO la dy mi = b := ⟨_, rfl⟩
  have HB9 := Lib.hid kb
  clear kb
  have HS := Lib.hid khs
  have HX := Lib.hid khx
  have HY := Lib.hid khy
  have HZ := Lib.hid khz
  have HL := Lib.hid khL
  have HF := Lib.hid khF
  have HR := Lib.hid khR
  clear khs khx khy khz khL khF khR
  have HN := Lib.hid hn
  clear hn
  go_enter Tryz.func54, Tryz.ntmps54
  have h0 := h
  clear h
  go_wp2_with fail
  refine (iCR_is _ HS.out HX.out HY.out HZ.out HB9.out).mono ?_; rintro E w2 ⟨rfl, hw2⟩
  have hP2 := blk_next (blk_new w (.cells #[.int .i64 la, .int .i64 dy, .int .i64 mi, .int .i64 fe, .int .i64 fn, .int .i64 fu, .int .i64 ho, .int .i64 ha, .int .i64 ne, .slice A n cap, .int .i64 e1, .int .i64 n1, .int .i64 lo, .int .i64 hi, .bool up, .int .i64 st] 77 (0, 0))) hw2
  have hB2 := bel_next (bel1 w _) hw2
  have hS3 := blk_new w2 (.cells #[.int .i64 x, .int .i64 y, .int .i64 z] 43 (0, 0))
  have hP3 := blk_old hP2 (.cells #[.int .i64 x, .int .i64 y, .int .i64 z] 43 (0, 0))
  have hB3 : Below w.heap.size w (w2.alloc (.cells #[.int .i64 x, .int .i64 y, .int .i64 z] 43 (0, 0))) := hB2.alloc (by have := hB2.size; omega) _
  clear hP2
  have hA2 := h0.next hB3
  obtain ⟨cS0, cS1, cS2, fS0, fS1, fS2, zS⟩ := blk3 hS3
  obtain ⟨cP0, cP1, cP2, cP3, cP4, cP5, cP6, cP7, cP8, cP9, cP10, cP11, cP12, cP13, cP14, cP15, fP0, fP1, fP2, fP3, fP4, fP5, fP6, fP7, fP8, fP9, fP10, fP11, fP12, fP13, fP14, fP15, zP⟩ := blk16 hP3
  go_wp2_with fail
  refine (iLi_is A cap xs e1 n1 x y z _ HN.out hA2 hl HL.out).mono ?_; rintro E w8 ⟨rfl, hw8⟩
  have hB8 := bel_next hB3 hw8
  have hS8 := blk_next hS3 hw8
  have hP8 := blk_next hP3 hw8
  clear hA2 cS0 fS0 cS1 fS1 cS2 fS2 cP0 fP0 cP1 fP1 cP2 fP2 cP3 fP3 cP4 fP4 cP5 fP5 cP6 fP6 cP7 fP7 cP8 fP8 cP9 fP9 cP10 fP10 cP11 fP11 cP12 fP12 cP13 fP13 cP14 fP14 cP15 fP15 zS zP hS3 hP3
  obtain ⟨cS0, cS1, cS2, fS0, fS1, fS2, zS⟩ := blk3 hS8
  clear hS8
  obtain ⟨cP0, cP1, cP2, cP3, cP4, cP5, cP6, cP7, cP8, cP9, cP10, cP11, cP12, cP13, cP14, cP15, fP0, fP1, fP2, fP3, fP4, fP5, fP6, fP7, fP8, fP9, fP10, fP11, fP12, fP13, fP14, fP15, zP⟩ := blk16 hP8
  go_wp2_with fail
  refine (iGO_is _ HF.out HR.out).mono ?_; rintro E w9 ⟨rfl, hw9⟩
  have hB9 := bel_next hB8 hw9
  go_wp2
  exact bodyPost_ret (v := .int .i64 r) (by simp [results, Tryz.results54, go_sem]) rfl ⟨rfl, hB9⟩
end Go.Proofs.YtbklgpghonigjaaGreat
namespace Go.Proofs.YtbklgpghonigjaaGreat
open Go Go.ChangeShapes Go.WideShapes Go.ChangeAt Go.RowKit
set_option linter.unusedSimpArgs false
set_option linter.unusedVariables false
set_option linter.unnecessarySimpa false
theorem ra_one (u : Int) : (if raI u (-20) < 1 then 1 else raI u (-20)) = raI u 1 := by unfold raI; split <;> omega
theorem sSR_is (la dy mi e1 n1 fe fn fu ho ha ne lo hi st : Int) (up : Bool) (A : Option Addr) (cap : Nat) (xs : List VBlock) {x y z : Int} {b : Bool} {n : Nat} (w : World) (hn : xs.length = n) (h : SRow encBlock w A xs) (hl : n ≤ 2000000) (hb : siB la dy mi e1 n1 fe fn fu ho ha ne lo hi st xs = true) (hx : ryE la dy mi = x) (hy : ryN la dy mi = y) (hz : ryU la dy mi = z) (kO : ryO la dy mi = b) :
    Calls Tryz.prog 47 #[.agg #[.int .i64 la, .int .i64 dy, .int .i64 mi, .slice A n cap, .int .i64 e1, .int .i64 n1, .int .i64 fe, .int .i64 fn, .int .i64 fu, .int .i64 ho, .int .i64 ha, .int .i64 ne, .int .i64 lo, .int .i64 hi, .bool up, .int .i64 st]] w fun E w' => E = .returned (.tuple #[.agg #[.int .i64 x, .int .i64 y, .int .i64 z], .bool b]) ∧ Below w.heap.size w w' := by
  have he := east_bd (tiltI dy) (haI mi)
  have hno := north_bd la (tiltI dy) (haI mi)
  have hu := up_bd la (tiltI dy) (haI mi)
  have hs := sky_of hb
  subst kO hx hy hz
  cases h9 : ryO la dy mi
  · obtain ⟨a1, a2, a3⟩ := ry_no h9
    rw [a1, a2, a3]
    simp only [ryO, decide_eq_false_iff_not] at h9
    exact sSRno la dy mi e1 n1 fe fn fu ho ha ne lo hi st up A cap xs w hn h hl hb rfl rfl hs rfl rfl rfl (by unfold suI at h9; omega)
  · simp only [ryO, decide_eq_true_eq] at h9
    have a1 : ryE la dy mi = reI dy mi := by simp [ryE, h9]
    have a2 : ryN la dy mi = rnI la dy mi := by simp [ryN, h9]
    have a3 : ryU la dy mi = ruI la dy mi := by simp [ryU, h9]
    rw [a1, a2, a3]
    exact sSRyes la dy mi e1 n1 fe fn fu ho ha ne lo hi st up A cap xs w hn h hl hb rfl rfl hs rfl rfl rfl h9 ⟨by omega, by omega⟩ hno hu rfl rfl rfl (ra_one _)
set_option maxRecDepth 100000 in
set_option maxHeartbeats 8000000 in
theorem sSLbad (la dy mi e1 n1 fe fn fu ho ha ne lo hi st : Int) (up : Bool) (A : Option Addr) (cap : Nat) (xs : List VBlock)  {n : Nat} (w : World) (hn : xs.length = n) (h : SRow encBlock w A xs) (hl : n ≤ 2000000) (hb : siB la dy mi e1 n1 fe fn fu ho ha ne lo hi st xs = false) :
    Calls Tryz.prog 12 #[.agg #[.int .i64 la, .int .i64 dy, .int .i64 mi, .slice A n cap, .int .i64 e1, .int .i64 n1, .int .i64 fe, .int .i64 fn, .int .i64 fu, .int .i64 ho, .int .i64 ha, .int .i64 ne, .int .i64 lo, .int .i64 hi, .bool up, .int .i64 st]] w fun E w' => E = .returned (.int .i64 (-1)) ∧ Below w.heap.size w w' := by
  have HB := Lib.hid hb
  have HN := Lib.hid hn
  clear hb hn
  have h0 := h
  clear h
  go_enter Tryz.func12, Tryz.ntmps12
  have hP0 := blk_new w (.cells #[.int .i64 la, .int .i64 dy, .int .i64 mi, .slice A n cap, .int .i64 e1, .int .i64 n1, .int .i64 fe, .int .i64 fn, .int .i64 fu, .int .i64 ho, .int .i64 ha, .int .i64 ne, .int .i64 lo, .int .i64 hi, .bool up, .int .i64 st] 33 (0, 0))
  go_wp2_with (refine wpList_load_row rfl 33 _ rfl _ rfl _ _ (0, 0) _ (by assumption) Tryz.underlying33 rfl (by kernel_rfl) ?_)
  refine (sSV10_is la dy mi e1 n1 fe fn fu ho ha ne lo hi st up A cap xs _ HN.out (h0.next (bel1 w _)) hl HB.out).mono ?_; rintro E w1 ⟨rfl, hw1⟩
  have hP1 := blk_next hP0 hw1
  have hB1 := bel_next (bel1 w _) hw1
  clear hP0
  go_wp2
  exact bodyPost_ret (v := .int .i64 (-1)) (by simp [results, Tryz.results12, go_sem]) rfl ⟨rfl, hB1⟩
set_option maxRecDepth 100000 in
set_option maxHeartbeats 8000000 in
theorem sSGbad (la dy mi e1 n1 fe fn fu ho ha ne lo hi st : Int) (up : Bool) (A : Option Addr) (cap : Nat) (xs : List VBlock)  {n : Nat} (w : World) (hn : xs.length = n) (h : SRow encBlock w A xs) (hl : n ≤ 2000000) (hb : siB la dy mi e1 n1 fe fn fu ho ha ne lo hi st xs = false) :
    Calls Tryz.prog 18 #[.agg #[.int .i64 la, .int .i64 dy, .int .i64 mi, .slice A n cap, .int .i64 e1, .int .i64 n1, .int .i64 fe, .int .i64 fn, .int .i64 fu, .int .i64 ho, .int .i64 ha, .int .i64 ne, .int .i64 lo, .int .i64 hi, .bool up, .int .i64 st]] w fun E w' => E = .returned (.int .i64 (-1)) ∧ Below w.heap.size w w' := by
  have HB := Lib.hid hb
  have HN := Lib.hid hn
  clear hb hn
  have h0 := h
  clear h
  go_enter Tryz.func18, Tryz.ntmps18
  have hP0 := blk_new w (.cells #[.int .i64 la, .int .i64 dy, .int .i64 mi, .slice A n cap, .int .i64 e1, .int .i64 n1, .int .i64 fe, .int .i64 fn, .int .i64 fu, .int .i64 ho, .int .i64 ha, .int .i64 ne, .int .i64 lo, .int .i64 hi, .bool up, .int .i64 st] 33 (0, 0))
  go_wp2_with (refine wpList_load_row rfl 33 _ rfl _ rfl _ _ (0, 0) _ (by assumption) Tryz.underlying33 rfl (by kernel_rfl) ?_)
  refine (sSV10_is la dy mi e1 n1 fe fn fu ho ha ne lo hi st up A cap xs _ HN.out (h0.next (bel1 w _)) hl HB.out).mono ?_; rintro E w1 ⟨rfl, hw1⟩
  have hP1 := blk_next hP0 hw1
  have hB1 := bel_next (bel1 w _) hw1
  clear hP0
  go_wp2
  exact bodyPost_ret (v := .int .i64 (-1)) (by simp [results, Tryz.results18, go_sem]) rfl ⟨rfl, hB1⟩
set_option maxRecDepth 100000 in
set_option maxHeartbeats 8000000 in
theorem iSLbad (la dy mi e1 n1 fe fn fu ho ha ne lo hi st : Int) (up : Bool) (A : Option Addr) (cap : Nat) (xs : List VBlock)  {n : Nat} (w : World) (hn : xs.length = n) (h : SRow encBlock w A xs) (hl : n ≤ 2000000) (hb : siB la dy mi e1 n1 fe fn fu ho ha ne lo hi st xs = false) :
    Calls Tryz.prog 11 #[.agg #[.int .i64 la, .int .i64 dy, .int .i64 mi, .slice A n cap, .int .i64 e1, .int .i64 n1, .int .i64 fe, .int .i64 fn, .int .i64 fu, .int .i64 ho, .int .i64 ha, .int .i64 ne, .int .i64 lo, .int .i64 hi, .bool up, .int .i64 st]] w fun E w' => E = .returned (.int .i64 (-1)) ∧ Below w.heap.size w w' := by
  have HB := Lib.hid hb
  have HN := Lib.hid hn
  clear hb hn
  have h0 := h
  clear h
  go_enter Tryz.func11, Tryz.ntmps11
  have hP0 := blk_new w (.cells #[.int .i64 la, .int .i64 dy, .int .i64 mi, .slice A n cap, .int .i64 e1, .int .i64 n1, .int .i64 fe, .int .i64 fn, .int .i64 fu, .int .i64 ho, .int .i64 ha, .int .i64 ne, .int .i64 lo, .int .i64 hi, .bool up, .int .i64 st] 33 (0, 0))
  go_wp2_with (refine wpList_load_row rfl 33 _ rfl _ rfl _ _ (0, 0) _ (by assumption) Tryz.underlying33 rfl (by kernel_rfl) ?_)
  refine (iSV_is la dy mi e1 n1 fe fn fu ho ha ne lo hi st up A cap xs _ HN.out (h0.next (bel1 w _)) hl HB.out).mono ?_; rintro E w1 ⟨rfl, hw1⟩
  have hP1 := blk_next hP0 hw1
  have hB1 := bel_next (bel1 w _) hw1
  clear hP0
  go_wp2
  exact bodyPost_ret (v := .int .i64 (-1)) (by simp [results, Tryz.results11, go_sem]) rfl ⟨rfl, hB1⟩
set_option maxRecDepth 100000 in
set_option maxHeartbeats 8000000 in
theorem iSGbad (la dy mi e1 n1 fe fn fu ho ha ne lo hi st : Int) (up : Bool) (A : Option Addr) (cap : Nat) (xs : List VBlock)  {n : Nat} (w : World) (hn : xs.length = n) (h : SRow encBlock w A xs) (hl : n ≤ 2000000) (hb : siB la dy mi e1 n1 fe fn fu ho ha ne lo hi st xs = false) :
    Calls Tryz.prog 17 #[.agg #[.int .i64 la, .int .i64 dy, .int .i64 mi, .slice A n cap, .int .i64 e1, .int .i64 n1, .int .i64 fe, .int .i64 fn, .int .i64 fu, .int .i64 ho, .int .i64 ha, .int .i64 ne, .int .i64 lo, .int .i64 hi, .bool up, .int .i64 st]] w fun E w' => E = .returned (.int .i64 (-1)) ∧ Below w.heap.size w w' := by
  have HB := Lib.hid hb
  have HN := Lib.hid hn
  clear hb hn
  have h0 := h
  clear h
  go_enter Tryz.func17, Tryz.ntmps17
  have hP0 := blk_new w (.cells #[.int .i64 la, .int .i64 dy, .int .i64 mi, .slice A n cap, .int .i64 e1, .int .i64 n1, .int .i64 fe, .int .i64 fn, .int .i64 fu, .int .i64 ho, .int .i64 ha, .int .i64 ne, .int .i64 lo, .int .i64 hi, .bool up, .int .i64 st] 33 (0, 0))
  go_wp2_with (refine wpList_load_row rfl 33 _ rfl _ rfl _ _ (0, 0) _ (by assumption) Tryz.underlying33 rfl (by kernel_rfl) ?_)
  refine (iSV_is la dy mi e1 n1 fe fn fu ho ha ne lo hi st up A cap xs _ HN.out (h0.next (bel1 w _)) hl HB.out).mono ?_; rintro E w1 ⟨rfl, hw1⟩
  have hP1 := blk_next hP0 hw1
  have hB1 := bel_next (bel1 w _) hw1
  clear hP0
  go_wp2
  exact bodyPost_ret (v := .int .i64 (-1)) (by simp [results, Tryz.results17, go_sem]) rfl ⟨rfl, hB1⟩
set_option maxRecDepth 100000 in
set_option maxHeartbeats 8000000 in
theorem iSLyes (la dy mi e1 n1 fe fn fu ho ha ne lo hi st : Int) (up : Bool) (A : Option Addr) (cap : Nat) (xs : List VBlock) {x y z : Int} {n : Nat} (w : World) (hn : xs.length = n) (h : SRow encBlock w A xs) (hl : n ≤ 2000000) (hb : siB la dy mi e1 n1 fe fn fu ho ha ne lo hi st xs = true) (khx : (ryE la dy mi = x)) (khy : (ryN la dy mi = y)) (khz : (ryU la dy mi = z)) (khL : (liB e1 n1 xs x y z = true)) :
    Calls Tryz.prog 11 #[.agg #[.int .i64 la, .int .i64 dy, .int .i64 mi, .slice A n cap, .int .i64 e1, .int .i64 n1, .int .i64 fe, .int .i64 fn, .int .i64 fu, .int .i64 ho, .int .i64 ha, .int .i64 ne, .int .i64 lo, .int .i64 hi, .bool up, .int .i64 st]] w fun E w' => E = .returned (.int .i64 (5 * z)) ∧ Below w.heap.size w w' := by
  have HS := Lib.hid (sky_of hb)
  have HX := Lib.hid khx
  have HY := Lib.hid khy
  have HZ := Lib.hid khz
  have HL := Lib.hid khL
  clear khx khy khz khL
  have HB := Lib.hid hb
  have HN := Lib.hid hn
  clear hb hn
  have h0 := h
  clear h
  go_enter Tryz.func11, Tryz.ntmps11
  have hP0 := blk_new w (.cells #[.int .i64 la, .int .i64 dy, .int .i64 mi, .slice A n cap, .int .i64 e1, .int .i64 n1, .int .i64 fe, .int .i64 fn, .int .i64 fu, .int .i64 ho, .int .i64 ha, .int .i64 ne, .int .i64 lo, .int .i64 hi, .bool up, .int .i64 st] 33 (0, 0))
  go_wp2_with (refine wpList_load_row rfl 33 _ rfl _ rfl _ _ (0, 0) _ (by assumption) Tryz.underlying33 rfl (by kernel_rfl) ?_)
  refine (iSV_is la dy mi e1 n1 fe fn fu ho ha ne lo hi st up A cap xs _ HN.out (h0.next (bel1 w _)) hl HB.out).mono ?_; rintro E w1 ⟨rfl, hw1⟩
  have hP1 := blk_next hP0 hw1
  have hB1 := bel_next (bel1 w _) hw1
  clear hP0
  go_wp2_with (refine wpList_load_row rfl 33 _ rfl _ rfl _ _ (0, 0) _ (by assumption) Tryz.underlying33 rfl (by kernel_rfl) ?_)
  refine (partsOf_any la dy mi e1 n1 fe fn fu ho ha ne lo hi st up A n cap _).mono ?_; rintro E w2 ⟨rfl, hw2⟩
  have hB2 := bel_next hB1 hw2
  have hA2 := h0.next hB2
  clear hP1
  go_wp2_with fail
  refine (iLg_yes la dy mi e1 n1 fe fn fu ho ha ne lo hi st up A cap xs _ HN.out hA2 hl HS.out HX.out HY.out HZ.out HL.out).mono ?_; rintro E w3 ⟨rfl, hw3⟩
  have hB3 := bel_next hB2 hw3
  go_wp2
  exact bodyPost_ret (v := .int .i64 (5 * z)) (by simp [results, Tryz.results11, go_sem]) rfl ⟨rfl, hB3⟩
set_option maxRecDepth 100000 in
set_option maxHeartbeats 8000000 in
theorem iSLno (la dy mi e1 n1 fe fn fu ho ha ne lo hi st : Int) (up : Bool) (A : Option Addr) (cap : Nat) (xs : List VBlock) {x y z : Int} {n : Nat} (w : World) (hn : xs.length = n) (h : SRow encBlock w A xs) (hl : n ≤ 2000000) (hb : siB la dy mi e1 n1 fe fn fu ho ha ne lo hi st xs = true) (khx : (ryE la dy mi = x)) (khy : (ryN la dy mi = y)) (khz : (ryU la dy mi = z)) (khL : (liB e1 n1 xs x y z = false)) :
    Calls Tryz.prog 11 #[.agg #[.int .i64 la, .int .i64 dy, .int .i64 mi, .slice A n cap, .int .i64 e1, .int .i64 n1, .int .i64 fe, .int .i64 fn, .int .i64 fu, .int .i64 ho, .int .i64 ha, .int .i64 ne, .int .i64 lo, .int .i64 hi, .bool up, .int .i64 st]] w fun E w' => E = .returned (.int .i64 z) ∧ Below w.heap.size w w' := by
  have HS := Lib.hid (sky_of hb)
  have HX := Lib.hid khx
  have HY := Lib.hid khy
  have HZ := Lib.hid khz
  have HL := Lib.hid khL
  clear khx khy khz khL
  have HB := Lib.hid hb
  have HN := Lib.hid hn
  clear hb hn
  have h0 := h
  clear h
  go_enter Tryz.func11, Tryz.ntmps11
  have hP0 := blk_new w (.cells #[.int .i64 la, .int .i64 dy, .int .i64 mi, .slice A n cap, .int .i64 e1, .int .i64 n1, .int .i64 fe, .int .i64 fn, .int .i64 fu, .int .i64 ho, .int .i64 ha, .int .i64 ne, .int .i64 lo, .int .i64 hi, .bool up, .int .i64 st] 33 (0, 0))
  go_wp2_with (refine wpList_load_row rfl 33 _ rfl _ rfl _ _ (0, 0) _ (by assumption) Tryz.underlying33 rfl (by kernel_rfl) ?_)
  refine (iSV_is la dy mi e1 n1 fe fn fu ho ha ne lo hi st up A cap xs _ HN.out (h0.next (bel1 w _)) hl HB.out).mono ?_; rintro E w1 ⟨rfl, hw1⟩
  have hP1 := blk_next hP0 hw1
  have hB1 := bel_next (bel1 w _) hw1
  clear hP0
  go_wp2_with (refine wpList_load_row rfl 33 _ rfl _ rfl _ _ (0, 0) _ (by assumption) Tryz.underlying33 rfl (by kernel_rfl) ?_)
  refine (partsOf_any la dy mi e1 n1 fe fn fu ho ha ne lo hi st up A n cap _).mono ?_; rintro E w2 ⟨rfl, hw2⟩
  have hB2 := bel_next hB1 hw2
  have hA2 := h0.next hB2
  clear hP1
  go_wp2_with fail
  refine (iLg_no la dy mi e1 n1 fe fn fu ho ha ne lo hi st up A cap xs _ HN.out hA2 hl HS.out HX.out HY.out HZ.out HL.out).mono ?_; rintro E w3 ⟨rfl, hw3⟩
  have hB3 := bel_next hB2 hw3
  go_wp2
  exact bodyPost_ret (v := .int .i64 z) (by simp [results, Tryz.results11, go_sem]) rfl ⟨rfl, hB3⟩
set_option maxRecDepth 100000 in
set_option maxHeartbeats 8000000 in
theorem iSGno (la dy mi e1 n1 fe fn fu ho ha ne lo hi st : Int) (up : Bool) (A : Option Addr) (cap : Nat) (xs : List VBlock) {x y z : Int} {n : Nat} (w : World) (hn : xs.length = n) (h : SRow encBlock w A xs) (hl : n ≤ 2000000) (hb : siB la dy mi e1 n1 fe fn fu ho ha ne lo hi st xs = true) (khx : (ryE la dy mi = x)) (khy : (ryN la dy mi = y)) (khz : (ryU la dy mi = z)) (khL : (liB e1 n1 xs x y z = false)) :
    Calls Tryz.prog 17 #[.agg #[.int .i64 la, .int .i64 dy, .int .i64 mi, .slice A n cap, .int .i64 e1, .int .i64 n1, .int .i64 fe, .int .i64 fn, .int .i64 fu, .int .i64 ho, .int .i64 ha, .int .i64 ne, .int .i64 lo, .int .i64 hi, .bool up, .int .i64 st]] w fun E w' => E = .returned (.int .i64 0) ∧ Below w.heap.size w w' := by
  have HS := Lib.hid (sky_of hb)
  have HX := Lib.hid khx
  have HY := Lib.hid khy
  have HZ := Lib.hid khz
  have HL := Lib.hid khL
  clear khx khy khz khL
  have HB := Lib.hid hb
  have HN := Lib.hid hn
  clear hb hn
  have h0 := h
  clear h
  go_enter Tryz.func17, Tryz.ntmps17
  have hP0 := blk_new w (.cells #[.int .i64 la, .int .i64 dy, .int .i64 mi, .slice A n cap, .int .i64 e1, .int .i64 n1, .int .i64 fe, .int .i64 fn, .int .i64 fu, .int .i64 ho, .int .i64 ha, .int .i64 ne, .int .i64 lo, .int .i64 hi, .bool up, .int .i64 st] 33 (0, 0))
  go_wp2_with (refine wpList_load_row rfl 33 _ rfl _ rfl _ _ (0, 0) _ (by assumption) Tryz.underlying33 rfl (by kernel_rfl) ?_)
  refine (iSV_is la dy mi e1 n1 fe fn fu ho ha ne lo hi st up A cap xs _ HN.out (h0.next (bel1 w _)) hl HB.out).mono ?_; rintro E w1 ⟨rfl, hw1⟩
  have hP1 := blk_next hP0 hw1
  have hB1 := bel_next (bel1 w _) hw1
  clear hP0
  go_wp2_with (refine wpList_load_row rfl 33 _ rfl _ rfl _ _ (0, 0) _ (by assumption) Tryz.underlying33 rfl (by kernel_rfl) ?_)
  refine (partsOf_any la dy mi e1 n1 fe fn fu ho ha ne lo hi st up A n cap _).mono ?_; rintro E w2 ⟨rfl, hw2⟩
  have hB2 := bel_next hB1 hw2
  have hA2 := h0.next hB2
  clear hP1
  go_wp2_with fail
  refine (iGn_no la dy mi e1 n1 fe fn fu ho ha ne lo hi st up A cap xs _ HN.out hA2 hl HS.out HX.out HY.out HZ.out HL.out).mono ?_; rintro E w3 ⟨rfl, hw3⟩
  have hB3 := bel_next hB2 hw3
  go_wp2
  exact bodyPost_ret (v := .int .i64 0) (by simp [results, Tryz.results17, go_sem]) rfl ⟨rfl, hB3⟩
set_option maxRecDepth 100000 in
set_option maxHeartbeats 8000000 in
theorem iSGyes (la dy mi e1 n1 fe fn fu ho ha ne lo hi st : Int) (up : Bool) (A : Option Addr) (cap : Nat) (xs : List VBlock) {x y z f r : Int} {n : Nat} (w : World) (hn : xs.length = n) (h : SRow encBlock w A xs) (hl : n ≤ 2000000) (hb : siB la dy mi e1 n1 fe fn fu ho ha ne lo hi st xs = true) (khx : (ryE la dy mi = x)) (khy : (ryN la dy mi = y)) (khz : (ryU la dy mi = z)) (khL : (liB e1 n1 xs x y z = true)) (khF : (fgI fe fn fu x y z = f)) (khR : (goI f = r)) :
    Calls Tryz.prog 17 #[.agg #[.int .i64 la, .int .i64 dy, .int .i64 mi, .slice A n cap, .int .i64 e1, .int .i64 n1, .int .i64 fe, .int .i64 fn, .int .i64 fu, .int .i64 ho, .int .i64 ha, .int .i64 ne, .int .i64 lo, .int .i64 hi, .bool up, .int .i64 st]] w fun E w' => E = .returned (.int .i64 r) ∧ Below w.heap.size w w' := by
  have HS := Lib.hid (sky_of hb)
  have HX := Lib.hid khx
  have HY := Lib.hid khy
  have HZ := Lib.hid khz
  have HL := Lib.hid khL
  have HF := Lib.hid khF
  have HR := Lib.hid khR
  clear khx khy khz khL khF khR
  have HB := Lib.hid hb
  have HN := Lib.hid hn
  clear hb hn
  have h0 := h
  clear h
  go_enter Tryz.func17, Tryz.ntmps17
  have hP0 := blk_new w (.cells #[.int .i64 la, .int .i64 dy, .int .i64 mi, .slice A n cap, .int .i64 e1, .int .i64 n1, .int .i64 fe, .int .i64 fn, .int .i64 fu, .int .i64 ho, .int .i64 ha, .int .i64 ne, .int .i64 lo, .int .i64 hi, .bool up, .int .i64 st] 33 (0, 0))
  go_wp2_with (refine wpList_load_row rfl 33 _ rfl _ rfl _ _ (0, 0) _ (by assumption) Tryz.underlying33 rfl (by kernel_rfl) ?_)
  refine (iSV_is la dy mi e1 n1 fe fn fu ho ha ne lo hi st up A cap xs _ HN.out (h0.next (bel1 w _)) hl HB.out).mono ?_; rintro E w1 ⟨rfl, hw1⟩
  have hP1 := blk_next hP0 hw1
  have hB1 := bel_next (bel1 w _) hw1
  clear hP0
  go_wp2_with (refine wpList_load_row rfl 33 _ rfl _ rfl _ _ (0, 0) _ (by assumption) Tryz.underlying33 rfl (by kernel_rfl) ?_)
  refine (partsOf_any la dy mi e1 n1 fe fn fu ho ha ne lo hi st up A n cap _).mono ?_; rintro E w2 ⟨rfl, hw2⟩
  have hB2 := bel_next hB1 hw2
  have hA2 := h0.next hB2
  clear hP1
  go_wp2_with fail
  refine (iGn_yes la dy mi e1 n1 fe fn fu ho ha ne lo hi st up A cap xs _ HN.out hA2 hl HS.out HX.out HY.out HZ.out HL.out HF.out HR.out).mono ?_; rintro E w3 ⟨rfl, hw3⟩
  have hB3 := bel_next hB2 hw3
  go_wp2
  exact bodyPost_ret (v := .int .i64 r) (by simp [results, Tryz.results17, go_sem]) rfl ⟨rfl, hB3⟩
set_option maxRecDepth 100000 in
set_option maxHeartbeats 8000000 in
theorem sSLnight (la dy mi e1 n1 fe fn fu ho ha ne lo hi st : Int) (up : Bool) (A : Option Addr) (cap : Nat) (xs : List VBlock) {x y z : Int} {n : Nat} (w : World) (hn : xs.length = n) (h : SRow encBlock w A xs) (hl : n ≤ 2000000) (hb : siB la dy mi e1 n1 fe fn fu ho ha ne lo hi st xs = true) (khx : (ryE la dy mi = x)) (khy : (ryN la dy mi = y)) (khz : (ryU la dy mi = z)) (khO : (ryO la dy mi = false)) :
    Calls Tryz.prog 12 #[.agg #[.int .i64 la, .int .i64 dy, .int .i64 mi, .slice A n cap, .int .i64 e1, .int .i64 n1, .int .i64 fe, .int .i64 fn, .int .i64 fu, .int .i64 ho, .int .i64 ha, .int .i64 ne, .int .i64 lo, .int .i64 hi, .bool up, .int .i64 st]] w fun E w' => E = .returned (.int .i64 0) ∧ Below w.heap.size w w' := by
  have hzb := ryU_bd la dy mi
  rw [khz] at hzb
  have HBB := Lib.hid hb
  have HX := Lib.hid khx
  have HY := Lib.hid khy
  have HZ := Lib.hid khz
  have HO := Lib.hid khO
  clear khx khy khz khO
  have HB := Lib.hid hb
  have HN := Lib.hid hn
  clear hb hn
  have h0 := h
  clear h
  go_enter Tryz.func12, Tryz.ntmps12
  have hP0 := blk_new w (.cells #[.int .i64 la, .int .i64 dy, .int .i64 mi, .slice A n cap, .int .i64 e1, .int .i64 n1, .int .i64 fe, .int .i64 fn, .int .i64 fu, .int .i64 ho, .int .i64 ha, .int .i64 ne, .int .i64 lo, .int .i64 hi, .bool up, .int .i64 st] 33 (0, 0))
  go_wp2_with (refine wpList_load_row rfl 33 _ rfl _ rfl _ _ (0, 0) _ (by assumption) Tryz.underlying33 rfl (by kernel_rfl) ?_)
  refine (sSV10_is la dy mi e1 n1 fe fn fu ho ha ne lo hi st up A cap xs _ HN.out (h0.next (bel1 w _)) hl HB.out).mono ?_; rintro E w1 ⟨rfl, hw1⟩
  have hP1 := blk_next hP0 hw1
  have hB1 := bel_next (bel1 w _) hw1
  clear hP0
  have hA1 := h0.next hB1
  go_wp2_with (refine wpList_load_row rfl 33 _ rfl _ rfl _ _ (0, 0) _ (by assumption) Tryz.underlying33 rfl (by kernel_rfl) ?_)
  refine (sSR_is la dy mi e1 n1 fe fn fu ho ha ne lo hi st up A cap xs _ HN.out hA1 hl HBB.out HX.out HY.out HZ.out HO.out).mono ?_; rintro E w2 ⟨rfl, hw2⟩
  have hP2 := blk_next hP1 hw2
  have hB2 := bel_next hB1 hw2
  have hS3 := blk_new w2 (.cells #[.int .i64 x, .int .i64 y, .int .i64 z] 43 (0, 0))
  have hP3 := blk_old hP2 (.cells #[.int .i64 x, .int .i64 y, .int .i64 z] 43 (0, 0))
  have hB3 : Below w.heap.size w (w2.alloc (.cells #[.int .i64 x, .int .i64 y, .int .i64 z] 43 (0, 0))) := hB2.alloc (by have := hB2.size; omega) _
  clear hP2 hP1 hA1
  clear hP3
  have hB8 := hB3
  go_wp2
  exact bodyPost_ret (v := .int .i64 0) (by simp [results, Tryz.results12, go_sem]) rfl ⟨rfl, hB8⟩
set_option maxRecDepth 100000 in
set_option maxHeartbeats 8000000 in
theorem sSLyes (la dy mi e1 n1 fe fn fu ho ha ne lo hi st : Int) (up : Bool) (A : Option Addr) (cap : Nat) (xs : List VBlock) {x y z : Int} {n : Nat} (w : World) (hn : xs.length = n) (h : SRow encBlock w A xs) (hl : n ≤ 2000000) (hb : siB la dy mi e1 n1 fe fn fu ho ha ne lo hi st xs = true) (khx : (ryE la dy mi = x)) (khy : (ryN la dy mi = y)) (khz : (ryU la dy mi = z)) (khO : (ryO la dy mi = true)) (khL : (liB e1 n1 xs x y z = true)) :
    Calls Tryz.prog 12 #[.agg #[.int .i64 la, .int .i64 dy, .int .i64 mi, .slice A n cap, .int .i64 e1, .int .i64 n1, .int .i64 fe, .int .i64 fn, .int .i64 fu, .int .i64 ho, .int .i64 ha, .int .i64 ne, .int .i64 lo, .int .i64 hi, .bool up, .int .i64 st]] w fun E w' => E = .returned (.int .i64 (5 * z)) ∧ Below w.heap.size w w' := by
  have hzb := ryU_bd la dy mi
  rw [khz] at hzb
  have HBB := Lib.hid hb
  have HX := Lib.hid khx
  have HY := Lib.hid khy
  have HZ := Lib.hid khz
  have HO := Lib.hid khO
  have HL := Lib.hid khL
  clear khx khy khz khO khL
  have HB := Lib.hid hb
  have HN := Lib.hid hn
  clear hb hn
  have h0 := h
  clear h
  go_enter Tryz.func12, Tryz.ntmps12
  have hP0 := blk_new w (.cells #[.int .i64 la, .int .i64 dy, .int .i64 mi, .slice A n cap, .int .i64 e1, .int .i64 n1, .int .i64 fe, .int .i64 fn, .int .i64 fu, .int .i64 ho, .int .i64 ha, .int .i64 ne, .int .i64 lo, .int .i64 hi, .bool up, .int .i64 st] 33 (0, 0))
  go_wp2_with (refine wpList_load_row rfl 33 _ rfl _ rfl _ _ (0, 0) _ (by assumption) Tryz.underlying33 rfl (by kernel_rfl) ?_)
  refine (sSV10_is la dy mi e1 n1 fe fn fu ho ha ne lo hi st up A cap xs _ HN.out (h0.next (bel1 w _)) hl HB.out).mono ?_; rintro E w1 ⟨rfl, hw1⟩
  have hP1 := blk_next hP0 hw1
  have hB1 := bel_next (bel1 w _) hw1
  clear hP0
  have hA1 := h0.next hB1
  go_wp2_with (refine wpList_load_row rfl 33 _ rfl _ rfl _ _ (0, 0) _ (by assumption) Tryz.underlying33 rfl (by kernel_rfl) ?_)
  refine (sSR_is la dy mi e1 n1 fe fn fu ho ha ne lo hi st up A cap xs _ HN.out hA1 hl HBB.out HX.out HY.out HZ.out HO.out).mono ?_; rintro E w2 ⟨rfl, hw2⟩
  have hP2 := blk_next hP1 hw2
  have hB2 := bel_next hB1 hw2
  have hS3 := blk_new w2 (.cells #[.int .i64 x, .int .i64 y, .int .i64 z] 43 (0, 0))
  have hP3 := blk_old hP2 (.cells #[.int .i64 x, .int .i64 y, .int .i64 z] 43 (0, 0))
  have hB3 : Below w.heap.size w (w2.alloc (.cells #[.int .i64 x, .int .i64 y, .int .i64 z] 43 (0, 0))) := hB2.alloc (by have := hB2.size; omega) _
  clear hP2 hP1 hA1
  have hA2 := h0.next hB3
  obtain ⟨cS0, cS1, cS2, fS0, fS1, fS2, zS⟩ := blk3 hS3
  obtain ⟨cP0, cP1, cP2, cP3, cP4, cP5, cP6, cP7, cP8, cP9, cP10, cP11, cP12, cP13, cP14, cP15, fP0, fP1, fP2, fP3, fP4, fP5, fP6, fP7, fP8, fP9, fP10, fP11, fP12, fP13, fP14, fP15, zP⟩ := blk16 hP3
  go_wp2_with fail
  refine (sLi_is A cap xs e1 n1 x y z _ HN.out hA2 hl HL.out).mono ?_; rintro E w8 ⟨rfl, hw8⟩
  have hB8 := bel_next hB3 hw8
  have hS8 := blk_next hS3 hw8
  have hP8 := blk_next hP3 hw8
  clear hA2 cS0 fS0 cS1 fS1 cS2 fS2 zS cP0 fP0 cP1 fP1 cP2 fP2 cP3 fP3 cP4 fP4 cP5 fP5 cP6 fP6 cP7 fP7 cP8 fP8 cP9 fP9 cP10 fP10 cP11 fP11 cP12 fP12 cP13 fP13 cP14 fP14 cP15 fP15 zP hS3 hP3
  obtain ⟨cS0, cS1, cS2, fS0, fS1, fS2, zS⟩ := blk3 hS8
  clear hP8
  go_wp2
  exact bodyPost_ret (v := .int .i64 (5 * z)) (by simp [results, Tryz.results12, go_sem]) rfl ⟨rfl, hB8⟩
set_option maxRecDepth 100000 in
set_option maxHeartbeats 8000000 in
theorem sSLno (la dy mi e1 n1 fe fn fu ho ha ne lo hi st : Int) (up : Bool) (A : Option Addr) (cap : Nat) (xs : List VBlock) {x y z : Int} {n : Nat} (w : World) (hn : xs.length = n) (h : SRow encBlock w A xs) (hl : n ≤ 2000000) (hb : siB la dy mi e1 n1 fe fn fu ho ha ne lo hi st xs = true) (khx : (ryE la dy mi = x)) (khy : (ryN la dy mi = y)) (khz : (ryU la dy mi = z)) (khO : (ryO la dy mi = true)) (khL : (liB e1 n1 xs x y z = false)) :
    Calls Tryz.prog 12 #[.agg #[.int .i64 la, .int .i64 dy, .int .i64 mi, .slice A n cap, .int .i64 e1, .int .i64 n1, .int .i64 fe, .int .i64 fn, .int .i64 fu, .int .i64 ho, .int .i64 ha, .int .i64 ne, .int .i64 lo, .int .i64 hi, .bool up, .int .i64 st]] w fun E w' => E = .returned (.int .i64 z) ∧ Below w.heap.size w w' := by
  have hzb := ryU_bd la dy mi
  rw [khz] at hzb
  have HBB := Lib.hid hb
  have HX := Lib.hid khx
  have HY := Lib.hid khy
  have HZ := Lib.hid khz
  have HO := Lib.hid khO
  have HL := Lib.hid khL
  clear khx khy khz khO khL
  have HB := Lib.hid hb
  have HN := Lib.hid hn
  clear hb hn
  have h0 := h
  clear h
  go_enter Tryz.func12, Tryz.ntmps12
  have hP0 := blk_new w (.cells #[.int .i64 la, .int .i64 dy, .int .i64 mi, .slice A n cap, .int .i64 e1, .int .i64 n1, .int .i64 fe, .int .i64 fn, .int .i64 fu, .int .i64 ho, .int .i64 ha, .int .i64 ne, .int .i64 lo, .int .i64 hi, .bool up, .int .i64 st] 33 (0, 0))
  go_wp2_with (refine wpList_load_row rfl 33 _ rfl _ rfl _ _ (0, 0) _ (by assumption) Tryz.underlying33 rfl (by kernel_rfl) ?_)
  refine (sSV10_is la dy mi e1 n1 fe fn fu ho ha ne lo hi st up A cap xs _ HN.out (h0.next (bel1 w _)) hl HB.out).mono ?_; rintro E w1 ⟨rfl, hw1⟩
  have hP1 := blk_next hP0 hw1
  have hB1 := bel_next (bel1 w _) hw1
  clear hP0
  have hA1 := h0.next hB1
  go_wp2_with (refine wpList_load_row rfl 33 _ rfl _ rfl _ _ (0, 0) _ (by assumption) Tryz.underlying33 rfl (by kernel_rfl) ?_)
  refine (sSR_is la dy mi e1 n1 fe fn fu ho ha ne lo hi st up A cap xs _ HN.out hA1 hl HBB.out HX.out HY.out HZ.out HO.out).mono ?_; rintro E w2 ⟨rfl, hw2⟩
  have hP2 := blk_next hP1 hw2
  have hB2 := bel_next hB1 hw2
  have hS3 := blk_new w2 (.cells #[.int .i64 x, .int .i64 y, .int .i64 z] 43 (0, 0))
  have hP3 := blk_old hP2 (.cells #[.int .i64 x, .int .i64 y, .int .i64 z] 43 (0, 0))
  have hB3 : Below w.heap.size w (w2.alloc (.cells #[.int .i64 x, .int .i64 y, .int .i64 z] 43 (0, 0))) := hB2.alloc (by have := hB2.size; omega) _
  clear hP2 hP1 hA1
  have hA2 := h0.next hB3
  obtain ⟨cS0, cS1, cS2, fS0, fS1, fS2, zS⟩ := blk3 hS3
  obtain ⟨cP0, cP1, cP2, cP3, cP4, cP5, cP6, cP7, cP8, cP9, cP10, cP11, cP12, cP13, cP14, cP15, fP0, fP1, fP2, fP3, fP4, fP5, fP6, fP7, fP8, fP9, fP10, fP11, fP12, fP13, fP14, fP15, zP⟩ := blk16 hP3
  go_wp2_with fail
  refine (sLi_is A cap xs e1 n1 x y z _ HN.out hA2 hl HL.out).mono ?_; rintro E w8 ⟨rfl, hw8⟩
  have hB8 := bel_next hB3 hw8
  have hS8 := blk_next hS3 hw8
  have hP8 := blk_next hP3 hw8
  clear hA2 cS0 fS0 cS1 fS1 cS2 fS2 zS cP0 fP0 cP1 fP1 cP2 fP2 cP3 fP3 cP4 fP4 cP5 fP5 cP6 fP6 cP7 fP7 cP8 fP8 cP9 fP9 cP10 fP10 cP11 fP11 cP12 fP12 cP13 fP13 cP14 fP14 cP15 fP15 zP hS3 hP3
  obtain ⟨cS0, cS1, cS2, fS0, fS1, fS2, zS⟩ := blk3 hS8
  clear hP8
  go_wp2
  exact bodyPost_ret (v := .int .i64 z) (by simp [results, Tryz.results12, go_sem]) rfl ⟨rfl, hB8⟩
set_option maxRecDepth 100000 in
set_option maxHeartbeats 8000000 in
theorem sSGnight (la dy mi e1 n1 fe fn fu ho ha ne lo hi st : Int) (up : Bool) (A : Option Addr) (cap : Nat) (xs : List VBlock) {x y z : Int} {n : Nat} (w : World) (hn : xs.length = n) (h : SRow encBlock w A xs) (hl : n ≤ 2000000) (hb : siB la dy mi e1 n1 fe fn fu ho ha ne lo hi st xs = true) (khx : (ryE la dy mi = x)) (khy : (ryN la dy mi = y)) (khz : (ryU la dy mi = z)) (khO : (ryO la dy mi = false)) :
    Calls Tryz.prog 18 #[.agg #[.int .i64 la, .int .i64 dy, .int .i64 mi, .slice A n cap, .int .i64 e1, .int .i64 n1, .int .i64 fe, .int .i64 fn, .int .i64 fu, .int .i64 ho, .int .i64 ha, .int .i64 ne, .int .i64 lo, .int .i64 hi, .bool up, .int .i64 st]] w fun E w' => E = .returned (.int .i64 0) ∧ Below w.heap.size w w' := by
  have hzb := ryU_bd la dy mi
  rw [khz] at hzb
  have HBB := Lib.hid hb
  have HX := Lib.hid khx
  have HY := Lib.hid khy
  have HZ := Lib.hid khz
  have HO := Lib.hid khO
  clear khx khy khz khO
  have HB := Lib.hid hb
  have HN := Lib.hid hn
  clear hb hn
  have h0 := h
  clear h
  go_enter Tryz.func18, Tryz.ntmps18
  have hP0 := blk_new w (.cells #[.int .i64 la, .int .i64 dy, .int .i64 mi, .slice A n cap, .int .i64 e1, .int .i64 n1, .int .i64 fe, .int .i64 fn, .int .i64 fu, .int .i64 ho, .int .i64 ha, .int .i64 ne, .int .i64 lo, .int .i64 hi, .bool up, .int .i64 st] 33 (0, 0))
  go_wp2_with (refine wpList_load_row rfl 33 _ rfl _ rfl _ _ (0, 0) _ (by assumption) Tryz.underlying33 rfl (by kernel_rfl) ?_)
  refine (sSV10_is la dy mi e1 n1 fe fn fu ho ha ne lo hi st up A cap xs _ HN.out (h0.next (bel1 w _)) hl HB.out).mono ?_; rintro E w1 ⟨rfl, hw1⟩
  have hP1 := blk_next hP0 hw1
  have hB1 := bel_next (bel1 w _) hw1
  clear hP0
  have hA1 := h0.next hB1
  go_wp2_with (refine wpList_load_row rfl 33 _ rfl _ rfl _ _ (0, 0) _ (by assumption) Tryz.underlying33 rfl (by kernel_rfl) ?_)
  refine (sSR_is la dy mi e1 n1 fe fn fu ho ha ne lo hi st up A cap xs _ HN.out hA1 hl HBB.out HX.out HY.out HZ.out HO.out).mono ?_; rintro E w2 ⟨rfl, hw2⟩
  have hP2 := blk_next hP1 hw2
  have hB2 := bel_next hB1 hw2
  have hS3 := blk_new w2 (.cells #[.int .i64 x, .int .i64 y, .int .i64 z] 43 (0, 0))
  have hP3 := blk_old hP2 (.cells #[.int .i64 x, .int .i64 y, .int .i64 z] 43 (0, 0))
  have hB3 : Below w.heap.size w (w2.alloc (.cells #[.int .i64 x, .int .i64 y, .int .i64 z] 43 (0, 0))) := hB2.alloc (by have := hB2.size; omega) _
  clear hP2 hP1 hA1
  clear hP3
  have hB8 := hB3
  go_wp2
  exact bodyPost_ret (v := .int .i64 0) (by simp [results, Tryz.results18, go_sem]) rfl ⟨rfl, hB8⟩
set_option maxRecDepth 100000 in
set_option maxHeartbeats 8000000 in
theorem sSGno (la dy mi e1 n1 fe fn fu ho ha ne lo hi st : Int) (up : Bool) (A : Option Addr) (cap : Nat) (xs : List VBlock) {x y z : Int} {n : Nat} (w : World) (hn : xs.length = n) (h : SRow encBlock w A xs) (hl : n ≤ 2000000) (hb : siB la dy mi e1 n1 fe fn fu ho ha ne lo hi st xs = true) (khx : (ryE la dy mi = x)) (khy : (ryN la dy mi = y)) (khz : (ryU la dy mi = z)) (khO : (ryO la dy mi = true)) (khL : (liB e1 n1 xs x y z = false)) :
    Calls Tryz.prog 18 #[.agg #[.int .i64 la, .int .i64 dy, .int .i64 mi, .slice A n cap, .int .i64 e1, .int .i64 n1, .int .i64 fe, .int .i64 fn, .int .i64 fu, .int .i64 ho, .int .i64 ha, .int .i64 ne, .int .i64 lo, .int .i64 hi, .bool up, .int .i64 st]] w fun E w' => E = .returned (.int .i64 0) ∧ Below w.heap.size w w' := by
  have hzb := ryU_bd la dy mi
  rw [khz] at hzb
  have HBB := Lib.hid hb
  have HX := Lib.hid khx
  have HY := Lib.hid khy
  have HZ := Lib.hid khz
  have HO := Lib.hid khO
  have HL := Lib.hid khL
  clear khx khy khz khO khL
  have HB := Lib.hid hb
  have HN := Lib.hid hn
  clear hb hn
  have h0 := h
  clear h
  go_enter Tryz.func18, Tryz.ntmps18
  have hP0 := blk_new w (.cells #[.int .i64 la, .int .i64 dy, .int .i64 mi, .slice A n cap, .int .i64 e1, .int .i64 n1, .int .i64 fe, .int .i64 fn, .int .i64 fu, .int .i64 ho, .int .i64 ha, .int .i64 ne, .int .i64 lo, .int .i64 hi, .bool up, .int .i64 st] 33 (0, 0))
  go_wp2_with (refine wpList_load_row rfl 33 _ rfl _ rfl _ _ (0, 0) _ (by assumption) Tryz.underlying33 rfl (by kernel_rfl) ?_)
  refine (sSV10_is la dy mi e1 n1 fe fn fu ho ha ne lo hi st up A cap xs _ HN.out (h0.next (bel1 w _)) hl HB.out).mono ?_; rintro E w1 ⟨rfl, hw1⟩
  have hP1 := blk_next hP0 hw1
  have hB1 := bel_next (bel1 w _) hw1
  clear hP0
  have hA1 := h0.next hB1
  go_wp2_with (refine wpList_load_row rfl 33 _ rfl _ rfl _ _ (0, 0) _ (by assumption) Tryz.underlying33 rfl (by kernel_rfl) ?_)
  refine (sSR_is la dy mi e1 n1 fe fn fu ho ha ne lo hi st up A cap xs _ HN.out hA1 hl HBB.out HX.out HY.out HZ.out HO.out).mono ?_; rintro E w2 ⟨rfl, hw2⟩
  have hP2 := blk_next hP1 hw2
  have hB2 := bel_next hB1 hw2
  have hS3 := blk_new w2 (.cells #[.int .i64 x, .int .i64 y, .int .i64 z] 43 (0, 0))
  have hP3 := blk_old hP2 (.cells #[.int .i64 x, .int .i64 y, .int .i64 z] 43 (0, 0))
  have hB3 : Below w.heap.size w (w2.alloc (.cells #[.int .i64 x, .int .i64 y, .int .i64 z] 43 (0, 0))) := hB2.alloc (by have := hB2.size; omega) _
  clear hP2 hP1 hA1
  have hA2 := h0.next hB3
  obtain ⟨cS0, cS1, cS2, fS0, fS1, fS2, zS⟩ := blk3 hS3
  obtain ⟨cP0, cP1, cP2, cP3, cP4, cP5, cP6, cP7, cP8, cP9, cP10, cP11, cP12, cP13, cP14, cP15, fP0, fP1, fP2, fP3, fP4, fP5, fP6, fP7, fP8, fP9, fP10, fP11, fP12, fP13, fP14, fP15, zP⟩ := blk16 hP3
  go_wp2_with fail
  refine (sLi_is A cap xs e1 n1 x y z _ HN.out hA2 hl HL.out).mono ?_; rintro E w8 ⟨rfl, hw8⟩
  have hB8 := bel_next hB3 hw8
  have hS8 := blk_next hS3 hw8
  have hP8 := blk_next hP3 hw8
  clear hA2 cS0 fS0 cS1 fS1 cS2 fS2 zS cP0 fP0 cP1 fP1 cP2 fP2 cP3 fP3 cP4 fP4 cP5 fP5 cP6 fP6 cP7 fP7 cP8 fP8 cP9 fP9 cP10 fP10 cP11 fP11 cP12 fP12 cP13 fP13 cP14 fP14 cP15 fP15 zP hS3 hP3
  obtain ⟨cS0, cS1, cS2, fS0, fS1, fS2, zS⟩ := blk3 hS8
  clear hP8
  go_wp2
  exact bodyPost_ret (v := .int .i64 0) (by simp [results, Tryz.results18, go_sem]) rfl ⟨rfl, hB8⟩
set_option maxRecDepth 100000 in
set_option maxHeartbeats 8000000 in
theorem sSGyes (la dy mi e1 n1 fe fn fu ho ha ne lo hi st : Int) (up : Bool) (A : Option Addr) (cap : Nat) (xs : List VBlock) {x y z f r : Int} {n : Nat} (w : World) (hn : xs.length = n) (h : SRow encBlock w A xs) (hl : n ≤ 2000000) (hb : siB la dy mi e1 n1 fe fn fu ho ha ne lo hi st xs = true) (khx : (ryE la dy mi = x)) (khy : (ryN la dy mi = y)) (khz : (ryU la dy mi = z)) (khO : (ryO la dy mi = true)) (khL : (liB e1 n1 xs x y z = true)) (khF : (fgI fe fn fu x y z = f)) (khR : (goI f = r)) :
    Calls Tryz.prog 18 #[.agg #[.int .i64 la, .int .i64 dy, .int .i64 mi, .slice A n cap, .int .i64 e1, .int .i64 n1, .int .i64 fe, .int .i64 fn, .int .i64 fu, .int .i64 ho, .int .i64 ha, .int .i64 ne, .int .i64 lo, .int .i64 hi, .bool up, .int .i64 st]] w fun E w' => E = .returned (.int .i64 r) ∧ Below w.heap.size w w' := by
  have hzb := ryU_bd la dy mi
  rw [khz] at hzb
  have HBB := Lib.hid hb
  have HX := Lib.hid khx
  have HY := Lib.hid khy
  have HZ := Lib.hid khz
  have HO := Lib.hid khO
  have HL := Lib.hid khL
  have HF := Lib.hid khF
  have HR := Lib.hid khR
  clear khx khy khz khO khL khF khR
  have HB := Lib.hid hb
  have HN := Lib.hid hn
  clear hb hn
  have h0 := h
  clear h
  go_enter Tryz.func18, Tryz.ntmps18
  have hP0 := blk_new w (.cells #[.int .i64 la, .int .i64 dy, .int .i64 mi, .slice A n cap, .int .i64 e1, .int .i64 n1, .int .i64 fe, .int .i64 fn, .int .i64 fu, .int .i64 ho, .int .i64 ha, .int .i64 ne, .int .i64 lo, .int .i64 hi, .bool up, .int .i64 st] 33 (0, 0))
  go_wp2_with (refine wpList_load_row rfl 33 _ rfl _ rfl _ _ (0, 0) _ (by assumption) Tryz.underlying33 rfl (by kernel_rfl) ?_)
  refine (sSV10_is la dy mi e1 n1 fe fn fu ho ha ne lo hi st up A cap xs _ HN.out (h0.next (bel1 w _)) hl HB.out).mono ?_; rintro E w1 ⟨rfl, hw1⟩
  have hP1 := blk_next hP0 hw1
  have hB1 := bel_next (bel1 w _) hw1
  clear hP0
  have hA1 := h0.next hB1
  go_wp2_with (refine wpList_load_row rfl 33 _ rfl _ rfl _ _ (0, 0) _ (by assumption) Tryz.underlying33 rfl (by kernel_rfl) ?_)
  refine (sSR_is la dy mi e1 n1 fe fn fu ho ha ne lo hi st up A cap xs _ HN.out hA1 hl HBB.out HX.out HY.out HZ.out HO.out).mono ?_; rintro E w2 ⟨rfl, hw2⟩
  have hP2 := blk_next hP1 hw2
  have hB2 := bel_next hB1 hw2
  have hS3 := blk_new w2 (.cells #[.int .i64 x, .int .i64 y, .int .i64 z] 43 (0, 0))
  have hP3 := blk_old hP2 (.cells #[.int .i64 x, .int .i64 y, .int .i64 z] 43 (0, 0))
  have hB3 : Below w.heap.size w (w2.alloc (.cells #[.int .i64 x, .int .i64 y, .int .i64 z] 43 (0, 0))) := hB2.alloc (by have := hB2.size; omega) _
  clear hP2 hP1 hA1
  have hA2 := h0.next hB3
  obtain ⟨cS0, cS1, cS2, fS0, fS1, fS2, zS⟩ := blk3 hS3
  obtain ⟨cP0, cP1, cP2, cP3, cP4, cP5, cP6, cP7, cP8, cP9, cP10, cP11, cP12, cP13, cP14, cP15, fP0, fP1, fP2, fP3, fP4, fP5, fP6, fP7, fP8, fP9, fP10, fP11, fP12, fP13, fP14, fP15, zP⟩ := blk16 hP3
  go_wp2_with fail
  refine (sLi_is A cap xs e1 n1 x y z _ HN.out hA2 hl HL.out).mono ?_; rintro E w8 ⟨rfl, hw8⟩
  have hB8 := bel_next hB3 hw8
  have hS8 := blk_next hS3 hw8
  have hP8 := blk_next hP3 hw8
  clear hA2 cS0 fS0 cS1 fS1 cS2 fS2 zS cP0 fP0 cP1 fP1 cP2 fP2 cP3 fP3 cP4 fP4 cP5 fP5 cP6 fP6 cP7 fP7 cP8 fP8 cP9 fP9 cP10 fP10 cP11 fP11 cP12 fP12 cP13 fP13 cP14 fP14 cP15 fP15 zP hS3 hP3
  obtain ⟨cS0, cS1, cS2, fS0, fS1, fS2, zS⟩ := blk3 hS8
  obtain ⟨cP0, cP1, cP2, cP3, cP4, cP5, cP6, cP7, cP8, cP9, cP10, cP11, cP12, cP13, cP14, cP15, fP0, fP1, fP2, fP3, fP4, fP5, fP6, fP7, fP8, fP9, fP10, fP11, fP12, fP13, fP14, fP15, zP⟩ := blk16 hP8
  go_wp2_with fail
  refine (sFG_is _ HF.out).mono ?_; rintro E w9 ⟨rfl, hw9⟩
  have hB9 := bel_next hB8 hw9
  obtain ⟨q0, q1⟩ := go_td HF.out
  have hwq := go_wrap q0 q1
  by_cases hc : 20 < f.tdiv 20
  · have e9 : r = 20 := by rw [← HR.out, goI_le, if_pos hc]
    subst e9
    go_wp2
    exact bodyPost_ret (v := .int .i64 20) (by simp [results, Tryz.results18, go_sem]) rfl ⟨rfl, hB9⟩
  · have e9 : r = f.tdiv 20 := by rw [← HR.out, goI_le, if_neg hc]
    subst e9
    go_wp2
    exact bodyPost_ret (v := .int .i64 (f.tdiv 20)) (by simp [results, Tryz.results18, go_sem]) rfl ⟨rfl, hB9⟩
/-- The light, and the gain, of a site. -/
def lgI (la dy mi e1 n1 fe fn fu ho ha ne lo hi st : Int) (xs : List VBlock) : Int := if siB la dy mi e1 n1 fe fn fu ho ha ne lo hi st xs = true then (if liB e1 n1 xs (ryE la dy mi) (ryN la dy mi) (ryU la dy mi) = true then 5 * ryU la dy mi else ryU la dy mi) else -1
def gnI (la dy mi e1 n1 fe fn fu ho ha ne lo hi st : Int) (xs : List VBlock) : Int := if siB la dy mi e1 n1 fe fn fu ho ha ne lo hi st xs = true then (if liB e1 n1 xs (ryE la dy mi) (ryN la dy mi) (ryU la dy mi) = true then goI (fgI fe fn fu (ryE la dy mi) (ryN la dy mi) (ryU la dy mi)) else 0) else -1
theorem li_night {e1 n1 : Int} {xs : List VBlock} : liB e1 n1 xs 0 0 0 = false := by
  have : ryB 0 0 0 = false := by decide
  simp [liB, this]
theorem iSL_is (la dy mi e1 n1 fe fn fu ho ha ne lo hi st : Int) (up : Bool) (A : Option Addr) (cap : Nat) (xs : List VBlock) {r : Int} {n : Nat} (w : World) (hn : xs.length = n) (h : SRow encBlock w A xs) (hl : n ≤ 2000000) (hr : lgI la dy mi e1 n1 fe fn fu ho ha ne lo hi st xs = r) : Calls Tryz.prog 11 #[.agg #[.int .i64 la, .int .i64 dy, .int .i64 mi, .slice A n cap, .int .i64 e1, .int .i64 n1, .int .i64 fe, .int .i64 fn, .int .i64 fu, .int .i64 ho, .int .i64 ha, .int .i64 ne, .int .i64 lo, .int .i64 hi, .bool up, .int .i64 st]] w fun E w' => E = .returned (.int .i64 r) ∧ Below w.heap.size w w' := by
  subst hr
  unfold lgI
  cases hb : siB la dy mi e1 n1 fe fn fu ho ha ne lo hi st xs
  · exact iSLbad la dy mi e1 n1 fe fn fu ho ha ne lo hi st up A cap xs w hn h hl hb
  · cases hL : liB e1 n1 xs (ryE la dy mi) (ryN la dy mi) (ryU la dy mi)
    · exact iSLno la dy mi e1 n1 fe fn fu ho ha ne lo hi st up A cap xs w hn h hl hb rfl rfl rfl hL
    · exact iSLyes la dy mi e1 n1 fe fn fu ho ha ne lo hi st up A cap xs w hn h hl hb rfl rfl rfl hL
theorem sSL_is (la dy mi e1 n1 fe fn fu ho ha ne lo hi st : Int) (up : Bool) (A : Option Addr) (cap : Nat) (xs : List VBlock) {r : Int} {n : Nat} (w : World) (hn : xs.length = n) (h : SRow encBlock w A xs) (hl : n ≤ 2000000) (hr : lgI la dy mi e1 n1 fe fn fu ho ha ne lo hi st xs = r) : Calls Tryz.prog 12 #[.agg #[.int .i64 la, .int .i64 dy, .int .i64 mi, .slice A n cap, .int .i64 e1, .int .i64 n1, .int .i64 fe, .int .i64 fn, .int .i64 fu, .int .i64 ho, .int .i64 ha, .int .i64 ne, .int .i64 lo, .int .i64 hi, .bool up, .int .i64 st]] w fun E w' => E = .returned (.int .i64 r) ∧ Below w.heap.size w w' := by
  subst hr
  unfold lgI
  cases hb : siB la dy mi e1 n1 fe fn fu ho ha ne lo hi st xs
  · exact sSLbad la dy mi e1 n1 fe fn fu ho ha ne lo hi st up A cap xs w hn h hl hb
  · cases kO : ryO la dy mi
    · obtain ⟨a1, a2, a3⟩ := ry_no kO
      simp only [a1, a2, a3, li_night, if_true, if_false, Bool.false_eq_true]
      exact sSLnight la dy mi e1 n1 fe fn fu ho ha ne lo hi st up A cap xs w hn h hl hb a1 a2 a3 kO
    · cases hL : liB e1 n1 xs (ryE la dy mi) (ryN la dy mi) (ryU la dy mi)
      · exact sSLno la dy mi e1 n1 fe fn fu ho ha ne lo hi st up A cap xs w hn h hl hb rfl rfl rfl kO hL
      · exact sSLyes la dy mi e1 n1 fe fn fu ho ha ne lo hi st up A cap xs w hn h hl hb rfl rfl rfl kO hL
theorem iSG_is (la dy mi e1 n1 fe fn fu ho ha ne lo hi st : Int) (up : Bool) (A : Option Addr) (cap : Nat) (xs : List VBlock) {r : Int} {n : Nat} (w : World) (hn : xs.length = n) (h : SRow encBlock w A xs) (hl : n ≤ 2000000) (hr : gnI la dy mi e1 n1 fe fn fu ho ha ne lo hi st xs = r) : Calls Tryz.prog 17 #[.agg #[.int .i64 la, .int .i64 dy, .int .i64 mi, .slice A n cap, .int .i64 e1, .int .i64 n1, .int .i64 fe, .int .i64 fn, .int .i64 fu, .int .i64 ho, .int .i64 ha, .int .i64 ne, .int .i64 lo, .int .i64 hi, .bool up, .int .i64 st]] w fun E w' => E = .returned (.int .i64 r) ∧ Below w.heap.size w w' := by
  subst hr
  unfold gnI
  cases hb : siB la dy mi e1 n1 fe fn fu ho ha ne lo hi st xs
  · exact iSGbad la dy mi e1 n1 fe fn fu ho ha ne lo hi st up A cap xs w hn h hl hb
  · cases hL : liB e1 n1 xs (ryE la dy mi) (ryN la dy mi) (ryU la dy mi)
    · exact iSGno la dy mi e1 n1 fe fn fu ho ha ne lo hi st up A cap xs w hn h hl hb rfl rfl rfl hL
    · exact iSGyes la dy mi e1 n1 fe fn fu ho ha ne lo hi st up A cap xs w hn h hl hb rfl rfl rfl hL rfl rfl
theorem sSG_is (la dy mi e1 n1 fe fn fu ho ha ne lo hi st : Int) (up : Bool) (A : Option Addr) (cap : Nat) (xs : List VBlock) {r : Int} {n : Nat} (w : World) (hn : xs.length = n) (h : SRow encBlock w A xs) (hl : n ≤ 2000000) (hr : gnI la dy mi e1 n1 fe fn fu ho ha ne lo hi st xs = r) : Calls Tryz.prog 18 #[.agg #[.int .i64 la, .int .i64 dy, .int .i64 mi, .slice A n cap, .int .i64 e1, .int .i64 n1, .int .i64 fe, .int .i64 fn, .int .i64 fu, .int .i64 ho, .int .i64 ha, .int .i64 ne, .int .i64 lo, .int .i64 hi, .bool up, .int .i64 st]] w fun E w' => E = .returned (.int .i64 r) ∧ Below w.heap.size w w' := by
  subst hr
  unfold gnI
  cases hb : siB la dy mi e1 n1 fe fn fu ho ha ne lo hi st xs
  · exact sSGbad la dy mi e1 n1 fe fn fu ho ha ne lo hi st up A cap xs w hn h hl hb
  · cases kO : ryO la dy mi
    · obtain ⟨a1, a2, a3⟩ := ry_no kO
      simp only [a1, a2, a3, li_night, if_true, if_false, Bool.false_eq_true]
      exact sSGnight la dy mi e1 n1 fe fn fu ho ha ne lo hi st up A cap xs w hn h hl hb a1 a2 a3 kO
    · cases hL : liB e1 n1 xs (ryE la dy mi) (ryN la dy mi) (ryU la dy mi)
      · exact sSGno la dy mi e1 n1 fe fn fu ho ha ne lo hi st up A cap xs w hn h hl hb rfl rfl rfl kO hL
      · exact sSGyes la dy mi e1 n1 fe fn fu ho ha ne lo hi st up A cap xs w hn h hl hb rfl rfl rfl kO hL rfl rfl
end Go.Proofs.YtbklgpghonigjaaGreat
