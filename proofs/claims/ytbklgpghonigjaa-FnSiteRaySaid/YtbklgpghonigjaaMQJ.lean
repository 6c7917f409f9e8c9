/- QJ: texts joined. -/
import Derived.Laws.Rows
import Derived.Test.YtbklgpghonigjaaMEf
import Derived.Test.YtbklgpghonigjaaMVl
import Derived.Test.YtbklgpghonigjaaMQE
import Derived.Test.YtbklgpghonigjaaMEg
namespace Go.Proofs.Ytbklgpghonigjaa
open Go Go.ChangeShapes Go.WideShapes Go.ChangeAt Go.RowKit
set_option linter.unusedSimpArgs false
set_option linter.unusedVariables false
set_option linter.unnecessarySimpa false
/-- How high the sun is at a site. -/
def suI (la dy mi : Int) : Int := upI la (tiltI dy) (haI mi)
def reI (dy mi : Int) : Int := raI (eastI (tiltI dy) (haI mi)) (-20)
def rnI (la dy mi : Int) : Int := raI (northI la (tiltI dy) (haI mi)) (-20)
def ruI (la dy mi : Int) : Int := raI (suI la dy mi) 1
/-- The direction to the sun; nothing by night. -/
def ryE (la dy mi : Int) : Int := if 0 < suI la dy mi then reI dy mi else 0
def ryN (la dy mi : Int) : Int := if 0 < suI la dy mi then rnI la dy mi else 0
def ryU (la dy mi : Int) : Int := if 0 < suI la dy mi then ruI la dy mi else 0
def ryO (la dy mi : Int) : Bool := decide (0 < suI la dy mi)
theorem ry_no {la dy mi : Int} (h : ryO la dy mi = false) : ryE la dy mi = 0 ∧ ryN la dy mi = 0 ∧ ryU la dy mi = 0 := by
  simp only [ryO, decide_eq_false_iff_not] at h
  simp [ryE, ryN, ryU, h]
theorem sky_of {la dy mi e1 n1 fe fn fu ho ha ne lo hi st : Int} {xs : List VBlock} (h : siB la dy mi e1 n1 fe fn fu ho ha ne lo hi st xs = true) : skyB la (tiltI dy) = true := by
  have ht := tilt_bd dy
  unfold siB at h
  simp only [Bool.and_eq_true] at h
  have hv := h.1.1.1.1.1
  unfold tvB at hv
  simp only [Bool.and_eq_true] at hv
  have hl := hv.1.1.1
  simp only [inV, decide_eq_true_eq] at hl
  rw [skyB_iff]
  exact ⟨hl.1, hl.2, ht.1, ht.2⟩
end Go.Proofs.Ytbklgpghonigjaa
namespace Go.Proofs.Ytbklgpghonigjaa
open Go Go.ChangeShapes Go.WideShapes Go.ChangeAt Go.RowKit
set_option linter.unusedSimpArgs false
set_option linter.unusedVariables false
set_option linter.unnecessarySimpa false
theorem ra_one (u : Int) : (if raI u (-20) < 1 then 1 else raI u (-20)) = raI u 1 := by unfold raI; split <;> omega
theorem sSR_is (la dy mi e1 n1 fe fn fu ho ha ne lo hi st : Int) (up : Bool) (A : Option Addr) (cap : Nat) (xs : List VBlock) {x y z : Int} {b : Bool} {n : Nat} (w : World) (hn : xs.length = n) (h : SRow encBlock w A xs) (hl : n ≤ 2000000) (hb : siB la dy mi e1 n1 fe fn fu ho ha ne lo hi st xs = true) (hx : ryE la dy mi = x) (hy : ryN la dy mi = y) (hz : ryU la dy mi = z) (kO : ryO la dy mi = b) :
    Calls Try.prog 11 #[.agg #[.int .i64 la, .int .i64 dy, .int .i64 mi, .slice A n cap, .int .i64 e1, .int .i64 n1, .int .i64 fe, .int .i64 fn, .int .i64 fu, .int .i64 ho, .int .i64 ha, .int .i64 ne, .int .i64 lo, .int .i64 hi, .bool up, .int .i64 st]] w fun E w' => E = .returned (.tuple #[.agg #[.int .i64 x, .int .i64 y, .int .i64 z], .bool b]) ∧ Below w.heap.size w w' := by
  have he := east_bd (tiltI dy) (haI mi)
  have hno := north_bd la (tiltI dy) (haI mi)
  have hu := up_bd la (tiltI dy) (haI mi)
  have hs := sky_of hb
  subst kO hx hy hz
  cases h9 : ryO la dy mi
  · obtain ⟨a1, a2, a3⟩ := ry_no h9
    rw [a1, a2, a3]
    simp only [ryO, decide_eq_false_iff_not] at h9
    exact sSRno la dy mi e1 n1 fe fn fu ho ha ne lo hi st up A cap xs w hn h hl hb rfl rfl hs rfl rfl rfl (by unfold suI at h9; omega)
  · simp only [ryO, decide_eq_true_eq] at h9
    have a1 : ryE la dy mi = reI dy mi := by simp [ryE, h9]
    have a2 : ryN la dy mi = rnI la dy mi := by simp [ryN, h9]
    have a3 : ryU la dy mi = ruI la dy mi := by simp [ryU, h9]
    rw [a1, a2, a3]
    exact sSRyes la dy mi e1 n1 fe fn fu ho ha ne lo hi st up A cap xs w hn h hl hb rfl rfl hs rfl rfl rfl h9 ⟨by omega, by omega⟩ hno hu rfl rfl rfl (ra_one _)
theorem iSR_is (la dy mi e1 n1 fe fn fu ho ha ne lo hi st : Int) (up : Bool) (A : Option Addr) (cap : Nat) (xs : List VBlock) {x y z : Int} {b : Bool} {n : Nat} (w : World) (hn : xs.length = n) (h : SRow encBlock w A xs) (hl : n ≤ 2000000) (hb : siB la dy mi e1 n1 fe fn fu ho ha ne lo hi st xs = true) (hx : ryE la dy mi = x) (hy : ryN la dy mi = y) (hz : ryU la dy mi = z) (kO : ryO la dy mi = b) :
    Calls Try.prog 10 #[.agg #[.int .i64 la, .int .i64 dy, .int .i64 mi, .slice A n cap, .int .i64 e1, .int .i64 n1, .int .i64 fe, .int .i64 fn, .int .i64 fu, .int .i64 ho, .int .i64 ha, .int .i64 ne, .int .i64 lo, .int .i64 hi, .bool up, .int .i64 st]] w fun E w' => E = .returned (.tuple #[.agg #[.int .i64 x, .int .i64 y, .int .i64 z], .bool b]) ∧ Below w.heap.size w w' := by
  have he := east_bd (tiltI dy) (haI mi)
  have hno := north_bd la (tiltI dy) (haI mi)
  have hu := up_bd la (tiltI dy) (haI mi)
  have hs := sky_of hb
  subst kO hx hy hz
  cases h9 : ryO la dy mi
  · obtain ⟨a1, a2, a3⟩ := ry_no h9
    rw [a1, a2, a3]
    simp only [ryO, decide_eq_false_iff_not] at h9
    exact iSRno la dy mi e1 n1 fe fn fu ho ha ne lo hi st up A cap xs w hn h hl hb rfl rfl hs rfl rfl rfl (by unfold suI at h9; omega)
  · simp only [ryO, decide_eq_true_eq] at h9
    have a1 : ryE la dy mi = reI dy mi := by simp [ryE, h9]
    have a2 : ryN la dy mi = rnI la dy mi := by simp [ryN, h9]
    have a3 : ryU la dy mi = ruI la dy mi := by simp [ryU, h9]
    rw [a1, a2, a3]
    exact iSRyes la dy mi e1 n1 fe fn fu ho ha ne lo hi st up A cap xs w hn h hl hb rfl rfl hs rfl rfl rfl h9 ⟨by omega, by omega⟩ hno hu rfl rfl rfl
/-- The direction to the sun at any site. -/
def srE (la dy mi e1 n1 fe fn fu ho ha ne lo hi st : Int) (xs : List VBlock) : Int := if siB la dy mi e1 n1 fe fn fu ho ha ne lo hi st xs = true then ryE la dy mi else 0
def srN (la dy mi e1 n1 fe fn fu ho ha ne lo hi st : Int) (xs : List VBlock) : Int := if siB la dy mi e1 n1 fe fn fu ho ha ne lo hi st xs = true then ryN la dy mi else 0
def srU (la dy mi e1 n1 fe fn fu ho ha ne lo hi st : Int) (xs : List VBlock) : Int := if siB la dy mi e1 n1 fe fn fu ho ha ne lo hi st xs = true then ryU la dy mi else 0
def srO (la dy mi e1 n1 fe fn fu ho ha ne lo hi st : Int) (xs : List VBlock) : Bool := siB la dy mi e1 n1 fe fn fu ho ha ne lo hi st xs && ryO la dy mi
theorem sSRv_is (la dy mi e1 n1 fe fn fu ho ha ne lo hi st : Int) (up : Bool) (A : Option Addr) (cap : Nat) (xs : List VBlock) {x y z : Int} {b : Bool} {n : Nat} (w : World) (hn : xs.length = n) (h : SRow encBlock w A xs) (hl : n ≤ 2000000) (hx : srE la dy mi e1 n1 fe fn fu ho ha ne lo hi st xs = x) (hy : srN la dy mi e1 n1 fe fn fu ho ha ne lo hi st xs = y) (hz : srU la dy mi e1 n1 fe fn fu ho ha ne lo hi st xs = z) (kO : srO la dy mi e1 n1 fe fn fu ho ha ne lo hi st xs = b) :
    Calls Try.prog 11 #[.agg #[.int .i64 la, .int .i64 dy, .int .i64 mi, .slice A n cap, .int .i64 e1, .int .i64 n1, .int .i64 fe, .int .i64 fn, .int .i64 fu, .int .i64 ho, .int .i64 ha, .int .i64 ne, .int .i64 lo, .int .i64 hi, .bool up, .int .i64 st]] w fun E w' => E = .returned (.tuple #[.agg #[.int .i64 x, .int .i64 y, .int .i64 z], .bool b]) ∧ Below w.heap.size w w' := by
  unfold srE at hx
  unfold srN at hy
  unfold srU at hz
  unfold srO at kO
  cases hb : siB la dy mi e1 n1 fe fn fu ho ha ne lo hi st xs
  · rw [hb] at hx hy hz kO
    simp only [Bool.false_eq_true, if_false, Bool.false_and] at hx hy hz kO
    subst hx hy hz kO
    exact sSRbad la dy mi e1 n1 fe fn fu ho ha ne lo hi st up A cap xs w hn h hl hb
  · rw [hb] at hx hy hz kO
    simp only [if_true, Bool.true_and] at hx hy hz kO
    exact sSR_is la dy mi e1 n1 fe fn fu ho ha ne lo hi st up A cap xs w hn h hl hb hx hy hz kO
theorem iSRv_is (la dy mi e1 n1 fe fn fu ho ha ne lo hi st : Int) (up : Bool) (A : Option Addr) (cap : Nat) (xs : List VBlock) {x y z : Int} {b : Bool} {n : Nat} (w : World) (hn : xs.length = n) (h : SRow encBlock w A xs) (hl : n ≤ 2000000) (hx : srE la dy mi e1 n1 fe fn fu ho ha ne lo hi st xs = x) (hy : srN la dy mi e1 n1 fe fn fu ho ha ne lo hi st xs = y) (hz : srU la dy mi e1 n1 fe fn fu ho ha ne lo hi st xs = z) (kO : srO la dy mi e1 n1 fe fn fu ho ha ne lo hi st xs = b) :
    Calls Try.prog 10 #[.agg #[.int .i64 la, .int .i64 dy, .int .i64 mi, .slice A n cap, .int .i64 e1, .int .i64 n1, .int .i64 fe, .int .i64 fn, .int .i64 fu, .int .i64 ho, .int .i64 ha, .int .i64 ne, .int .i64 lo, .int .i64 hi, .bool up, .int .i64 st]] w fun E w' => E = .returned (.tuple #[.agg #[.int .i64 x, .int .i64 y, .int .i64 z], .bool b]) ∧ Below w.heap.size w w' := by
  unfold srE at hx
  unfold srN at hy
  unfold srU at hz
  unfold srO at kO
  cases hb : siB la dy mi e1 n1 fe fn fu ho ha ne lo hi st xs
  · rw [hb] at hx hy hz kO
    simp only [Bool.false_eq_true, if_false, Bool.false_and] at hx hy hz kO
    subst hx hy hz kO
    exact iSRbad la dy mi e1 n1 fe fn fu ho ha ne lo hi st up A cap xs w hn h hl hb
  · rw [hb] at hx hy hz kO
    simp only [if_true, Bool.true_and] at hx hy hz kO
    exact iSR_is la dy mi e1 n1 fe fn fu ho ha ne lo hi st up A cap xs w hn h hl hb hx hy hz kO
end Go.Proofs.Ytbklgpghonigjaa
