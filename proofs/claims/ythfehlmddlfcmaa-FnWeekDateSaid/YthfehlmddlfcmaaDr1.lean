/- What the laws of chapter 1 draw out of a code. -/
import Derived.Test.YthfehlmddlfcmaaRd3
import Derived.Test.YthfehlmddlfcmaaCa
namespace Go.Proofs.Ythfehlmddlfcmaa
open Go.ChangeShapes Go.WideShapes Go.ChangeAt Go.RowKit
set_option linter.unusedSimpArgs false

def Drew1 (lo hi : Int) (w : World) (e : Ending) (w' : World) : Prop := ∃ k : Int, e = .returned (.int .i64 k) ∧ lo ≤ k ∧ k ≤ hi ∧ Below w.heap.size w w'
def DrewD (w : World) (e : Ending) (w' : World) : Prop := ∃ y m d : Int, e = .returned (.agg #[.int .i64 y, .int .i64 m, .int .i64 d]) ∧ -10 ≤ y ∧ y ≤ 5000 ∧ -10 ≤ m ∧ m ≤ 100 ∧ -10 ≤ d ∧ d ≤ 100 ∧ Below w.heap.size w w'
theorem code_below {w w' : World} {a : Option Addr} {len cap : Nat} (h : CodeOk w a len cap) (hw : Below w.heap.size w w') : CodeOk w' a len cap := by
  obtain ⟨h1, h2, h3⟩ := h
  refine ⟨h1, h2, ?_⟩
  rcases h3 with h3 | ⟨b, off, e, h3⟩
  · exact .inl h3
  · exact .inr ⟨b, off, e, rdb_below h3 hw⟩
theorem drDateValid_any (a : Option Addr) (len cap : Nat) (w : World) (h : CodeOk w a len cap) :
    Calls Try.prog 32 #[.slice a len cap] w (DrewD w) := by
  go_enter Try.func32, Try.ntmps32
  go_wp2_with fail
  refine (open_any _ _ _ _ (code_below h (bel1 _ _))).mono ?_; rintro e w1 ⟨B, rfl, hB, h1, hb1⟩
  obtain ⟨hH1, hB1⟩ := ownb hb1
  have hz1 := blk_lt hH1
  have hB' : w.heap.size < B := by simp at hB; omega
  clear hB
  go_wp2_with fail
  refine (date_any B 0 _ _ h1 (by omega) (by omega) (by omega)).mono ?_; rintro e w2 ⟨y, m, d, rfl, y0, y1, m0, m1, d0, d1, _, hx⟩
  have hH2 := blk_ext hH1 hx (by omega)
  have hB2 := hB1.trans (hx.below (N := w.heap.size) (by omega) (by omega))
  obtain ⟨c0, c1, c2, f0, f1, f2, hz⟩ := blk3 hH2
  go_wp2
  exact bodyPost_ret (v := .agg #[.int .i64 y, .int .i64 m, .int .i64 d]) (by simp [results, Try.results32, go_sem, c0, c1, c2]) rfl ⟨_, _, _, rfl, y0, y1, m0, m1, d0, d1, (((hB2.setCell (p := ⟨_, _, _⟩) (by simp) _).setCell (p := ⟨_, _, _⟩) (by simp) _).setCell (p := ⟨_, _, _⟩) (by simp) _)⟩
theorem drDayNumber_any (a : Option Addr) (len cap : Nat) (w : World) (h : CodeOk w a len cap) :
    Calls Try.prog 34 #[.slice a len cap] w (DrewD w) := by
  go_enter Try.func34, Try.ntmps34
  go_wp2_with fail
  refine (open_any _ _ _ _ (code_below h (bel1 _ _))).mono ?_; rintro e w1 ⟨B, rfl, hB, h1, hb1⟩
  obtain ⟨hH1, hB1⟩ := ownb hb1
  have hz1 := blk_lt hH1
  have hB' : w.heap.size < B := by simp at hB; omega
  clear hB
  go_wp2_with fail
  refine (date_any B 0 _ _ h1 (by omega) (by omega) (by omega)).mono ?_; rintro e w2 ⟨y, m, d, rfl, y0, y1, m0, m1, d0, d1, _, hx⟩
  have hH2 := blk_ext hH1 hx (by omega)
  have hB2 := hB1.trans (hx.below (N := w.heap.size) (by omega) (by omega))
  obtain ⟨c0, c1, c2, f0, f1, f2, hz⟩ := blk3 hH2
  go_wp2
  exact bodyPost_ret (v := .agg #[.int .i64 y, .int .i64 m, .int .i64 d]) (by simp [results, Try.results34, go_sem, c0, c1, c2]) rfl ⟨_, _, _, rfl, y0, y1, m0, m1, d0, d1, (((hB2.setCell (p := ⟨_, _, _⟩) (by simp) _).setCell (p := ⟨_, _, _⟩) (by simp) _).setCell (p := ⟨_, _, _⟩) (by simp) _)⟩
theorem drDayOfYear_any (a : Option Addr) (len cap : Nat) (w : World) (h : CodeOk w a len cap) :
    Calls Try.prog 42 #[.slice a len cap] w (DrewD w) := by
  go_enter Try.func42, Try.ntmps42
  go_wp2_with fail
  refine (open_any _ _ _ _ (code_below h (bel1 _ _))).mono ?_; rintro e w1 ⟨B, rfl, hB, h1, hb1⟩
  obtain ⟨hH1, hB1⟩ := ownb hb1
  have hz1 := blk_lt hH1
  have hB' : w.heap.size < B := by simp at hB; omega
  clear hB
  go_wp2_with fail
  refine (date_any B 0 _ _ h1 (by omega) (by omega) (by omega)).mono ?_; rintro e w2 ⟨y, m, d, rfl, y0, y1, m0, m1, d0, d1, _, hx⟩
  have hH2 := blk_ext hH1 hx (by omega)
  have hB2 := hB1.trans (hx.below (N := w.heap.size) (by omega) (by omega))
  obtain ⟨c0, c1, c2, f0, f1, f2, hz⟩ := blk3 hH2
  go_wp2
  exact bodyPost_ret (v := .agg #[.int .i64 y, .int .i64 m, .int .i64 d]) (by simp [results, Try.results42, go_sem, c0, c1, c2]) rfl ⟨_, _, _, rfl, y0, y1, m0, m1, d0, d1, (((hB2.setCell (p := ⟨_, _, _⟩) (by simp) _).setCell (p := ⟨_, _, _⟩) (by simp) _).setCell (p := ⟨_, _, _⟩) (by simp) _)⟩
theorem drWeekDay_any (a : Option Addr) (len cap : Nat) (w : World) (h : CodeOk w a len cap) :
    Calls Try.prog 45 #[.slice a len cap] w (DrewD w) := by
  go_enter Try.func45, Try.ntmps45
  go_wp2_with fail
  refine (open_any _ _ _ _ (code_below h (bel1 _ _))).mono ?_; rintro e w1 ⟨B, rfl, hB, h1, hb1⟩
  obtain ⟨hH1, hB1⟩ := ownb hb1
  have hz1 := blk_lt hH1
  have hB' : w.heap.size < B := by simp at hB; omega
  clear hB
  go_wp2_with fail
  refine (date_any B 0 _ _ h1 (by omega) (by omega) (by omega)).mono ?_; rintro e w2 ⟨y, m, d, rfl, y0, y1, m0, m1, d0, d1, _, hx⟩
  have hH2 := blk_ext hH1 hx (by omega)
  have hB2 := hB1.trans (hx.below (N := w.heap.size) (by omega) (by omega))
  obtain ⟨c0, c1, c2, f0, f1, f2, hz⟩ := blk3 hH2
  go_wp2
  exact bodyPost_ret (v := .agg #[.int .i64 y, .int .i64 m, .int .i64 d]) (by simp [results, Try.results45, go_sem, c0, c1, c2]) rfl ⟨_, _, _, rfl, y0, y1, m0, m1, d0, d1, (((hB2.setCell (p := ⟨_, _, _⟩) (by simp) _).setCell (p := ⟨_, _, _⟩) (by simp) _).setCell (p := ⟨_, _, _⟩) (by simp) _)⟩
theorem drWeekOf_any (a : Option Addr) (len cap : Nat) (w : World) (h : CodeOk w a len cap) :
    Calls Try.prog 48 #[.slice a len cap] w (DrewD w) := by
  go_enter Try.func48, Try.ntmps48
  go_wp2_with fail
  refine (open_any _ _ _ _ (code_below h (bel1 _ _))).mono ?_; rintro e w1 ⟨B, rfl, hB, h1, hb1⟩
  obtain ⟨hH1, hB1⟩ := ownb hb1
  have hz1 := blk_lt hH1
  have hB' : w.heap.size < B := by simp at hB; omega
  clear hB
  go_wp2_with fail
  refine (date_any B 0 _ _ h1 (by omega) (by omega) (by omega)).mono ?_; rintro e w2 ⟨y, m, d, rfl, y0, y1, m0, m1, d0, d1, _, hx⟩
  have hH2 := blk_ext hH1 hx (by omega)
  have hB2 := hB1.trans (hx.below (N := w.heap.size) (by omega) (by omega))
  obtain ⟨c0, c1, c2, f0, f1, f2, hz⟩ := blk3 hH2
  go_wp2
  exact bodyPost_ret (v := .agg #[.int .i64 y, .int .i64 m, .int .i64 d]) (by simp [results, Try.results48, go_sem, c0, c1, c2]) rfl ⟨_, _, _, rfl, y0, y1, m0, m1, d0, d1, (((hB2.setCell (p := ⟨_, _, _⟩) (by simp) _).setCell (p := ⟨_, _, _⟩) (by simp) _).setCell (p := ⟨_, _, _⟩) (by simp) _)⟩
theorem drOldValid_any (a : Option Addr) (len cap : Nat) (w : World) (h : CodeOk w a len cap) :
    Calls Try.prog 57 #[.slice a len cap] w (DrewD w) := by
  go_enter Try.func57, Try.ntmps57
  go_wp2_with fail
  refine (open_any _ _ _ _ (code_below h (bel1 _ _))).mono ?_; rintro e w1 ⟨B, rfl, hB, h1, hb1⟩
  obtain ⟨hH1, hB1⟩ := ownb hb1
  have hz1 := blk_lt hH1
  have hB' : w.heap.size < B := by simp at hB; omega
  clear hB
  go_wp2_with fail
  refine (date_any B 0 _ _ h1 (by omega) (by omega) (by omega)).mono ?_; rintro e w2 ⟨y, m, d, rfl, y0, y1, m0, m1, d0, d1, _, hx⟩
  have hH2 := blk_ext hH1 hx (by omega)
  have hB2 := hB1.trans (hx.below (N := w.heap.size) (by omega) (by omega))
  obtain ⟨c0, c1, c2, f0, f1, f2, hz⟩ := blk3 hH2
  go_wp2
  exact bodyPost_ret (v := .agg #[.int .i64 y, .int .i64 m, .int .i64 d]) (by simp [results, Try.results57, go_sem, c0, c1, c2]) rfl ⟨_, _, _, rfl, y0, y1, m0, m1, d0, d1, (((hB2.setCell (p := ⟨_, _, _⟩) (by simp) _).setCell (p := ⟨_, _, _⟩) (by simp) _).setCell (p := ⟨_, _, _⟩) (by simp) _)⟩
theorem drOldNumber_any (a : Option Addr) (len cap : Nat) (w : World) (h : CodeOk w a len cap) :
    Calls Try.prog 59 #[.slice a len cap] w (DrewD w) := by
  go_enter Try.func59, Try.ntmps59
  go_wp2_with fail
  refine (open_any _ _ _ _ (code_below h (bel1 _ _))).mono ?_; rintro e w1 ⟨B, rfl, hB, h1, hb1⟩
  obtain ⟨hH1, hB1⟩ := ownb hb1
  have hz1 := blk_lt hH1
  have hB' : w.heap.size < B := by simp at hB; omega
  clear hB
  go_wp2_with fail
  refine (date_any B 0 _ _ h1 (by omega) (by omega) (by omega)).mono ?_; rintro e w2 ⟨y, m, d, rfl, y0, y1, m0, m1, d0, d1, _, hx⟩
  have hH2 := blk_ext hH1 hx (by omega)
  have hB2 := hB1.trans (hx.below (N := w.heap.size) (by omega) (by omega))
  obtain ⟨c0, c1, c2, f0, f1, f2, hz⟩ := blk3 hH2
  go_wp2
  exact bodyPost_ret (v := .agg #[.int .i64 y, .int .i64 m, .int .i64 d]) (by simp [results, Try.results59, go_sem, c0, c1, c2]) rfl ⟨_, _, _, rfl, y0, y1, m0, m1, d0, d1, (((hB2.setCell (p := ⟨_, _, _⟩) (by simp) _).setCell (p := ⟨_, _, _⟩) (by simp) _).setCell (p := ⟨_, _, _⟩) (by simp) _)⟩
theorem drLeapYear_any (a : Option Addr) (len cap : Nat) (w : World) (h : CodeOk w a len cap) :
    Calls Try.prog 19 #[.slice a len cap] w (Drew1 (-4) 4100 w) := by
  go_enter Try.func19, Try.ntmps19
  go_wp2_with fail
  refine (open_any _ _ _ _ h).mono ?_; rintro e w1 ⟨B, rfl, hB, h1, hb1⟩
  go_wp2_with fail
  refine (year_any B 0 _ h1 (by omega)).mono ?_; rintro e w2 ⟨k, rfl, k0, k1, _, hx⟩
  go_wp2
  go_ret
  exact ⟨k, rfl, k0, k1, hb1.trans (hx.below hB hb1.size)⟩
theorem drYearLong_any (a : Option Addr) (len cap : Nat) (w : World) (h : CodeOk w a len cap) :
    Calls Try.prog 23 #[.slice a len cap] w (Drew1 (-4) 4100 w) := by
  go_enter Try.func23, Try.ntmps23
  go_wp2_with fail
  refine (open_any _ _ _ _ h).mono ?_; rintro e w1 ⟨B, rfl, hB, h1, hb1⟩
  go_wp2_with fail
  refine (year_any B 0 _ h1 (by omega)).mono ?_; rintro e w2 ⟨k, rfl, k0, k1, _, hx⟩
  go_wp2
  go_ret
  exact ⟨k, rfl, k0, k1, hb1.trans (hx.below hB hb1.size)⟩
theorem drWeeksOf_any (a : Option Addr) (len cap : Nat) (w : World) (h : CodeOk w a len cap) :
    Calls Try.prog 52 #[.slice a len cap] w (Drew1 (-4) 4100 w) := by
  go_enter Try.func52, Try.ntmps52
  go_wp2_with fail
  refine (open_any _ _ _ _ h).mono ?_; rintro e w1 ⟨B, rfl, hB, h1, hb1⟩
  go_wp2_with fail
  refine (year_any B 0 _ h1 (by omega)).mono ?_; rintro e w2 ⟨k, rfl, k0, k1, _, hx⟩
  go_wp2
  go_ret
  exact ⟨k, rfl, k0, k1, hb1.trans (hx.below hB hb1.size)⟩
theorem drEaster_any (a : Option Addr) (len cap : Nat) (w : World) (h : CodeOk w a len cap) :
    Calls Try.prog 65 #[.slice a len cap] w (Drew1 (-4) 4100 w) := by
  go_enter Try.func65, Try.ntmps65
  go_wp2_with fail
  refine (open_any _ _ _ _ h).mono ?_; rintro e w1 ⟨B, rfl, hB, h1, hb1⟩
  go_wp2_with fail
  refine (year_any B 0 _ h1 (by omega)).mono ?_; rintro e w2 ⟨k, rfl, k0, k1, _, hx⟩
  go_wp2
  go_ret
  exact ⟨k, rfl, k0, k1, hb1.trans (hx.below hB hb1.size)⟩
theorem drDateOf_any (a : Option Addr) (len cap : Nat) (w : World) (h : CodeOk w a len cap) :
    Calls Try.prog 37 #[.slice a len cap] w (Drew1 (-3) 1460970 w) := by
  go_enter Try.func37, Try.ntmps37
  go_wp2_with fail
  refine (open_any _ _ _ _ h).mono ?_; rintro e w1 ⟨B, rfl, hB, h1, hb1⟩
  go_wp2_with fail
  refine (day_any B 0 _ h1 (by omega)).mono ?_; rintro e w2 ⟨k, rfl, k0, k1, _, hx⟩
  go_wp2
  go_ret
  exact ⟨k, rfl, k0, k1, hb1.trans (hx.below hB hb1.size)⟩
theorem drOldOf_any (a : Option Addr) (len cap : Nat) (w : World) (h : CodeOk w a len cap) :
    Calls Try.prog 63 #[.slice a len cap] w (Drew1 (-3) 1460970 w) := by
  go_enter Try.func63, Try.ntmps63
  go_wp2_with fail
  refine (open_any _ _ _ _ h).mono ?_; rintro e w1 ⟨B, rfl, hB, h1, hb1⟩
  go_wp2_with fail
  refine (day_any B 0 _ h1 (by omega)).mono ?_; rintro e w2 ⟨k, rfl, k0, k1, _, hx⟩
  go_wp2
  go_ret
  exact ⟨k, rfl, k0, k1, hb1.trans (hx.below hB hb1.size)⟩
theorem alive_any (w : World) : Calls Try.prog 22 #[] w fun e w' => e = .returned (.bool true) ∧ w = w' := by
  have e1 : leapB 2000 = true := by decide
  have e2 : leapB 1900 = false := by decide
  go_enter Try.func22, Try.ntmps22
  go_wp2_with (go_at_call 20; refine (iLeap_any _ _).mono ?_; rintro e w' ⟨rfl, rfl⟩)
  go_ret
  exact ⟨rfl, rfl⟩
end Go.Proofs.Ythfehlmddlfcmaa
