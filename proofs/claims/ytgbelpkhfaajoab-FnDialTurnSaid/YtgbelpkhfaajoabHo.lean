/- Hours of shadows: both sides find the same line. -/
import Derived.Test.YtgbelpkhfaajoabHl
namespace Go.Proofs.Ytgbelpkhfaajoab
open Go Go.ChangeShapes Go.WideShapes Go.ChangeAt Go.RowKit
set_option linter.unusedSimpArgs false
set_option linter.unusedVariables false

theorem lysOn_t (l : Int) (w : World) (hl : laB l = true) : Calls Try.prog 51 #[.iface 52 (.int .i64 l)] w fun e w' => ∃ (A : Option Addr) (cap : Nat), e = .returned (.slice A 24 cap) ∧ SOwn encWay w' w.heap.size 30 A cap (lnsTo l 24) ∧ Below w.heap.size w w' := by
  have h := lysOn_any l w
  have e0 : linesR l = lnsTo l 24 := by unfold linesR linesL; rw [hl]; rfl
  rw [e0] at h
  exact h.mono fun e w' ⟨A, cap, h1, h2, h3⟩ => ⟨A, cap, by rw [h1, lnsTo_len], h2, h3⟩
theorem lysOn_f (l : Int) (w : World) (hl : laB l = false) : Calls Try.prog 51 #[.iface 52 (.int .i64 l)] w fun e w' => ∃ (A : Option Addr) (cap : Nat), e = .returned (.slice A 0 cap) ∧ Below w.heap.size w w' := by
  have h := lysOn_any l w
  have e0 : linesR l = [] := by unfold linesR; rw [hl]; rfl
  rw [e0] at h
  exact h.mono fun e w' ⟨A, cap, h1, h2, h3⟩ => ⟨A, cap, h1, h3⟩
theorem crossW_in {a b c d : Int} (ha : -1000000 ≤ a ∧ a ≤ 1000000) (hb : -1000000 ≤ b ∧ b ≤ 1000000) (hc : -1000000 ≤ c ∧ c ≤ 1000000) (hd : -1000000 ≤ d ∧ d ≤ 1000000) : crossW a b c d = a * d - b * c := by
  have h1 := prod_bd (A := 1000000) (B := 1000000) ha hd (by omega) (by omega)
  have h2 := prod_bd (A := 1000000) (B := 1000000) hb hc (by omega) (by omega)
  unfold crossW
  rw [w64_in (x := a * d) (by omega) (by omega), w64_in (x := b * c) (by omega) (by omega), w64_in (by omega) (by omega)]
theorem dotW_in {a b c d : Int} (ha : -1000000 ≤ a ∧ a ≤ 1000000) (hb : -1000000 ≤ b ∧ b ≤ 1000000) (hc : -1000000 ≤ c ∧ c ≤ 1000000) (hd : -1000000 ≤ d ∧ d ≤ 1000000) : dotW a b c d = a * c + b * d := by
  have h1 := prod_bd (A := 1000000) (B := 1000000) ha hc (by omega) (by omega)
  have h2 := prod_bd (A := 1000000) (B := 1000000) hb hd (by omega) (by omega)
  unfold dotW
  rw [w64_in (x := a * c) (by omega) (by omega), w64_in (x := b * d) (by omega) (by omega), w64_in (by omega) (by omega)]
def onW (a b c d : Int) : Bool := decide (crossW a b c d = 0) && decide (0 < dotW a b c d)
theorem onW_in {a b c d : Int} (ha : -1000000 ≤ a ∧ a ≤ 1000000) (hb : -1000000 ≤ b ∧ b ≤ 1000000) (hc : -1000000 ≤ c ∧ c ≤ 1000000) (hd : -1000000 ≤ d ∧ d ≤ 1000000) : onW a b c d = onB a b c d := by
  unfold onW onB; rw [crossW_in ha hb hc hd, dotW_in ha hb hc hd, ← Bool.decide_and]
def cxB (a b c d : Int) : Bool := decide (crossW a b c d < 0)
theorem iCroH_is {a b c d r : Int} (w : World) (h : crossW a b c d = r) : Calls Try.prog 18 #[.agg #[.int .i64 a, .int .i64 b], .agg #[.int .i64 c, .int .i64 d]] w fun e w' => e = .returned (.int .i64 r) ∧ Below w.heap.size w w' := by subst h; exact iCro_any a b c d w
theorem iDotH_is {a b c d r : Int} (w : World) (h : dotW a b c d = r) : Calls Try.prog 26 #[.agg #[.int .i64 a, .int .i64 b], .agg #[.int .i64 c, .int .i64 d]] w fun e w' => e = .returned (.int .i64 r) ∧ Below w.heap.size w w' := by subst h; exact iDot_any a b c d w
theorem sCroH_is {a b c d r : Int} (w : World) (h : crossW a b c d = r) : Calls Try.prog 63 #[.agg #[.int .i64 a, .int .i64 b], .agg #[.int .i64 c, .int .i64 d]] w fun e w' => e = .returned (.int .i64 r) ∧ Below w.heap.size w w' := by subst h; exact sCro_any a b c d w
theorem sDotH_is {a b c d r : Int} (w : World) (h : dotW a b c d = r) : Calls Try.prog 70 #[.agg #[.int .i64 a, .int .i64 b], .agg #[.int .i64 c, .int .i64 d]] w fun e w' => e = .returned (.int .i64 r) ∧ Below w.heap.size w w' := by subst h; exact sDot_any a b c d w
theorem sModH_any (n : Int) (w : World) (h0 : 0 ≤ n) (h1 : n ≤ 1000) : Calls Try.prog 62 #[.int .i64 n, .int .i64 24] w fun e w' => e = .returned (.int .i64 (n % 24)) ∧ w = w' := by
  go_enter Try.func62, Try.ntmps62
  go_wp2
  go_ret
  exact ⟨ret_int (by omega), rfl⟩
set_option maxHeartbeats 1000000 in
theorem iFalls_any (a b c d : Int) (w : World) : Calls Try.prog 56 #[.agg #[.int .i64 c, .int .i64 d], .agg #[.int .i64 a, .int .i64 b]] w fun e w' => e = .returned (.bool (onW a b c d)) ∧ Below w.heap.size w w' := by
  obtain ⟨x, hx⟩ : ∃ z, crossW a b c d = z := ⟨_, rfl⟩
  obtain ⟨y, hy⟩ : ∃ z, dotW a b c d = z := ⟨_, rfl⟩
  have hr : onW a b c d = (decide (x = 0) && decide (0 < y)) := by unfold onW; rw [hx, hy]
  rw [hr]
  have HX := Lib.hid hx
  have HY := Lib.hid hy
  clear hx hy hr
  by_cases g : x = 0
  · subst g
    go_enter Try.func56, Try.ntmps56
    go_wp2_with fail
    refine (iCroH_is _ HX.out).mono ?_; rintro e w1 ⟨rfl, hw1⟩
    obtain ⟨hP1, hQ1, hB1⟩ := ownb2 hw1
    obtain ⟨cP1_0, cP1_1, fP1_0, fP1_1, zP1⟩ := blk2 hP1
    obtain ⟨cQ1_0, cQ1_1, fQ1_0, fQ1_1, zQ1⟩ := blk2 hQ1
    go_wp2_with fail
    refine (iDotH_is _ HY.out).mono ?_; rintro e w2 ⟨rfl, hw2⟩
    have hP2 := blk_next hP1 hw2
    have hQ2 := blk_next hQ1 hw2
    have hB2 := bel_next hB1 hw2
    go_wp2
    go_ret
    exact ⟨ret_bool (by simp), hB2⟩
  · have d1 : (x == 0) = false := by simpa using g
    go_enter Try.func56, Try.ntmps56
    go_wp2_with fail
    refine (iCroH_is _ HX.out).mono ?_; rintro e w1 ⟨rfl, hw1⟩
    obtain ⟨hP1, hQ1, hB1⟩ := ownb2 hw1
    obtain ⟨cP1_0, cP1_1, fP1_0, fP1_1, zP1⟩ := blk2 hP1
    obtain ⟨cQ1_0, cQ1_1, fQ1_0, fQ1_1, zQ1⟩ := blk2 hQ1
    go_wp2
    go_ret
    exact ⟨ret_bool (by simp [g]), hB1⟩
theorem iFalls_is {a b c d : Int} {r : Bool} (w : World) (h : onW a b c d = r) : Calls Try.prog 56 #[.agg #[.int .i64 c, .int .i64 d], .agg #[.int .i64 a, .int .i64 b]] w fun e w' => e = .returned (.bool r) ∧ Below w.heap.size w w' := by subst h; exact iFalls_any a b c d w
set_option maxHeartbeats 1000000 in
theorem sOn_any (a b c d : Int) (w : World) : Calls Try.prog 57 #[.agg #[.int .i64 a, .int .i64 b], .agg #[.int .i64 c, .int .i64 d]] w fun e w' => e = .returned (.bool (onW a b c d)) ∧ Below w.heap.size w w' := by
  obtain ⟨x, hx⟩ : ∃ z, crossW a b c d = z := ⟨_, rfl⟩
  obtain ⟨y, hy⟩ : ∃ z, dotW a b c d = z := ⟨_, rfl⟩
  have hr : onW a b c d = (decide (x = 0) && decide (0 < y)) := by unfold onW; rw [hx, hy]
  rw [hr]
  have HX := Lib.hid hx
  have HY := Lib.hid hy
  clear hx hy hr
  by_cases g : x = 0
  · subst g
    go_enter Try.func57, Try.ntmps57
    go_wp2_with fail
    refine (sCroH_is _ HX.out).mono ?_; rintro e w1 ⟨rfl, hw1⟩
    obtain ⟨hP1, hQ1, hB1⟩ := ownb2 hw1
    obtain ⟨cP1_0, cP1_1, fP1_0, fP1_1, zP1⟩ := blk2 hP1
    obtain ⟨cQ1_0, cQ1_1, fQ1_0, fQ1_1, zQ1⟩ := blk2 hQ1
    go_wp2_with fail
    refine (sDotH_is _ HY.out).mono ?_; rintro e w2 ⟨rfl, hw2⟩
    have hP2 := blk_next hP1 hw2
    have hQ2 := blk_next hQ1 hw2
    have hB2 := bel_next hB1 hw2
    go_wp2
    go_ret
    exact ⟨ret_bool (by simp), hB2⟩
  · have d1 : (x == 0) = false := by simpa using g
    go_enter Try.func57, Try.ntmps57
    go_wp2_with fail
    refine (sCroH_is _ HX.out).mono ?_; rintro e w1 ⟨rfl, hw1⟩
    obtain ⟨hP1, hQ1, hB1⟩ := ownb2 hw1
    obtain ⟨cP1_0, cP1_1, fP1_0, fP1_1, zP1⟩ := blk2 hP1
    obtain ⟨cQ1_0, cQ1_1, fQ1_0, fQ1_1, zQ1⟩ := blk2 hQ1
    go_wp2
    go_ret
    exact ⟨ret_bool (by simp [g]), hB1⟩
theorem sOn_is {a b c d : Int} {r : Bool} (w : World) (h : onW a b c d = r) : Calls Try.prog 57 #[.agg #[.int .i64 a, .int .i64 b], .agg #[.int .i64 c, .int .i64 d]] w fun e w' => e = .returned (.bool r) ∧ Below w.heap.size w w' := by subst h; exact sOn_any a b c d w
set_option maxHeartbeats 1000000 in
theorem ho1_is {a b c d e n : Int} {r : Bool} {B : Nat} (w : World) (hb : w.heap[B]? = some (.cells #[.int .i64 e, .int .i64 n] 30)) (h : onW a b e n = r) : Calls Try.prog 55 #[.agg #[.int .i64 a, .int .i64 b], .agg #[.int .i64 c, .int .i64 d], .pointer (some ⟨B, 0, none⟩)] w fun e' w' => e' = .returned (.bool r) ∧ Below w.heap.size w w' := by
  have H := Lib.hid h
  clear h
  obtain ⟨c0, c1, _, _, z⟩ := blk2 hb
  go_enter Try.func55, Try.ntmps55
  go_wp2_with fail
  refine (iFalls_is _ H.out).mono ?_; rintro e' w1 ⟨rfl, hw1⟩
  obtain ⟨hP1, hQ1, hB1⟩ := ownb2 hw1
  go_wp2
  go_ret
  exact ⟨rfl, hB1⟩
set_option maxHeartbeats 1000000 in
theorem hb1_t {a b c d e n : Int} {B : Nat} (w : World) (hb : w.heap[B]? = some (.cells #[.int .i64 e, .int .i64 n] 30)) (h : onW a b e n = true) : Calls Try.prog 59 #[.agg #[.int .i64 a, .int .i64 b], .agg #[.int .i64 c, .int .i64 d], .pointer (some ⟨B, 0, none⟩)] w fun e' w' => e' = .returned (.bool true) ∧ Below w.heap.size w w' := by
  have H := Lib.hid h
  clear h
  obtain ⟨c0, c1, _, _, z⟩ := blk2 hb
  have HB0 := Lib.hid hb
  clear hb
  go_enter Try.func59, Try.ntmps59
  go_wp2_with fail
  refine (iFalls_is _ H.out).mono ?_; rintro e' w1 ⟨rfl, hw1⟩
  obtain ⟨hP1, hQ1, hB1⟩ := ownb2 hw1
  go_wp2
  go_ret
  exact ⟨rfl, hB1⟩
set_option maxHeartbeats 1000000 in
theorem hb1_f {a b c d e n x y : Int} {B : Nat} (w : World) (hb : w.heap[B]? = some (.cells #[.int .i64 e, .int .i64 n] 30)) (h : onW a b e n = false) (hx : crossW a b e n = x) (hy : crossW e n c d = y) : Calls Try.prog 59 #[.agg #[.int .i64 a, .int .i64 b], .agg #[.int .i64 c, .int .i64 d], .pointer (some ⟨B, 0, none⟩)] w fun e' w' => e' = .returned (.bool (decide (x < 0) && decide (y < 0))) ∧ Below w.heap.size w w' := by
  have H := Lib.hid h
  clear h
  obtain ⟨c0, c1, _, _, z⟩ := blk2 hb
  have HB0 := Lib.hid hb
  clear hb
  have HX := Lib.hid hx
  have HY := Lib.hid hy
  clear hx hy
  by_cases g : x < 0
  · go_enter Try.func59, Try.ntmps59
    go_wp2_with fail
    refine (iFalls_is _ H.out).mono ?_; rintro e' w1 ⟨rfl, hw1⟩
    obtain ⟨hP1, hQ1, hB1⟩ := ownb2 hw1
    obtain ⟨cP1_0, cP1_1, fP1_0, fP1_1, zP1⟩ := blk2 hP1
    obtain ⟨cQ1_0, cQ1_1, fQ1_0, fQ1_1, zQ1⟩ := blk2 hQ1
    have hC1 := blk_next HB0.out hB1
    obtain ⟨cC1_0, cC1_1, _, _, zC1⟩ := blk2 hC1
    go_wp2_with fail
    refine (iCroH_is _ HX.out).mono ?_; rintro e' w2 ⟨rfl, hw2⟩
    have hP2 := blk_next hP1 hw2
    have hQ2 := blk_next hQ1 hw2
    have hB2 := bel_next hB1 hw2
    obtain ⟨cP2_0, cP2_1, fP2_0, fP2_1, zP2⟩ := blk2 hP2
    obtain ⟨cQ2_0, cQ2_1, fQ2_0, fQ2_1, zQ2⟩ := blk2 hQ2
    have hC2 := blk_next HB0.out hB2
    obtain ⟨cC2_0, cC2_1, _, _, zC2⟩ := blk2 hC2
    go_wp2_with fail
    refine (iCroH_is _ HY.out).mono ?_; rintro e' w3 ⟨rfl, hw3⟩
    have hP3 := blk_next hP2 hw3
    have hQ3 := blk_next hQ2 hw3
    have hB3 := bel_next hB2 hw3
    go_wp2
    go_ret
    exact ⟨ret_bool (by simp [g]), hB3⟩
  · go_enter Try.func59, Try.ntmps59
    go_wp2_with fail
    refine (iFalls_is _ H.out).mono ?_; rintro e' w1 ⟨rfl, hw1⟩
    obtain ⟨hP1, hQ1, hB1⟩ := ownb2 hw1
    obtain ⟨cP1_0, cP1_1, fP1_0, fP1_1, zP1⟩ := blk2 hP1
    obtain ⟨cQ1_0, cQ1_1, fQ1_0, fQ1_1, zQ1⟩ := blk2 hQ1
    have hC1 := blk_next HB0.out hB1
    obtain ⟨cC1_0, cC1_1, _, _, zC1⟩ := blk2 hC1
    go_wp2_with fail
    refine (iCroH_is _ HX.out).mono ?_; rintro e' w2 ⟨rfl, hw2⟩
    have hP2 := blk_next hP1 hw2
    have hQ2 := blk_next hQ1 hw2
    have hB2 := bel_next hB1 hw2
    go_wp2
    go_ret
    exact ⟨ret_bool (by rw [decide_eq_false (by omega)]; rfl), hB2⟩
def hbW (a b c d e n : Int) : Bool := onW a b e n || (cxB a b e n && cxB e n c d)
theorem hb1_is {a b c d e n : Int} {r : Bool} {B : Nat} (w : World) (hb : w.heap[B]? = some (.cells #[.int .i64 e, .int .i64 n] 30)) (h : hbW a b c d e n = r) : Calls Try.prog 59 #[.agg #[.int .i64 a, .int .i64 b], .agg #[.int .i64 c, .int .i64 d], .pointer (some ⟨B, 0, none⟩)] w fun e' w' => e' = .returned (.bool r) ∧ Below w.heap.size w w' := by
  subst h
  cases h : onW a b e n
  · have := hb1_f (c := c) (d := d) w hb h rfl rfl
    unfold hbW cxB
    rw [h, Bool.false_or]; exact this
  · have := hb1_t (c := c) (d := d) w hb h
    unfold hbW
    rw [h, Bool.true_or]; exact this
theorem hoP_W {l e n h : Int} (hl : laB l = true) (he : -1000000 ≤ e ∧ e ≤ 1000000) (hn : -1000000 ≤ n ∧ n ≤ 1000000) : hoP l e n h = onW (lnE l h) (lnN h) e n := by
  obtain ⟨l0, l1⟩ := laB_iff.1 hl
  obtain ⟨b0, b1, b2, b3⟩ := ln_bd l h
  rw [hoP_in l0 l1 he.1 he.2 hn.1 hn.2, onW_in ⟨b0, b1⟩ ⟨b2, b3⟩ he hn]
theorem hbP_W {l e n h : Int} (hl : laB l = true) (hg : goB e n = true) : hbP l e n h = hbW (lnE l h) (lnN h) (lnE l (nxH h)) (lnN (nxH h)) e n := by
  obtain ⟨l0, l1⟩ := laB_iff.1 hl
  obtain ⟨b0, b1, b2, b3⟩ := ln_bd l h
  obtain ⟨d0, d1, d2, d3⟩ := ln_bd l (nxH h)
  have g := (goB_iff.1 hg).1
  unfold hbW
  rw [hbP_in l0 l1 hg, onW_in ⟨b0, b1⟩ ⟨b2, b3⟩ (by omega) (by omega)]
  unfold betB cxB
  rw [crossW_in ⟨b0, b1⟩ ⟨b2, b3⟩ (by omega) (by omega), crossW_in (a := e) (b := n) (by omega) (by omega) ⟨d0, d1⟩ ⟨d2, d3⟩, ← Bool.decide_and]
theorem nx_lo {k : Nat} (h : k < 23) : nxH ((k : Int) - 12) = ((k + 1 : Nat) : Int) - 12 := by unfold nxH; omega
theorem nx_hi {k : Nat} (h : k = 23) : nxH ((k : Int) - 12) = -12 := by unfold nxH; omega
set_option maxHeartbeats 4000000 in
theorem wo_t (l e n : Int) (B : Nat) (w : World) (hb : w.heap[B]? = some (.cells #[.int .i64 e, .int .i64 n] 30)) (hl : laB l = true) (he : -1000000 ≤ e ∧ e ≤ 1000000) (hn : -1000000 ≤ n ∧ n ≤ 1000000) : Calls Try.prog 54 #[.iface 52 (.int .i64 l), .func (.func 55) #[] #[.pointer (some ⟨B, 0, none⟩)]] w fun e' w' => ∃ r : Int, e' = .returned (.int .i64 r) ∧ HourIs (hoP l e n) r ∧ Below w.heap.size w w' := by
  have HL := Lib.hid hl
  have HB0 := Lib.hid hb
  have hbl := blk_lt hb
  clear hb hl
  go_enter Try.func54, Try.ntmps54
  go_wp2_with fail
  refine (lysOn_t _ _ HL.out).mono ?_; rintro e' w1 ⟨A, cap, rfl, hO, hB⟩
  obtain ⟨g, rfl, hg0, hg1⟩ := hO.at_ (i := 0) (by rw [lnsTo_len]; omega)
  have hC := blk_next HB0.out hB
  go_wp2_with fail
  go_loopw [12] (fun v wr => ∃ k : Nat, v = .int .i64 k ∧ k ≤ 24 ∧ Hid (∀ j : Int, -12 ≤ j → j < (k : Int) - 12 → hoP l e n j = false) ∧ SOwn encWay wr w.heap.size 30 (some ⟨g, 0, none⟩) cap (lnsTo l 24) ∧ wr.heap[B]? = some (.cells #[.int .i64 e, .int .i64 n] 30) ∧ Below w.heap.size w wr) (fun v _ => (24 - intOf v).toNat)
  case atStart => exact ⟨0, rfl, by omega, Lib.hid (fun j j0 j1 => by omega), hO, hC, hB⟩
  case round =>
    obtain ⟨k, rfl, k1, HN, hOr, hCr, hBr⟩ := hrel
    by_cases hlt : k < 24
    · obtain ⟨c0, c1⟩ := ownWay hOr (i := k) (by rw [lnsTo_len]; exact hlt)
      simp only [lnsTo_at] at c0 c1
      by_cases h23 : k < 23
      · obtain ⟨q, hq⟩ : ∃ q, onW (lnE l ((k : Int) - 12)) (lnN ((k : Int) - 12)) e n = q := ⟨_, rfl⟩
        have HPK : Hid (hoP l e n ((k : Int) - 12) = q) := by show _ = _; rw [hoP_W HL.out he hn]; exact hq
        have HP := Lib.hid hq
        clear hq
        cases q
        · go_wp2_with fail
          have i1 : IntKind.i64.wrap ((k : Int) + 1) = (k : Int) + 1 := IntWalk.i64_in _ (by omega)
          have i4 : 0 ≤ (k : Int) + 1 := by omega
          have i2 : ((k : Int) + 1).tmod 24 = (k : Int) + 1 := by rw [Int.tmod_eq_emod_of_nonneg (by omega)]; omega
          have i6 : ((k : Int) + 1) % 24 = (k : Int) + 1 := by omega
          have i3 : ((k : Int) + 1).toNat = k + 1 := by omega
          have i5 : (k : Int) + 1 < 24 := by omega
          refine wp_region_held_drew (S := (fun w' => w'.heap[wr.heap.size]? = some (.cells #[.int .i64 (lnE l ((k : Int) - 12)), .int .i64 (lnN ((k : Int) - 12))] 30) ∧ w'.heap[B]? = some (.cells #[.int .i64 e, .int .i64 n] 30) ∧ SOwn encWay w' w.heap.size 30 (some ⟨g, 0, none⟩) cap (lnsTo l 24) ∧ Below w.heap.size w w')) (by kernel_rfl) ⟨blk_new wr _, blk_old hCr _, hOr.alloc _, (hBr.alloc hBr.size _).drew⟩ (fun hHeld => ?_)
          obtain ⟨hL_0, hC_0, hO_0, hB_0⟩ := id hHeld
          refine wpAnyH_take (i := 0) (oi := _) (v := ?_) rfl (by kernel_rfl) (by kernel_rfl) (by kernel_rfl) (fun _ _ _ h => h) (Or.inl ⟨by rfl, ?_⟩) (by assumption) ?_
          (rotate_left); (focus (intro wv hSw; (obtain ⟨qL, qC, qO, qB⟩ := hSw);  go_simp; (try with_reducible rfl)))
          try simp only [Act.put, List.getElem_toArray, List.getElem_cons_succ, List.getElem_cons_zero, List.setIfInBounds_toArray, List.set_cons_zero, List.set_cons_succ]
          refine wpAnyH_take (i := 1) (oi := _) (v := ?_) rfl (by kernel_rfl) (by kernel_rfl) (by kernel_rfl) (fun _ _ _ h => h) (Or.inl ⟨by rfl, ?_⟩) (by assumption) ?_
          (rotate_left); (focus (intro wv hSw; (obtain ⟨qL, qC, qO, qB⟩ := hSw); obtain ⟨u0, u1, _, _, _⟩ := blk2 qL; go_simp; (try with_reducible rfl)))
          try simp only [Act.put, List.getElem_toArray, List.getElem_cons_succ, List.getElem_cons_zero, List.setIfInBounds_toArray, List.set_cons_zero, List.set_cons_succ]
          refine wpAnyH_take (i := 2) (oi := _) (v := ?_) rfl (by kernel_rfl) (by kernel_rfl) (by kernel_rfl) (fun _ _ _ h => h) (Or.inl ⟨by rfl, ?_⟩) (by assumption) ?_
          (rotate_left); (focus (intro wv hSw; (obtain ⟨qL, qC, qO, qB⟩ := hSw);  go_simp; (try with_reducible rfl)))
          try simp only [Act.put, List.getElem_toArray, List.getElem_cons_succ, List.getElem_cons_zero, List.setIfInBounds_toArray, List.set_cons_zero, List.set_cons_succ]
          refine wpAnyH_take (i := 3) (oi := _) (v := ?_) rfl (by kernel_rfl) (by kernel_rfl) (by kernel_rfl) (fun _ _ _ h => h) (Or.inl ⟨by rfl, ?_⟩) (by assumption) ?_
          (rotate_left); (focus (intro wv hSw; (obtain ⟨qL, qC, qO, qB⟩ := hSw);  go_simp; (try with_reducible rfl)))
          try simp only [Act.put, List.getElem_toArray, List.getElem_cons_succ, List.getElem_cons_zero, List.setIfInBounds_toArray, List.set_cons_zero, List.set_cons_succ]
          refine wpAnyH_take (i := 4) (oi := _) (v := ?_) rfl (by kernel_rfl) (by kernel_rfl) (by kernel_rfl) (fun _ _ _ h => h) (Or.inl ⟨by rfl, ?_⟩) (by assumption) ?_
          (rotate_left); (focus (intro wv hSw; (obtain ⟨qL, qC, qO, qB⟩ := hSw);  go_simp; (try with_reducible rfl)))
          try simp only [Act.put, List.getElem_toArray, List.getElem_cons_succ, List.getElem_cons_zero, List.setIfInBounds_toArray, List.set_cons_zero, List.set_cons_succ]
          refine wpAnyH_take (i := 5) (oi := _) (v := ?_) rfl (by kernel_rfl) (by kernel_rfl) (by kernel_rfl) (fun _ _ _ h => h) (Or.inl ⟨by rfl, ?_⟩) (by assumption) ?_
          (rotate_left); (focus (intro wv hSw; (obtain ⟨qL, qC, qO, qB⟩ := hSw);  go_simp; (try with_reducible rfl)))
          try simp only [Act.put, List.getElem_toArray, List.getElem_cons_succ, List.getElem_cons_zero, List.setIfInBounds_toArray, List.set_cons_zero, List.set_cons_succ]
          refine wpAnyH_take (i := 6) (oi := _) (v := ?_) rfl (by kernel_rfl) (by kernel_rfl) (by kernel_rfl) (fun _ _ _ h => h) (Or.inl ⟨by rfl, ?_⟩) (by assumption) ?_
          (rotate_left); (focus (intro wv hSw; (obtain ⟨qL, qC, qO, qB⟩ := hSw);  go_simp; (try with_reducible rfl)))
          try simp only [Act.put, List.getElem_toArray, List.getElem_cons_succ, List.getElem_cons_zero, List.setIfInBounds_toArray, List.set_cons_zero, List.set_cons_succ]
          refine wpAnyH_take (i := 7) (oi := _) (v := ?_) rfl (by kernel_rfl) (by kernel_rfl) (by kernel_rfl) (fun _ _ _ h => h) (Or.inl ⟨by rfl, ?_⟩) (by assumption) ?_
          (rotate_left); (focus (intro wv hSw; (obtain ⟨qL, qC, qO, qB⟩ := hSw);  go_simp; (try with_reducible rfl)))
          try simp only [Act.put, List.getElem_toArray, List.getElem_cons_succ, List.getElem_cons_zero, List.setIfInBounds_toArray, List.set_cons_zero, List.set_cons_succ]
          refine wpAnyH_take (i := 8) (oi := _) (v := ?_) rfl (by kernel_rfl) (by kernel_rfl) (by kernel_rfl) (fun _ _ _ h => h) (Or.inl ⟨by rfl, ?_⟩) (by assumption) ?_
          (rotate_left); (focus (intro wv hSw; (obtain ⟨qL, qC, qO, qB⟩ := hSw);  go_simp; (try with_reducible rfl)))
          try simp only [Act.put, List.getElem_toArray, List.getElem_cons_succ, List.getElem_cons_zero, List.setIfInBounds_toArray, List.set_cons_zero, List.set_cons_succ]
          refine wpAnyH_take (i := 9) (oi := _) (v := ?_) rfl (by kernel_rfl) (by kernel_rfl) (by kernel_rfl) (fun _ _ _ h => h) (Or.inl ⟨by rfl, ?_⟩) (by assumption) ?_
          (rotate_left); (focus (intro wv hSw; (obtain ⟨qL, qC, qO, qB⟩ := hSw); obtain ⟨u0, u1⟩ := ownWay qO (i := k + 1) (by rw [lnsTo_len]; omega); simp only [lnsTo_at] at u0 u1; go_simp; (try with_reducible rfl)))
          try simp only [Act.put, List.getElem_toArray, List.getElem_cons_succ, List.getElem_cons_zero, List.setIfInBounds_toArray, List.set_cons_zero, List.set_cons_succ]
          refine wpAnyH_ready (rs := [10]) (by kernel_rfl) (by simp) ?_
          refine AllReadyH.cons (o := _) rfl (fun K hK => ?_) AllReadyH.nil
          go_simp
          (go_at_call 55; refine (ho1_is _ hC_0 HP.out).mono ?_; rintro e x0c ⟨rfl, hw_0c⟩)
          refine hK.out _ _ ⟨blk_next hL_0 hw_0c, blk_next hC_0 hw_0c, hO_0.next hw_0c, bel_next hB_0 hw_0c⟩ (fun hHeld => ?_)
          clear hK K
          try simp only [Act.put, List.getElem_toArray, List.getElem_cons_succ, List.getElem_cons_zero, List.setIfInBounds_toArray, List.set_cons_zero, List.set_cons_succ]
          obtain ⟨hL_0c, hC_0c, hO_0c, hB_0c⟩ := id hHeld
          refine wpAnyH_done (by kernel_rfl) ?_ _
          clear i1 i2 i4 i6 i3 i5
          go_wp2_with fail
          go_roundw
          case rel => exact ⟨k + 1, by go_num, by omega, Lib.hid (fun j j0 j1 => by by_cases g : j < (k : Int) - 12; exact HN.out j j0 g; rw [show j = (k : Int) - 12 by omega]; exact HPK.out), hO_0c, hC_0c, hB_0c⟩
          case measure => simp [intOf]; omega
        · go_wp2_with fail
          have i1 : IntKind.i64.wrap ((k : Int) + 1) = (k : Int) + 1 := IntWalk.i64_in _ (by omega)
          have i4 : 0 ≤ (k : Int) + 1 := by omega
          have i2 : ((k : Int) + 1).tmod 24 = (k : Int) + 1 := by rw [Int.tmod_eq_emod_of_nonneg (by omega)]; omega
          have i6 : ((k : Int) + 1) % 24 = (k : Int) + 1 := by omega
          have i3 : ((k : Int) + 1).toNat = k + 1 := by omega
          have i5 : (k : Int) + 1 < 24 := by omega
          refine wp_region_held_drew (S := (fun w' => w'.heap[wr.heap.size]? = some (.cells #[.int .i64 (lnE l ((k : Int) - 12)), .int .i64 (lnN ((k : Int) - 12))] 30) ∧ w'.heap[B]? = some (.cells #[.int .i64 e, .int .i64 n] 30) ∧ SOwn encWay w' w.heap.size 30 (some ⟨g, 0, none⟩) cap (lnsTo l 24) ∧ Below w.heap.size w w')) (by kernel_rfl) ⟨blk_new wr _, blk_old hCr _, hOr.alloc _, (hBr.alloc hBr.size _).drew⟩ (fun hHeld => ?_)
          obtain ⟨hL_0, hC_0, hO_0, hB_0⟩ := id hHeld
          refine wpAnyH_take (i := 0) (oi := _) (v := ?_) rfl (by kernel_rfl) (by kernel_rfl) (by kernel_rfl) (fun _ _ _ h => h) (Or.inl ⟨by rfl, ?_⟩) (by assumption) ?_
          (rotate_left); (focus (intro wv hSw; (obtain ⟨qL, qC, qO, qB⟩ := hSw);  go_simp; (try with_reducible rfl)))
          try simp only [Act.put, List.getElem_toArray, List.getElem_cons_succ, List.getElem_cons_zero, List.setIfInBounds_toArray, List.set_cons_zero, List.set_cons_succ]
          refine wpAnyH_take (i := 1) (oi := _) (v := ?_) rfl (by kernel_rfl) (by kernel_rfl) (by kernel_rfl) (fun _ _ _ h => h) (Or.inl ⟨by rfl, ?_⟩) (by assumption) ?_
          (rotate_left); (focus (intro wv hSw; (obtain ⟨qL, qC, qO, qB⟩ := hSw); obtain ⟨u0, u1, _, _, _⟩ := blk2 qL; go_simp; (try with_reducible rfl)))
          try simp only [Act.put, List.getElem_toArray, List.getElem_cons_succ, List.getElem_cons_zero, List.setIfInBounds_toArray, List.set_cons_zero, List.set_cons_succ]
          refine wpAnyH_take (i := 2) (oi := _) (v := ?_) rfl (by kernel_rfl) (by kernel_rfl) (by kernel_rfl) (fun _ _ _ h => h) (Or.inl ⟨by rfl, ?_⟩) (by assumption) ?_
          (rotate_left); (focus (intro wv hSw; (obtain ⟨qL, qC, qO, qB⟩ := hSw);  go_simp; (try with_reducible rfl)))
          try simp only [Act.put, List.getElem_toArray, List.getElem_cons_succ, List.getElem_cons_zero, List.setIfInBounds_toArray, List.set_cons_zero, List.set_cons_succ]
          refine wpAnyH_take (i := 3) (oi := _) (v := ?_) rfl (by kernel_rfl) (by kernel_rfl) (by kernel_rfl) (fun _ _ _ h => h) (Or.inl ⟨by rfl, ?_⟩) (by assumption) ?_
          (rotate_left); (focus (intro wv hSw; (obtain ⟨qL, qC, qO, qB⟩ := hSw);  go_simp; (try with_reducible rfl)))
          try simp only [Act.put, List.getElem_toArray, List.getElem_cons_succ, List.getElem_cons_zero, List.setIfInBounds_toArray, List.set_cons_zero, List.set_cons_succ]
          refine wpAnyH_take (i := 4) (oi := _) (v := ?_) rfl (by kernel_rfl) (by kernel_rfl) (by kernel_rfl) (fun _ _ _ h => h) (Or.inl ⟨by rfl, ?_⟩) (by assumption) ?_
          (rotate_left); (focus (intro wv hSw; (obtain ⟨qL, qC, qO, qB⟩ := hSw);  go_simp; (try with_reducible rfl)))
          try simp only [Act.put, List.getElem_toArray, List.getElem_cons_succ, List.getElem_cons_zero, List.setIfInBounds_toArray, List.set_cons_zero, List.set_cons_succ]
          refine wpAnyH_take (i := 5) (oi := _) (v := ?_) rfl (by kernel_rfl) (by kernel_rfl) (by kernel_rfl) (fun _ _ _ h => h) (Or.inl ⟨by rfl, ?_⟩) (by assumption) ?_
          (rotate_left); (focus (intro wv hSw; (obtain ⟨qL, qC, qO, qB⟩ := hSw);  go_simp; (try with_reducible rfl)))
          try simp only [Act.put, List.getElem_toArray, List.getElem_cons_succ, List.getElem_cons_zero, List.setIfInBounds_toArray, List.set_cons_zero, List.set_cons_succ]
          refine wpAnyH_take (i := 6) (oi := _) (v := ?_) rfl (by kernel_rfl) (by kernel_rfl) (by kernel_rfl) (fun _ _ _ h => h) (Or.inl ⟨by rfl, ?_⟩) (by assumption) ?_
          (rotate_left); (focus (intro wv hSw; (obtain ⟨qL, qC, qO, qB⟩ := hSw);  go_simp; (try with_reducible rfl)))
          try simp only [Act.put, List.getElem_toArray, List.getElem_cons_succ, List.getElem_cons_zero, List.setIfInBounds_toArray, List.set_cons_zero, List.set_cons_succ]
          refine wpAnyH_take (i := 7) (oi := _) (v := ?_) rfl (by kernel_rfl) (by kernel_rfl) (by kernel_rfl) (fun _ _ _ h => h) (Or.inl ⟨by rfl, ?_⟩) (by assumption) ?_
          (rotate_left); (focus (intro wv hSw; (obtain ⟨qL, qC, qO, qB⟩ := hSw);  go_simp; (try with_reducible rfl)))
          try simp only [Act.put, List.getElem_toArray, List.getElem_cons_succ, List.getElem_cons_zero, List.setIfInBounds_toArray, List.set_cons_zero, List.set_cons_succ]
          refine wpAnyH_take (i := 8) (oi := _) (v := ?_) rfl (by kernel_rfl) (by kernel_rfl) (by kernel_rfl) (fun _ _ _ h => h) (Or.inl ⟨by rfl, ?_⟩) (by assumption) ?_
          (rotate_left); (focus (intro wv hSw; (obtain ⟨qL, qC, qO, qB⟩ := hSw);  go_simp; (try with_reducible rfl)))
          try simp only [Act.put, List.getElem_toArray, List.getElem_cons_succ, List.getElem_cons_zero, List.setIfInBounds_toArray, List.set_cons_zero, List.set_cons_succ]
          refine wpAnyH_take (i := 9) (oi := _) (v := ?_) rfl (by kernel_rfl) (by kernel_rfl) (by kernel_rfl) (fun _ _ _ h => h) (Or.inl ⟨by rfl, ?_⟩) (by assumption) ?_
          (rotate_left); (focus (intro wv hSw; (obtain ⟨qL, qC, qO, qB⟩ := hSw); obtain ⟨u0, u1⟩ := ownWay qO (i := k + 1) (by rw [lnsTo_len]; omega); simp only [lnsTo_at] at u0 u1; go_simp; (try with_reducible rfl)))
          try simp only [Act.put, List.getElem_toArray, List.getElem_cons_succ, List.getElem_cons_zero, List.setIfInBounds_toArray, List.set_cons_zero, List.set_cons_succ]
          refine wpAnyH_ready (rs := [10]) (by kernel_rfl) (by simp) ?_
          refine AllReadyH.cons (o := _) rfl (fun K hK => ?_) AllReadyH.nil
          go_simp
          (go_at_call 55; refine (ho1_is _ hC_0 HP.out).mono ?_; rintro e x0c ⟨rfl, hw_0c⟩)
          refine hK.out _ _ ⟨blk_next hL_0 hw_0c, blk_next hC_0 hw_0c, hO_0.next hw_0c, bel_next hB_0 hw_0c⟩ (fun hHeld => ?_)
          clear hK K
          try simp only [Act.put, List.getElem_toArray, List.getElem_cons_succ, List.getElem_cons_zero, List.setIfInBounds_toArray, List.set_cons_zero, List.set_cons_succ]
          obtain ⟨hL_0c, hC_0c, hO_0c, hB_0c⟩ := id hHeld
          refine wpAnyH_done (by kernel_rfl) ?_ _
          go_wp2_with fail
          go_ret
          exact ⟨_, rfl, .inl ⟨by omega, by omega, by have := HPK.out; rwa [show ((-12 : Int) + (k : Int)) = (k : Int) - 12 by omega], fun j j0 j1 => HN.out j j0 (by omega)⟩, hB_0c⟩
      · obtain ⟨q, hq⟩ : ∃ q, onW (lnE l ((k : Int) - 12)) (lnN ((k : Int) - 12)) e n = q := ⟨_, rfl⟩
        have HPK : Hid (hoP l e n ((k : Int) - 12) = q) := by show _ = _; rw [hoP_W HL.out he hn]; exact hq
        have HP := Lib.hid hq
        clear hq
        cases q
        · go_wp2_with fail
          have i1 : IntKind.i64.wrap ((k : Int) + 1) = (k : Int) + 1 := IntWalk.i64_in _ (by omega)
          have i4 : 0 ≤ (k : Int) + 1 := by omega
          have i2 : ((k : Int) + 1).tmod 24 = 0 := by rw [Int.tmod_eq_emod_of_nonneg (by omega)]; omega
          have i6 : ((k : Int) + 1) % 24 = 0 := by omega
          refine wp_region_held_drew (S := (fun w' => w'.heap[wr.heap.size]? = some (.cells #[.int .i64 (lnE l ((k : Int) - 12)), .int .i64 (lnN ((k : Int) - 12))] 30) ∧ w'.heap[B]? = some (.cells #[.int .i64 e, .int .i64 n] 30) ∧ SOwn encWay w' w.heap.size 30 (some ⟨g, 0, none⟩) cap (lnsTo l 24) ∧ Below w.heap.size w w')) (by kernel_rfl) ⟨blk_new wr _, blk_old hCr _, hOr.alloc _, (hBr.alloc hBr.size _).drew⟩ (fun hHeld => ?_)
          obtain ⟨hL_0, hC_0, hO_0, hB_0⟩ := id hHeld
          refine wpAnyH_take (i := 0) (oi := _) (v := ?_) rfl (by kernel_rfl) (by kernel_rfl) (by kernel_rfl) (fun _ _ _ h => h) (Or.inl ⟨by rfl, ?_⟩) (by assumption) ?_
          (rotate_left); (focus (intro wv hSw; (obtain ⟨qL, qC, qO, qB⟩ := hSw);  go_simp; (try with_reducible rfl)))
          try simp only [Act.put, List.getElem_toArray, List.getElem_cons_succ, List.getElem_cons_zero, List.setIfInBounds_toArray, List.set_cons_zero, List.set_cons_succ]
          refine wpAnyH_take (i := 1) (oi := _) (v := ?_) rfl (by kernel_rfl) (by kernel_rfl) (by kernel_rfl) (fun _ _ _ h => h) (Or.inl ⟨by rfl, ?_⟩) (by assumption) ?_
          (rotate_left); (focus (intro wv hSw; (obtain ⟨qL, qC, qO, qB⟩ := hSw); obtain ⟨u0, u1, _, _, _⟩ := blk2 qL; go_simp; (try with_reducible rfl)))
          try simp only [Act.put, List.getElem_toArray, List.getElem_cons_succ, List.getElem_cons_zero, List.setIfInBounds_toArray, List.set_cons_zero, List.set_cons_succ]
          refine wpAnyH_take (i := 2) (oi := _) (v := ?_) rfl (by kernel_rfl) (by kernel_rfl) (by kernel_rfl) (fun _ _ _ h => h) (Or.inl ⟨by rfl, ?_⟩) (by assumption) ?_
          (rotate_left); (focus (intro wv hSw; (obtain ⟨qL, qC, qO, qB⟩ := hSw);  go_simp; (try with_reducible rfl)))
          try simp only [Act.put, List.getElem_toArray, List.getElem_cons_succ, List.getElem_cons_zero, List.setIfInBounds_toArray, List.set_cons_zero, List.set_cons_succ]
          refine wpAnyH_take (i := 3) (oi := _) (v := ?_) rfl (by kernel_rfl) (by kernel_rfl) (by kernel_rfl) (fun _ _ _ h => h) (Or.inl ⟨by rfl, ?_⟩) (by assumption) ?_
          (rotate_left); (focus (intro wv hSw; (obtain ⟨qL, qC, qO, qB⟩ := hSw);  go_simp; (try with_reducible rfl)))
          try simp only [Act.put, List.getElem_toArray, List.getElem_cons_succ, List.getElem_cons_zero, List.setIfInBounds_toArray, List.set_cons_zero, List.set_cons_succ]
          refine wpAnyH_take (i := 4) (oi := _) (v := ?_) rfl (by kernel_rfl) (by kernel_rfl) (by kernel_rfl) (fun _ _ _ h => h) (Or.inl ⟨by rfl, ?_⟩) (by assumption) ?_
          (rotate_left); (focus (intro wv hSw; (obtain ⟨qL, qC, qO, qB⟩ := hSw);  go_simp; (try with_reducible rfl)))
          try simp only [Act.put, List.getElem_toArray, List.getElem_cons_succ, List.getElem_cons_zero, List.setIfInBounds_toArray, List.set_cons_zero, List.set_cons_succ]
          refine wpAnyH_take (i := 5) (oi := _) (v := ?_) rfl (by kernel_rfl) (by kernel_rfl) (by kernel_rfl) (fun _ _ _ h => h) (Or.inl ⟨by rfl, ?_⟩) (by assumption) ?_
          (rotate_left); (focus (intro wv hSw; (obtain ⟨qL, qC, qO, qB⟩ := hSw);  go_simp; (try with_reducible rfl)))
          try simp only [Act.put, List.getElem_toArray, List.getElem_cons_succ, List.getElem_cons_zero, List.setIfInBounds_toArray, List.set_cons_zero, List.set_cons_succ]
          refine wpAnyH_take (i := 6) (oi := _) (v := ?_) rfl (by kernel_rfl) (by kernel_rfl) (by kernel_rfl) (fun _ _ _ h => h) (Or.inl ⟨by rfl, ?_⟩) (by assumption) ?_
          (rotate_left); (focus (intro wv hSw; (obtain ⟨qL, qC, qO, qB⟩ := hSw);  go_simp; (try with_reducible rfl)))
          try simp only [Act.put, List.getElem_toArray, List.getElem_cons_succ, List.getElem_cons_zero, List.setIfInBounds_toArray, List.set_cons_zero, List.set_cons_succ]
          refine wpAnyH_take (i := 7) (oi := _) (v := ?_) rfl (by kernel_rfl) (by kernel_rfl) (by kernel_rfl) (fun _ _ _ h => h) (Or.inl ⟨by rfl, ?_⟩) (by assumption) ?_
          (rotate_left); (focus (intro wv hSw; (obtain ⟨qL, qC, qO, qB⟩ := hSw);  go_simp; (try with_reducible rfl)))
          try simp only [Act.put, List.getElem_toArray, List.getElem_cons_succ, List.getElem_cons_zero, List.setIfInBounds_toArray, List.set_cons_zero, List.set_cons_succ]
          refine wpAnyH_take (i := 8) (oi := _) (v := ?_) rfl (by kernel_rfl) (by kernel_rfl) (by kernel_rfl) (fun _ _ _ h => h) (Or.inl ⟨by rfl, ?_⟩) (by assumption) ?_
          (rotate_left); (focus (intro wv hSw; (obtain ⟨qL, qC, qO, qB⟩ := hSw);  go_simp; (try with_reducible rfl)))
          try simp only [Act.put, List.getElem_toArray, List.getElem_cons_succ, List.getElem_cons_zero, List.setIfInBounds_toArray, List.set_cons_zero, List.set_cons_succ]
          refine wpAnyH_take (i := 9) (oi := _) (v := ?_) rfl (by kernel_rfl) (by kernel_rfl) (by kernel_rfl) (fun _ _ _ h => h) (Or.inl ⟨by rfl, ?_⟩) (by assumption) ?_
          (rotate_left); (focus (intro wv hSw; (obtain ⟨qL, qC, qO, qB⟩ := hSw); obtain ⟨u0, u1⟩ := ownWay qO (i := 0) (by rw [lnsTo_len]; omega); simp [lnsTo_at] at u0 u1; go_simp; (try with_reducible rfl)))
          try simp only [Act.put, List.getElem_toArray, List.getElem_cons_succ, List.getElem_cons_zero, List.setIfInBounds_toArray, List.set_cons_zero, List.set_cons_succ]
          refine wpAnyH_ready (rs := [10]) (by kernel_rfl) (by simp) ?_
          refine AllReadyH.cons (o := _) rfl (fun K hK => ?_) AllReadyH.nil
          go_simp
          (go_at_call 55; refine (ho1_is _ hC_0 HP.out).mono ?_; rintro e x0c ⟨rfl, hw_0c⟩)
          refine hK.out _ _ ⟨blk_next hL_0 hw_0c, blk_next hC_0 hw_0c, hO_0.next hw_0c, bel_next hB_0 hw_0c⟩ (fun hHeld => ?_)
          clear hK K
          try simp only [Act.put, List.getElem_toArray, List.getElem_cons_succ, List.getElem_cons_zero, List.setIfInBounds_toArray, List.set_cons_zero, List.set_cons_succ]
          obtain ⟨hL_0c, hC_0c, hO_0c, hB_0c⟩ := id hHeld
          refine wpAnyH_done (by kernel_rfl) ?_ _
          clear i1 i2 i4 i6
          go_wp2_with fail
          go_roundw
          case rel => exact ⟨k + 1, by go_num, by omega, Lib.hid (fun j j0 j1 => by by_cases g : j < (k : Int) - 12; exact HN.out j j0 g; rw [show j = (k : Int) - 12 by omega]; exact HPK.out), hO_0c, hC_0c, hB_0c⟩
          case measure => simp [intOf]; omega
        · go_wp2_with fail
          have i1 : IntKind.i64.wrap ((k : Int) + 1) = (k : Int) + 1 := IntWalk.i64_in _ (by omega)
          have i4 : 0 ≤ (k : Int) + 1 := by omega
          have i2 : ((k : Int) + 1).tmod 24 = 0 := by rw [Int.tmod_eq_emod_of_nonneg (by omega)]; omega
          have i6 : ((k : Int) + 1) % 24 = 0 := by omega
          refine wp_region_held_drew (S := (fun w' => w'.heap[wr.heap.size]? = some (.cells #[.int .i64 (lnE l ((k : Int) - 12)), .int .i64 (lnN ((k : Int) - 12))] 30) ∧ w'.heap[B]? = some (.cells #[.int .i64 e, .int .i64 n] 30) ∧ SOwn encWay w' w.heap.size 30 (some ⟨g, 0, none⟩) cap (lnsTo l 24) ∧ Below w.heap.size w w')) (by kernel_rfl) ⟨blk_new wr _, blk_old hCr _, hOr.alloc _, (hBr.alloc hBr.size _).drew⟩ (fun hHeld => ?_)
          obtain ⟨hL_0, hC_0, hO_0, hB_0⟩ := id hHeld
          refine wpAnyH_take (i := 0) (oi := _) (v := ?_) rfl (by kernel_rfl) (by kernel_rfl) (by kernel_rfl) (fun _ _ _ h => h) (Or.inl ⟨by rfl, ?_⟩) (by assumption) ?_
          (rotate_left); (focus (intro wv hSw; (obtain ⟨qL, qC, qO, qB⟩ := hSw);  go_simp; (try with_reducible rfl)))
          try simp only [Act.put, List.getElem_toArray, List.getElem_cons_succ, List.getElem_cons_zero, List.setIfInBounds_toArray, List.set_cons_zero, List.set_cons_succ]
          refine wpAnyH_take (i := 1) (oi := _) (v := ?_) rfl (by kernel_rfl) (by kernel_rfl) (by kernel_rfl) (fun _ _ _ h => h) (Or.inl ⟨by rfl, ?_⟩) (by assumption) ?_
          (rotate_left); (focus (intro wv hSw; (obtain ⟨qL, qC, qO, qB⟩ := hSw); obtain ⟨u0, u1, _, _, _⟩ := blk2 qL; go_simp; (try with_reducible rfl)))
          try simp only [Act.put, List.getElem_toArray, List.getElem_cons_succ, List.getElem_cons_zero, List.setIfInBounds_toArray, List.set_cons_zero, List.set_cons_succ]
          refine wpAnyH_take (i := 2) (oi := _) (v := ?_) rfl (by kernel_rfl) (by kernel_rfl) (by kernel_rfl) (fun _ _ _ h => h) (Or.inl ⟨by rfl, ?_⟩) (by assumption) ?_
          (rotate_left); (focus (intro wv hSw; (obtain ⟨qL, qC, qO, qB⟩ := hSw);  go_simp; (try with_reducible rfl)))
          try simp only [Act.put, List.getElem_toArray, List.getElem_cons_succ, List.getElem_cons_zero, List.setIfInBounds_toArray, List.set_cons_zero, List.set_cons_succ]
          refine wpAnyH_take (i := 3) (oi := _) (v := ?_) rfl (by kernel_rfl) (by kernel_rfl) (by kernel_rfl) (fun _ _ _ h => h) (Or.inl ⟨by rfl, ?_⟩) (by assumption) ?_
          (rotate_left); (focus (intro wv hSw; (obtain ⟨qL, qC, qO, qB⟩ := hSw);  go_simp; (try with_reducible rfl)))
          try simp only [Act.put, List.getElem_toArray, List.getElem_cons_succ, List.getElem_cons_zero, List.setIfInBounds_toArray, List.set_cons_zero, List.set_cons_succ]
          refine wpAnyH_take (i := 4) (oi := _) (v := ?_) rfl (by kernel_rfl) (by kernel_rfl) (by kernel_rfl) (fun _ _ _ h => h) (Or.inl ⟨by rfl, ?_⟩) (by assumption) ?_
          (rotate_left); (focus (intro wv hSw; (obtain ⟨qL, qC, qO, qB⟩ := hSw);  go_simp; (try with_reducible rfl)))
          try simp only [Act.put, List.getElem_toArray, List.getElem_cons_succ, List.getElem_cons_zero, List.setIfInBounds_toArray, List.set_cons_zero, List.set_cons_succ]
          refine wpAnyH_take (i := 5) (oi := _) (v := ?_) rfl (by kernel_rfl) (by kernel_rfl) (by kernel_rfl) (fun _ _ _ h => h) (Or.inl ⟨by rfl, ?_⟩) (by assumption) ?_
          (rotate_left); (focus (intro wv hSw; (obtain ⟨qL, qC, qO, qB⟩ := hSw);  go_simp; (try with_reducible rfl)))
          try simp only [Act.put, List.getElem_toArray, List.getElem_cons_succ, List.getElem_cons_zero, List.setIfInBounds_toArray, List.set_cons_zero, List.set_cons_succ]
          refine wpAnyH_take (i := 6) (oi := _) (v := ?_) rfl (by kernel_rfl) (by kernel_rfl) (by kernel_rfl) (fun _ _ _ h => h) (Or.inl ⟨by rfl, ?_⟩) (by assumption) ?_
          (rotate_left); (focus (intro wv hSw; (obtain ⟨qL, qC, qO, qB⟩ := hSw);  go_simp; (try with_reducible rfl)))
          try simp only [Act.put, List.getElem_toArray, List.getElem_cons_succ, List.getElem_cons_zero, List.setIfInBounds_toArray, List.set_cons_zero, List.set_cons_succ]
          refine wpAnyH_take (i := 7) (oi := _) (v := ?_) rfl (by kernel_rfl) (by kernel_rfl) (by kernel_rfl) (fun _ _ _ h => h) (Or.inl ⟨by rfl, ?_⟩) (by assumption) ?_
          (rotate_left); (focus (intro wv hSw; (obtain ⟨qL, qC, qO, qB⟩ := hSw);  go_simp; (try with_reducible rfl)))
          try simp only [Act.put, List.getElem_toArray, List.getElem_cons_succ, List.getElem_cons_zero, List.setIfInBounds_toArray, List.set_cons_zero, List.set_cons_succ]
          refine wpAnyH_take (i := 8) (oi := _) (v := ?_) rfl (by kernel_rfl) (by kernel_rfl) (by kernel_rfl) (fun _ _ _ h => h) (Or.inl ⟨by rfl, ?_⟩) (by assumption) ?_
          (rotate_left); (focus (intro wv hSw; (obtain ⟨qL, qC, qO, qB⟩ := hSw);  go_simp; (try with_reducible rfl)))
          try simp only [Act.put, List.getElem_toArray, List.getElem_cons_succ, List.getElem_cons_zero, List.setIfInBounds_toArray, List.set_cons_zero, List.set_cons_succ]
          refine wpAnyH_take (i := 9) (oi := _) (v := ?_) rfl (by kernel_rfl) (by kernel_rfl) (by kernel_rfl) (fun _ _ _ h => h) (Or.inl ⟨by rfl, ?_⟩) (by assumption) ?_
          (rotate_left); (focus (intro wv hSw; (obtain ⟨qL, qC, qO, qB⟩ := hSw); obtain ⟨u0, u1⟩ := ownWay qO (i := 0) (by rw [lnsTo_len]; omega); simp [lnsTo_at] at u0 u1; go_simp; (try with_reducible rfl)))
          try simp only [Act.put, List.getElem_toArray, List.getElem_cons_succ, List.getElem_cons_zero, List.setIfInBounds_toArray, List.set_cons_zero, List.set_cons_succ]
          refine wpAnyH_ready (rs := [10]) (by kernel_rfl) (by simp) ?_
          refine AllReadyH.cons (o := _) rfl (fun K hK => ?_) AllReadyH.nil
          go_simp
          (go_at_call 55; refine (ho1_is _ hC_0 HP.out).mono ?_; rintro e x0c ⟨rfl, hw_0c⟩)
          refine hK.out _ _ ⟨blk_next hL_0 hw_0c, blk_next hC_0 hw_0c, hO_0.next hw_0c, bel_next hB_0 hw_0c⟩ (fun hHeld => ?_)
          clear hK K
          try simp only [Act.put, List.getElem_toArray, List.getElem_cons_succ, List.getElem_cons_zero, List.setIfInBounds_toArray, List.set_cons_zero, List.set_cons_succ]
          obtain ⟨hL_0c, hC_0c, hO_0c, hB_0c⟩ := id hHeld
          refine wpAnyH_done (by kernel_rfl) ?_ _
          go_wp2_with fail
          go_ret
          exact ⟨_, rfl, .inl ⟨by omega, by omega, by have := HPK.out; rwa [show ((-12 : Int) + (k : Int)) = (k : Int) - 12 by omega], fun j j0 j1 => HN.out j j0 (by omega)⟩, hB_0c⟩
    · have hk : k = 24 := by omega
      have HK := Lib.hid hk
      clear hk
      go_wp2_with fail
      go_ret
      exact ⟨12, rfl, .inr ⟨rfl, fun j j0 j1 => HN.out j j0 (by have := HK.out; omega)⟩, hBr⟩
set_option maxHeartbeats 1000000 in
theorem wo_f (l e n : Int) (B : Nat) (w : World) (hl : laB l = false) : Calls Try.prog 54 #[.iface 52 (.int .i64 l), .func (.func 55) #[] #[.pointer (some ⟨B, 0, none⟩)]] w fun e' w' => e' = .returned (.int .i64 12) ∧ Below w.heap.size w w' := by
  have HL := Lib.hid hl
  clear hl
  go_enter Try.func54, Try.ntmps54
  go_wp2_with fail
  refine (lysOn_f _ _ HL.out).mono ?_; rintro e' w1 ⟨A, cap, rfl, hB⟩
  go_wp2_with fail
  go_loopw [12] (fun v wr => v = .int .i64 0 ∧ Below w.heap.size w wr) (fun v _ => 0)
  case atStart => exact ⟨rfl, hB⟩
  case round =>
    obtain ⟨rfl, hBr⟩ := hrel
    go_wp2_with fail
    go_ret
    exact ⟨rfl, hBr⟩
set_option maxHeartbeats 4000000 in
theorem wb_t (l e n : Int) (B : Nat) (w : World) (hb : w.heap[B]? = some (.cells #[.int .i64 e, .int .i64 n] 30)) (hl : laB l = true) (hg : goB e n = true) : Calls Try.prog 54 #[.iface 52 (.int .i64 l), .func (.func 59) #[] #[.pointer (some ⟨B, 0, none⟩)]] w fun e' w' => ∃ r : Int, e' = .returned (.int .i64 r) ∧ HourIs (hbP l e n) r ∧ Below w.heap.size w w' := by
  have HL := Lib.hid hl
  have HB0 := Lib.hid hb
  have hbl := blk_lt hb
  clear hb hl
  have HG := Lib.hid hg
  clear hg
  go_enter Try.func54, Try.ntmps54
  go_wp2_with fail
  refine (lysOn_t _ _ HL.out).mono ?_; rintro e' w1 ⟨A, cap, rfl, hO, hB⟩
  obtain ⟨g, rfl, hg0, hg1⟩ := hO.at_ (i := 0) (by rw [lnsTo_len]; omega)
  have hC := blk_next HB0.out hB
  go_wp2_with fail
  go_loopw [12] (fun v wr => ∃ k : Nat, v = .int .i64 k ∧ k ≤ 24 ∧ Hid (∀ j : Int, -12 ≤ j → j < (k : Int) - 12 → hbP l e n j = false) ∧ SOwn encWay wr w.heap.size 30 (some ⟨g, 0, none⟩) cap (lnsTo l 24) ∧ wr.heap[B]? = some (.cells #[.int .i64 e, .int .i64 n] 30) ∧ Below w.heap.size w wr) (fun v _ => (24 - intOf v).toNat)
  case atStart => exact ⟨0, rfl, by omega, Lib.hid (fun j j0 j1 => by omega), hO, hC, hB⟩
  case round =>
    obtain ⟨k, rfl, k1, HN, hOr, hCr, hBr⟩ := hrel
    by_cases hlt : k < 24
    · obtain ⟨c0, c1⟩ := ownWay hOr (i := k) (by rw [lnsTo_len]; exact hlt)
      simp only [lnsTo_at] at c0 c1
      by_cases h23 : k < 23
      · obtain ⟨q, hq⟩ : ∃ q, hbW (lnE l ((k : Int) - 12)) (lnN ((k : Int) - 12)) (lnE l (((k + 1 : Nat) : Int) - 12)) (lnN (((k + 1 : Nat) : Int) - 12)) e n = q := ⟨_, rfl⟩
        have HPK : Hid (hbP l e n ((k : Int) - 12) = q) := by show _ = _; rw [hbP_W HL.out HG.out, nx_lo h23]; exact hq
        have HP := Lib.hid hq
        clear hq
        cases q
        · go_wp2_with fail
          have i1 : IntKind.i64.wrap ((k : Int) + 1) = (k : Int) + 1 := IntWalk.i64_in _ (by omega)
          have i4 : 0 ≤ (k : Int) + 1 := by omega
          have i2 : ((k : Int) + 1).tmod 24 = (k : Int) + 1 := by rw [Int.tmod_eq_emod_of_nonneg (by omega)]; omega
          have i6 : ((k : Int) + 1) % 24 = (k : Int) + 1 := by omega
          have i3 : ((k : Int) + 1).toNat = k + 1 := by omega
          have i5 : (k : Int) + 1 < 24 := by omega
          refine wp_region_held_drew (S := (fun w' => w'.heap[wr.heap.size]? = some (.cells #[.int .i64 (lnE l ((k : Int) - 12)), .int .i64 (lnN ((k : Int) - 12))] 30) ∧ w'.heap[B]? = some (.cells #[.int .i64 e, .int .i64 n] 30) ∧ SOwn encWay w' w.heap.size 30 (some ⟨g, 0, none⟩) cap (lnsTo l 24) ∧ Below w.heap.size w w')) (by kernel_rfl) ⟨blk_new wr _, blk_old hCr _, hOr.alloc _, (hBr.alloc hBr.size _).drew⟩ (fun hHeld => ?_)
          obtain ⟨hL_0, hC_0, hO_0, hB_0⟩ := id hHeld
          refine wpAnyH_take (i := 0) (oi := _) (v := ?_) rfl (by kernel_rfl) (by kernel_rfl) (by kernel_rfl) (fun _ _ _ h => h) (Or.inl ⟨by rfl, ?_⟩) (by assumption) ?_
          (rotate_left); (focus (intro wv hSw; (obtain ⟨qL, qC, qO, qB⟩ := hSw);  go_simp; (try with_reducible rfl)))
          try simp only [Act.put, List.getElem_toArray, List.getElem_cons_succ, List.getElem_cons_zero, List.setIfInBounds_toArray, List.set_cons_zero, List.set_cons_succ]
          refine wpAnyH_take (i := 1) (oi := _) (v := ?_) rfl (by kernel_rfl) (by kernel_rfl) (by kernel_rfl) (fun _ _ _ h => h) (Or.inl ⟨by rfl, ?_⟩) (by assumption) ?_
          (rotate_left); (focus (intro wv hSw; (obtain ⟨qL, qC, qO, qB⟩ := hSw); obtain ⟨u0, u1, _, _, _⟩ := blk2 qL; go_simp; (try with_reducible rfl)))
          try simp only [Act.put, List.getElem_toArray, List.getElem_cons_succ, List.getElem_cons_zero, List.setIfInBounds_toArray, List.set_cons_zero, List.set_cons_succ]
          refine wpAnyH_take (i := 2) (oi := _) (v := ?_) rfl (by kernel_rfl) (by kernel_rfl) (by kernel_rfl) (fun _ _ _ h => h) (Or.inl ⟨by rfl, ?_⟩) (by assumption) ?_
          (rotate_left); (focus (intro wv hSw; (obtain ⟨qL, qC, qO, qB⟩ := hSw);  go_simp; (try with_reducible rfl)))
          try simp only [Act.put, List.getElem_toArray, List.getElem_cons_succ, List.getElem_cons_zero, List.setIfInBounds_toArray, List.set_cons_zero, List.set_cons_succ]
          refine wpAnyH_take (i := 3) (oi := _) (v := ?_) rfl (by kernel_rfl) (by kernel_rfl) (by kernel_rfl) (fun _ _ _ h => h) (Or.inl ⟨by rfl, ?_⟩) (by assumption) ?_
          (rotate_left); (focus (intro wv hSw; (obtain ⟨qL, qC, qO, qB⟩ := hSw);  go_simp; (try with_reducible rfl)))
          try simp only [Act.put, List.getElem_toArray, List.getElem_cons_succ, List.getElem_cons_zero, List.setIfInBounds_toArray, List.set_cons_zero, List.set_cons_succ]
          refine wpAnyH_take (i := 4) (oi := _) (v := ?_) rfl (by kernel_rfl) (by kernel_rfl) (by kernel_rfl) (fun _ _ _ h => h) (Or.inl ⟨by rfl, ?_⟩) (by assumption) ?_
          (rotate_left); (focus (intro wv hSw; (obtain ⟨qL, qC, qO, qB⟩ := hSw);  go_simp; (try with_reducible rfl)))
          try simp only [Act.put, List.getElem_toArray, List.getElem_cons_succ, List.getElem_cons_zero, List.setIfInBounds_toArray, List.set_cons_zero, List.set_cons_succ]
          refine wpAnyH_take (i := 5) (oi := _) (v := ?_) rfl (by kernel_rfl) (by kernel_rfl) (by kernel_rfl) (fun _ _ _ h => h) (Or.inl ⟨by rfl, ?_⟩) (by assumption) ?_
          (rotate_left); (focus (intro wv hSw; (obtain ⟨qL, qC, qO, qB⟩ := hSw);  go_simp; (try with_reducible rfl)))
          try simp only [Act.put, List.getElem_toArray, List.getElem_cons_succ, List.getElem_cons_zero, List.setIfInBounds_toArray, List.set_cons_zero, List.set_cons_succ]
          refine wpAnyH_take (i := 6) (oi := _) (v := ?_) rfl (by kernel_rfl) (by kernel_rfl) (by kernel_rfl) (fun _ _ _ h => h) (Or.inl ⟨by rfl, ?_⟩) (by assumption) ?_
          (rotate_left); (focus (intro wv hSw; (obtain ⟨qL, qC, qO, qB⟩ := hSw);  go_simp; (try with_reducible rfl)))
          try simp only [Act.put, List.getElem_toArray, List.getElem_cons_succ, List.getElem_cons_zero, List.setIfInBounds_toArray, List.set_cons_zero, List.set_cons_succ]
          refine wpAnyH_take (i := 7) (oi := _) (v := ?_) rfl (by kernel_rfl) (by kernel_rfl) (by kernel_rfl) (fun _ _ _ h => h) (Or.inl ⟨by rfl, ?_⟩) (by assumption) ?_
          (rotate_left); (focus (intro wv hSw; (obtain ⟨qL, qC, qO, qB⟩ := hSw);  go_simp; (try with_reducible rfl)))
          try simp only [Act.put, List.getElem_toArray, List.getElem_cons_succ, List.getElem_cons_zero, List.setIfInBounds_toArray, List.set_cons_zero, List.set_cons_succ]
          refine wpAnyH_take (i := 8) (oi := _) (v := ?_) rfl (by kernel_rfl) (by kernel_rfl) (by kernel_rfl) (fun _ _ _ h => h) (Or.inl ⟨by rfl, ?_⟩) (by assumption) ?_
          (rotate_left); (focus (intro wv hSw; (obtain ⟨qL, qC, qO, qB⟩ := hSw);  go_simp; (try with_reducible rfl)))
          try simp only [Act.put, List.getElem_toArray, List.getElem_cons_succ, List.getElem_cons_zero, List.setIfInBounds_toArray, List.set_cons_zero, List.set_cons_succ]
          refine wpAnyH_take (i := 9) (oi := _) (v := ?_) rfl (by kernel_rfl) (by kernel_rfl) (by kernel_rfl) (fun _ _ _ h => h) (Or.inl ⟨by rfl, ?_⟩) (by assumption) ?_
          (rotate_left); (focus (intro wv hSw; (obtain ⟨qL, qC, qO, qB⟩ := hSw); obtain ⟨u0, u1⟩ := ownWay qO (i := k + 1) (by rw [lnsTo_len]; omega); simp only [lnsTo_at] at u0 u1; go_simp; (try with_reducible rfl)))
          try simp only [Act.put, List.getElem_toArray, List.getElem_cons_succ, List.getElem_cons_zero, List.setIfInBounds_toArray, List.set_cons_zero, List.set_cons_succ]
          refine wpAnyH_ready (rs := [10]) (by kernel_rfl) (by simp) ?_
          refine AllReadyH.cons (o := _) rfl (fun K hK => ?_) AllReadyH.nil
          go_simp
          (go_at_call 59; refine (hb1_is _ hC_0 HP.out).mono ?_; rintro e x0c ⟨rfl, hw_0c⟩)
          refine hK.out _ _ ⟨blk_next hL_0 hw_0c, blk_next hC_0 hw_0c, hO_0.next hw_0c, bel_next hB_0 hw_0c⟩ (fun hHeld => ?_)
          clear hK K
          try simp only [Act.put, List.getElem_toArray, List.getElem_cons_succ, List.getElem_cons_zero, List.setIfInBounds_toArray, List.set_cons_zero, List.set_cons_succ]
          obtain ⟨hL_0c, hC_0c, hO_0c, hB_0c⟩ := id hHeld
          refine wpAnyH_done (by kernel_rfl) ?_ _
          clear i1 i2 i4 i6 i3 i5
          go_wp2_with fail
          go_roundw
          case rel => exact ⟨k + 1, by go_num, by omega, Lib.hid (fun j j0 j1 => by by_cases g : j < (k : Int) - 12; exact HN.out j j0 g; rw [show j = (k : Int) - 12 by omega]; exact HPK.out), hO_0c, hC_0c, hB_0c⟩
          case measure => simp [intOf]; omega
        · go_wp2_with fail
          have i1 : IntKind.i64.wrap ((k : Int) + 1) = (k : Int) + 1 := IntWalk.i64_in _ (by omega)
          have i4 : 0 ≤ (k : Int) + 1 := by omega
          have i2 : ((k : Int) + 1).tmod 24 = (k : Int) + 1 := by rw [Int.tmod_eq_emod_of_nonneg (by omega)]; omega
          have i6 : ((k : Int) + 1) % 24 = (k : Int) + 1 := by omega
          have i3 : ((k : Int) + 1).toNat = k + 1 := by omega
          have i5 : (k : Int) + 1 < 24 := by omega
          refine wp_region_held_drew (S := (fun w' => w'.heap[wr.heap.size]? = some (.cells #[.int .i64 (lnE l ((k : Int) - 12)), .int .i64 (lnN ((k : Int) - 12))] 30) ∧ w'.heap[B]? = some (.cells #[.int .i64 e, .int .i64 n] 30) ∧ SOwn encWay w' w.heap.size 30 (some ⟨g, 0, none⟩) cap (lnsTo l 24) ∧ Below w.heap.size w w')) (by kernel_rfl) ⟨blk_new wr _, blk_old hCr _, hOr.alloc _, (hBr.alloc hBr.size _).drew⟩ (fun hHeld => ?_)
          obtain ⟨hL_0, hC_0, hO_0, hB_0⟩ := id hHeld
          refine wpAnyH_take (i := 0) (oi := _) (v := ?_) rfl (by kernel_rfl) (by kernel_rfl) (by kernel_rfl) (fun _ _ _ h => h) (Or.inl ⟨by rfl, ?_⟩) (by assumption) ?_
          (rotate_left); (focus (intro wv hSw; (obtain ⟨qL, qC, qO, qB⟩ := hSw);  go_simp; (try with_reducible rfl)))
          try simp only [Act.put, List.getElem_toArray, List.getElem_cons_succ, List.getElem_cons_zero, List.setIfInBounds_toArray, List.set_cons_zero, List.set_cons_succ]
          refine wpAnyH_take (i := 1) (oi := _) (v := ?_) rfl (by kernel_rfl) (by kernel_rfl) (by kernel_rfl) (fun _ _ _ h => h) (Or.inl ⟨by rfl, ?_⟩) (by assumption) ?_
          (rotate_left); (focus (intro wv hSw; (obtain ⟨qL, qC, qO, qB⟩ := hSw); obtain ⟨u0, u1, _, _, _⟩ := blk2 qL; go_simp; (try with_reducible rfl)))
          try simp only [Act.put, List.getElem_toArray, List.getElem_cons_succ, List.getElem_cons_zero, List.setIfInBounds_toArray, List.set_cons_zero, List.set_cons_succ]
          refine wpAnyH_take (i := 2) (oi := _) (v := ?_) rfl (by kernel_rfl) (by kernel_rfl) (by kernel_rfl) (fun _ _ _ h => h) (Or.inl ⟨by rfl, ?_⟩) (by assumption) ?_
          (rotate_left); (focus (intro wv hSw; (obtain ⟨qL, qC, qO, qB⟩ := hSw);  go_simp; (try with_reducible rfl)))
          try simp only [Act.put, List.getElem_toArray, List.getElem_cons_succ, List.getElem_cons_zero, List.setIfInBounds_toArray, List.set_cons_zero, List.set_cons_succ]
          refine wpAnyH_take (i := 3) (oi := _) (v := ?_) rfl (by kernel_rfl) (by kernel_rfl) (by kernel_rfl) (fun _ _ _ h => h) (Or.inl ⟨by rfl, ?_⟩) (by assumption) ?_
          (rotate_left); (focus (intro wv hSw; (obtain ⟨qL, qC, qO, qB⟩ := hSw);  go_simp; (try with_reducible rfl)))
          try simp only [Act.put, List.getElem_toArray, List.getElem_cons_succ, List.getElem_cons_zero, List.setIfInBounds_toArray, List.set_cons_zero, List.set_cons_succ]
          refine wpAnyH_take (i := 4) (oi := _) (v := ?_) rfl (by kernel_rfl) (by kernel_rfl) (by kernel_rfl) (fun _ _ _ h => h) (Or.inl ⟨by rfl, ?_⟩) (by assumption) ?_
          (rotate_left); (focus (intro wv hSw; (obtain ⟨qL, qC, qO, qB⟩ := hSw);  go_simp; (try with_reducible rfl)))
          try simp only [Act.put, List.getElem_toArray, List.getElem_cons_succ, List.getElem_cons_zero, List.setIfInBounds_toArray, List.set_cons_zero, List.set_cons_succ]
          refine wpAnyH_take (i := 5) (oi := _) (v := ?_) rfl (by kernel_rfl) (by kernel_rfl) (by kernel_rfl) (fun _ _ _ h => h) (Or.inl ⟨by rfl, ?_⟩) (by assumption) ?_
          (rotate_left); (focus (intro wv hSw; (obtain ⟨qL, qC, qO, qB⟩ := hSw);  go_simp; (try with_reducible rfl)))
          try simp only [Act.put, List.getElem_toArray, List.getElem_cons_succ, List.getElem_cons_zero, List.setIfInBounds_toArray, List.set_cons_zero, List.set_cons_succ]
          refine wpAnyH_take (i := 6) (oi := _) (v := ?_) rfl (by kernel_rfl) (by kernel_rfl) (by kernel_rfl) (fun _ _ _ h => h) (Or.inl ⟨by rfl, ?_⟩) (by assumption) ?_
          (rotate_left); (focus (intro wv hSw; (obtain ⟨qL, qC, qO, qB⟩ := hSw);  go_simp; (try with_reducible rfl)))
          try simp only [Act.put, List.getElem_toArray, List.getElem_cons_succ, List.getElem_cons_zero, List.setIfInBounds_toArray, List.set_cons_zero, List.set_cons_succ]
          refine wpAnyH_take (i := 7) (oi := _) (v := ?_) rfl (by kernel_rfl) (by kernel_rfl) (by kernel_rfl) (fun _ _ _ h => h) (Or.inl ⟨by rfl, ?_⟩) (by assumption) ?_
          (rotate_left); (focus (intro wv hSw; (obtain ⟨qL, qC, qO, qB⟩ := hSw);  go_simp; (try with_reducible rfl)))
          try simp only [Act.put, List.getElem_toArray, List.getElem_cons_succ, List.getElem_cons_zero, List.setIfInBounds_toArray, List.set_cons_zero, List.set_cons_succ]
          refine wpAnyH_take (i := 8) (oi := _) (v := ?_) rfl (by kernel_rfl) (by kernel_rfl) (by kernel_rfl) (fun _ _ _ h => h) (Or.inl ⟨by rfl, ?_⟩) (by assumption) ?_
          (rotate_left); (focus (intro wv hSw; (obtain ⟨qL, qC, qO, qB⟩ := hSw);  go_simp; (try with_reducible rfl)))
          try simp only [Act.put, List.getElem_toArray, List.getElem_cons_succ, List.getElem_cons_zero, List.setIfInBounds_toArray, List.set_cons_zero, List.set_cons_succ]
          refine wpAnyH_take (i := 9) (oi := _) (v := ?_) rfl (by kernel_rfl) (by kernel_rfl) (by kernel_rfl) (fun _ _ _ h => h) (Or.inl ⟨by rfl, ?_⟩) (by assumption) ?_
          (rotate_left); (focus (intro wv hSw; (obtain ⟨qL, qC, qO, qB⟩ := hSw); obtain ⟨u0, u1⟩ := ownWay qO (i := k + 1) (by rw [lnsTo_len]; omega); simp only [lnsTo_at] at u0 u1; go_simp; (try with_reducible rfl)))
          try simp only [Act.put, List.getElem_toArray, List.getElem_cons_succ, List.getElem_cons_zero, List.setIfInBounds_toArray, List.set_cons_zero, List.set_cons_succ]
          refine wpAnyH_ready (rs := [10]) (by kernel_rfl) (by simp) ?_
          refine AllReadyH.cons (o := _) rfl (fun K hK => ?_) AllReadyH.nil
          go_simp
          (go_at_call 59; refine (hb1_is _ hC_0 HP.out).mono ?_; rintro e x0c ⟨rfl, hw_0c⟩)
          refine hK.out _ _ ⟨blk_next hL_0 hw_0c, blk_next hC_0 hw_0c, hO_0.next hw_0c, bel_next hB_0 hw_0c⟩ (fun hHeld => ?_)
          clear hK K
          try simp only [Act.put, List.getElem_toArray, List.getElem_cons_succ, List.getElem_cons_zero, List.setIfInBounds_toArray, List.set_cons_zero, List.set_cons_succ]
          obtain ⟨hL_0c, hC_0c, hO_0c, hB_0c⟩ := id hHeld
          refine wpAnyH_done (by kernel_rfl) ?_ _
          go_wp2_with fail
          go_ret
          exact ⟨_, rfl, .inl ⟨by omega, by omega, by have := HPK.out; rwa [show ((-12 : Int) + (k : Int)) = (k : Int) - 12 by omega], fun j j0 j1 => HN.out j j0 (by omega)⟩, hB_0c⟩
      · obtain ⟨q, hq⟩ : ∃ q, hbW (lnE l ((k : Int) - 12)) (lnN ((k : Int) - 12)) (lnE l (-12)) (lnN (-12)) e n = q := ⟨_, rfl⟩
        have HPK : Hid (hbP l e n ((k : Int) - 12) = q) := by show _ = _; rw [hbP_W HL.out HG.out, nx_hi (by omega)]; exact hq
        have HP := Lib.hid hq
        clear hq
        cases q
        · go_wp2_with fail
          have i1 : IntKind.i64.wrap ((k : Int) + 1) = (k : Int) + 1 := IntWalk.i64_in _ (by omega)
          have i4 : 0 ≤ (k : Int) + 1 := by omega
          have i2 : ((k : Int) + 1).tmod 24 = 0 := by rw [Int.tmod_eq_emod_of_nonneg (by omega)]; omega
          have i6 : ((k : Int) + 1) % 24 = 0 := by omega
          refine wp_region_held_drew (S := (fun w' => w'.heap[wr.heap.size]? = some (.cells #[.int .i64 (lnE l ((k : Int) - 12)), .int .i64 (lnN ((k : Int) - 12))] 30) ∧ w'.heap[B]? = some (.cells #[.int .i64 e, .int .i64 n] 30) ∧ SOwn encWay w' w.heap.size 30 (some ⟨g, 0, none⟩) cap (lnsTo l 24) ∧ Below w.heap.size w w')) (by kernel_rfl) ⟨blk_new wr _, blk_old hCr _, hOr.alloc _, (hBr.alloc hBr.size _).drew⟩ (fun hHeld => ?_)
          obtain ⟨hL_0, hC_0, hO_0, hB_0⟩ := id hHeld
          refine wpAnyH_take (i := 0) (oi := _) (v := ?_) rfl (by kernel_rfl) (by kernel_rfl) (by kernel_rfl) (fun _ _ _ h => h) (Or.inl ⟨by rfl, ?_⟩) (by assumption) ?_
          (rotate_left); (focus (intro wv hSw; (obtain ⟨qL, qC, qO, qB⟩ := hSw);  go_simp; (try with_reducible rfl)))
          try simp only [Act.put, List.getElem_toArray, List.getElem_cons_succ, List.getElem_cons_zero, List.setIfInBounds_toArray, List.set_cons_zero, List.set_cons_succ]
          refine wpAnyH_take (i := 1) (oi := _) (v := ?_) rfl (by kernel_rfl) (by kernel_rfl) (by kernel_rfl) (fun _ _ _ h => h) (Or.inl ⟨by rfl, ?_⟩) (by assumption) ?_
          (rotate_left); (focus (intro wv hSw; (obtain ⟨qL, qC, qO, qB⟩ := hSw); obtain ⟨u0, u1, _, _, _⟩ := blk2 qL; go_simp; (try with_reducible rfl)))
          try simp only [Act.put, List.getElem_toArray, List.getElem_cons_succ, List.getElem_cons_zero, List.setIfInBounds_toArray, List.set_cons_zero, List.set_cons_succ]
          refine wpAnyH_take (i := 2) (oi := _) (v := ?_) rfl (by kernel_rfl) (by kernel_rfl) (by kernel_rfl) (fun _ _ _ h => h) (Or.inl ⟨by rfl, ?_⟩) (by assumption) ?_
          (rotate_left); (focus (intro wv hSw; (obtain ⟨qL, qC, qO, qB⟩ := hSw);  go_simp; (try with_reducible rfl)))
          try simp only [Act.put, List.getElem_toArray, List.getElem_cons_succ, List.getElem_cons_zero, List.setIfInBounds_toArray, List.set_cons_zero, List.set_cons_succ]
          refine wpAnyH_take (i := 3) (oi := _) (v := ?_) rfl (by kernel_rfl) (by kernel_rfl) (by kernel_rfl) (fun _ _ _ h => h) (Or.inl ⟨by rfl, ?_⟩) (by assumption) ?_
          (rotate_left); (focus (intro wv hSw; (obtain ⟨qL, qC, qO, qB⟩ := hSw);  go_simp; (try with_reducible rfl)))
          try simp only [Act.put, List.getElem_toArray, List.getElem_cons_succ, List.getElem_cons_zero, List.setIfInBounds_toArray, List.set_cons_zero, List.set_cons_succ]
          refine wpAnyH_take (i := 4) (oi := _) (v := ?_) rfl (by kernel_rfl) (by kernel_rfl) (by kernel_rfl) (fun _ _ _ h => h) (Or.inl ⟨by rfl, ?_⟩) (by assumption) ?_
          (rotate_left); (focus (intro wv hSw; (obtain ⟨qL, qC, qO, qB⟩ := hSw);  go_simp; (try with_reducible rfl)))
          try simp only [Act.put, List.getElem_toArray, List.getElem_cons_succ, List.getElem_cons_zero, List.setIfInBounds_toArray, List.set_cons_zero, List.set_cons_succ]
          refine wpAnyH_take (i := 5) (oi := _) (v := ?_) rfl (by kernel_rfl) (by kernel_rfl) (by kernel_rfl) (fun _ _ _ h => h) (Or.inl ⟨by rfl, ?_⟩) (by assumption) ?_
          (rotate_left); (focus (intro wv hSw; (obtain ⟨qL, qC, qO, qB⟩ := hSw);  go_simp; (try with_reducible rfl)))
          try simp only [Act.put, List.getElem_toArray, List.getElem_cons_succ, List.getElem_cons_zero, List.setIfInBounds_toArray, List.set_cons_zero, List.set_cons_succ]
          refine wpAnyH_take (i := 6) (oi := _) (v := ?_) rfl (by kernel_rfl) (by kernel_rfl) (by kernel_rfl) (fun _ _ _ h => h) (Or.inl ⟨by rfl, ?_⟩) (by assumption) ?_
          (rotate_left); (focus (intro wv hSw; (obtain ⟨qL, qC, qO, qB⟩ := hSw);  go_simp; (try with_reducible rfl)))
          try simp only [Act.put, List.getElem_toArray, List.getElem_cons_succ, List.getElem_cons_zero, List.setIfInBounds_toArray, List.set_cons_zero, List.set_cons_succ]
          refine wpAnyH_take (i := 7) (oi := _) (v := ?_) rfl (by kernel_rfl) (by kernel_rfl) (by kernel_rfl) (fun _ _ _ h => h) (Or.inl ⟨by rfl, ?_⟩) (by assumption) ?_
          (rotate_left); (focus (intro wv hSw; (obtain ⟨qL, qC, qO, qB⟩ := hSw);  go_simp; (try with_reducible rfl)))
          try simp only [Act.put, List.getElem_toArray, List.getElem_cons_succ, List.getElem_cons_zero, List.setIfInBounds_toArray, List.set_cons_zero, List.set_cons_succ]
          refine wpAnyH_take (i := 8) (oi := _) (v := ?_) rfl (by kernel_rfl) (by kernel_rfl) (by kernel_rfl) (fun _ _ _ h => h) (Or.inl ⟨by rfl, ?_⟩) (by assumption) ?_
          (rotate_left); (focus (intro wv hSw; (obtain ⟨qL, qC, qO, qB⟩ := hSw);  go_simp; (try with_reducible rfl)))
          try simp only [Act.put, List.getElem_toArray, List.getElem_cons_succ, List.getElem_cons_zero, List.setIfInBounds_toArray, List.set_cons_zero, List.set_cons_succ]
          refine wpAnyH_take (i := 9) (oi := _) (v := ?_) rfl (by kernel_rfl) (by kernel_rfl) (by kernel_rfl) (fun _ _ _ h => h) (Or.inl ⟨by rfl, ?_⟩) (by assumption) ?_
          (rotate_left); (focus (intro wv hSw; (obtain ⟨qL, qC, qO, qB⟩ := hSw); obtain ⟨u0, u1⟩ := ownWay qO (i := 0) (by rw [lnsTo_len]; omega); simp [lnsTo_at] at u0 u1; go_simp; (try with_reducible rfl)))
          try simp only [Act.put, List.getElem_toArray, List.getElem_cons_succ, List.getElem_cons_zero, List.setIfInBounds_toArray, List.set_cons_zero, List.set_cons_succ]
          refine wpAnyH_ready (rs := [10]) (by kernel_rfl) (by simp) ?_
          refine AllReadyH.cons (o := _) rfl (fun K hK => ?_) AllReadyH.nil
          go_simp
          (go_at_call 59; refine (hb1_is _ hC_0 HP.out).mono ?_; rintro e x0c ⟨rfl, hw_0c⟩)
          refine hK.out _ _ ⟨blk_next hL_0 hw_0c, blk_next hC_0 hw_0c, hO_0.next hw_0c, bel_next hB_0 hw_0c⟩ (fun hHeld => ?_)
          clear hK K
          try simp only [Act.put, List.getElem_toArray, List.getElem_cons_succ, List.getElem_cons_zero, List.setIfInBounds_toArray, List.set_cons_zero, List.set_cons_succ]
          obtain ⟨hL_0c, hC_0c, hO_0c, hB_0c⟩ := id hHeld
          refine wpAnyH_done (by kernel_rfl) ?_ _
          clear i1 i2 i4 i6
          go_wp2_with fail
          go_roundw
          case rel => exact ⟨k + 1, by go_num, by omega, Lib.hid (fun j j0 j1 => by by_cases g : j < (k : Int) - 12; exact HN.out j j0 g; rw [show j = (k : Int) - 12 by omega]; exact HPK.out), hO_0c, hC_0c, hB_0c⟩
          case measure => simp [intOf]; omega
        · go_wp2_with fail
          have i1 : IntKind.i64.wrap ((k : Int) + 1) = (k : Int) + 1 := IntWalk.i64_in _ (by omega)
          have i4 : 0 ≤ (k : Int) + 1 := by omega
          have i2 : ((k : Int) + 1).tmod 24 = 0 := by rw [Int.tmod_eq_emod_of_nonneg (by omega)]; omega
          have i6 : ((k : Int) + 1) % 24 = 0 := by omega
          refine wp_region_held_drew (S := (fun w' => w'.heap[wr.heap.size]? = some (.cells #[.int .i64 (lnE l ((k : Int) - 12)), .int .i64 (lnN ((k : Int) - 12))] 30) ∧ w'.heap[B]? = some (.cells #[.int .i64 e, .int .i64 n] 30) ∧ SOwn encWay w' w.heap.size 30 (some ⟨g, 0, none⟩) cap (lnsTo l 24) ∧ Below w.heap.size w w')) (by kernel_rfl) ⟨blk_new wr _, blk_old hCr _, hOr.alloc _, (hBr.alloc hBr.size _).drew⟩ (fun hHeld => ?_)
          obtain ⟨hL_0, hC_0, hO_0, hB_0⟩ := id hHeld
          refine wpAnyH_take (i := 0) (oi := _) (v := ?_) rfl (by kernel_rfl) (by kernel_rfl) (by kernel_rfl) (fun _ _ _ h => h) (Or.inl ⟨by rfl, ?_⟩) (by assumption) ?_
          (rotate_left); (focus (intro wv hSw; (obtain ⟨qL, qC, qO, qB⟩ := hSw);  go_simp; (try with_reducible rfl)))
          try simp only [Act.put, List.getElem_toArray, List.getElem_cons_succ, List.getElem_cons_zero, List.setIfInBounds_toArray, List.set_cons_zero, List.set_cons_succ]
          refine wpAnyH_take (i := 1) (oi := _) (v := ?_) rfl (by kernel_rfl) (by kernel_rfl) (by kernel_rfl) (fun _ _ _ h => h) (Or.inl ⟨by rfl, ?_⟩) (by assumption) ?_
          (rotate_left); (focus (intro wv hSw; (obtain ⟨qL, qC, qO, qB⟩ := hSw); obtain ⟨u0, u1, _, _, _⟩ := blk2 qL; go_simp; (try with_reducible rfl)))
          try simp only [Act.put, List.getElem_toArray, List.getElem_cons_succ, List.getElem_cons_zero, List.setIfInBounds_toArray, List.set_cons_zero, List.set_cons_succ]
          refine wpAnyH_take (i := 2) (oi := _) (v := ?_) rfl (by kernel_rfl) (by kernel_rfl) (by kernel_rfl) (fun _ _ _ h => h) (Or.inl ⟨by rfl, ?_⟩) (by assumption) ?_
          (rotate_left); (focus (intro wv hSw; (obtain ⟨qL, qC, qO, qB⟩ := hSw);  go_simp; (try with_reducible rfl)))
          try simp only [Act.put, List.getElem_toArray, List.getElem_cons_succ, List.getElem_cons_zero, List.setIfInBounds_toArray, List.set_cons_zero, List.set_cons_succ]
          refine wpAnyH_take (i := 3) (oi := _) (v := ?_) rfl (by kernel_rfl) (by kernel_rfl) (by kernel_rfl) (fun _ _ _ h => h) (Or.inl ⟨by rfl, ?_⟩) (by assumption) ?_
          (rotate_left); (focus (intro wv hSw; (obtain ⟨qL, qC, qO, qB⟩ := hSw);  go_simp; (try with_reducible rfl)))
          try simp only [Act.put, List.getElem_toArray, List.getElem_cons_succ, List.getElem_cons_zero, List.setIfInBounds_toArray, List.set_cons_zero, List.set_cons_succ]
          refine wpAnyH_take (i := 4) (oi := _) (v := ?_) rfl (by kernel_rfl) (by kernel_rfl) (by kernel_rfl) (fun _ _ _ h => h) (Or.inl ⟨by rfl, ?_⟩) (by assumption) ?_
          (rotate_left); (focus (intro wv hSw; (obtain ⟨qL, qC, qO, qB⟩ := hSw);  go_simp; (try with_reducible rfl)))
          try simp only [Act.put, List.getElem_toArray, List.getElem_cons_succ, List.getElem_cons_zero, List.setIfInBounds_toArray, List.set_cons_zero, List.set_cons_succ]
          refine wpAnyH_take (i := 5) (oi := _) (v := ?_) rfl (by kernel_rfl) (by kernel_rfl) (by kernel_rfl) (fun _ _ _ h => h) (Or.inl ⟨by rfl, ?_⟩) (by assumption) ?_
          (rotate_left); (focus (intro wv hSw; (obtain ⟨qL, qC, qO, qB⟩ := hSw);  go_simp; (try with_reducible rfl)))
          try simp only [Act.put, List.getElem_toArray, List.getElem_cons_succ, List.getElem_cons_zero, List.setIfInBounds_toArray, List.set_cons_zero, List.set_cons_succ]
          refine wpAnyH_take (i := 6) (oi := _) (v := ?_) rfl (by kernel_rfl) (by kernel_rfl) (by kernel_rfl) (fun _ _ _ h => h) (Or.inl ⟨by rfl, ?_⟩) (by assumption) ?_
          (rotate_left); (focus (intro wv hSw; (obtain ⟨qL, qC, qO, qB⟩ := hSw);  go_simp; (try with_reducible rfl)))
          try simp only [Act.put, List.getElem_toArray, List.getElem_cons_succ, List.getElem_cons_zero, List.setIfInBounds_toArray, List.set_cons_zero, List.set_cons_succ]
          refine wpAnyH_take (i := 7) (oi := _) (v := ?_) rfl (by kernel_rfl) (by kernel_rfl) (by kernel_rfl) (fun _ _ _ h => h) (Or.inl ⟨by rfl, ?_⟩) (by assumption) ?_
          (rotate_left); (focus (intro wv hSw; (obtain ⟨qL, qC, qO, qB⟩ := hSw);  go_simp; (try with_reducible rfl)))
          try simp only [Act.put, List.getElem_toArray, List.getElem_cons_succ, List.getElem_cons_zero, List.setIfInBounds_toArray, List.set_cons_zero, List.set_cons_succ]
          refine wpAnyH_take (i := 8) (oi := _) (v := ?_) rfl (by kernel_rfl) (by kernel_rfl) (by kernel_rfl) (fun _ _ _ h => h) (Or.inl ⟨by rfl, ?_⟩) (by assumption) ?_
          (rotate_left); (focus (intro wv hSw; (obtain ⟨qL, qC, qO, qB⟩ := hSw);  go_simp; (try with_reducible rfl)))
          try simp only [Act.put, List.getElem_toArray, List.getElem_cons_succ, List.getElem_cons_zero, List.setIfInBounds_toArray, List.set_cons_zero, List.set_cons_succ]
          refine wpAnyH_take (i := 9) (oi := _) (v := ?_) rfl (by kernel_rfl) (by kernel_rfl) (by kernel_rfl) (fun _ _ _ h => h) (Or.inl ⟨by rfl, ?_⟩) (by assumption) ?_
          (rotate_left); (focus (intro wv hSw; (obtain ⟨qL, qC, qO, qB⟩ := hSw); obtain ⟨u0, u1⟩ := ownWay qO (i := 0) (by rw [lnsTo_len]; omega); simp [lnsTo_at] at u0 u1; go_simp; (try with_reducible rfl)))
          try simp only [Act.put, List.getElem_toArray, List.getElem_cons_succ, List.getElem_cons_zero, List.setIfInBounds_toArray, List.set_cons_zero, List.set_cons_succ]
          refine wpAnyH_ready (rs := [10]) (by kernel_rfl) (by simp) ?_
          refine AllReadyH.cons (o := _) rfl (fun K hK => ?_) AllReadyH.nil
          go_simp
          (go_at_call 59; refine (hb1_is _ hC_0 HP.out).mono ?_; rintro e x0c ⟨rfl, hw_0c⟩)
          refine hK.out _ _ ⟨blk_next hL_0 hw_0c, blk_next hC_0 hw_0c, hO_0.next hw_0c, bel_next hB_0 hw_0c⟩ (fun hHeld => ?_)
          clear hK K
          try simp only [Act.put, List.getElem_toArray, List.getElem_cons_succ, List.getElem_cons_zero, List.setIfInBounds_toArray, List.set_cons_zero, List.set_cons_succ]
          obtain ⟨hL_0c, hC_0c, hO_0c, hB_0c⟩ := id hHeld
          refine wpAnyH_done (by kernel_rfl) ?_ _
          go_wp2_with fail
          go_ret
          exact ⟨_, rfl, .inl ⟨by omega, by omega, by have := HPK.out; rwa [show ((-12 : Int) + (k : Int)) = (k : Int) - 12 by omega], fun j j0 j1 => HN.out j j0 (by omega)⟩, hB_0c⟩
    · have hk : k = 24 := by omega
      have HK := Lib.hid hk
      clear hk
      go_wp2_with fail
      go_ret
      exact ⟨12, rfl, .inr ⟨rfl, fun j j0 j1 => HN.out j j0 (by have := HK.out; omega)⟩, hBr⟩
set_option maxHeartbeats 1000000 in
theorem wb_f (l e n : Int) (B : Nat) (w : World) (hl : laB l = false) : Calls Try.prog 54 #[.iface 52 (.int .i64 l), .func (.func 59) #[] #[.pointer (some ⟨B, 0, none⟩)]] w fun e' w' => e' = .returned (.int .i64 12) ∧ Below w.heap.size w w' := by
  have HL := Lib.hid hl
  clear hl
  go_enter Try.func54, Try.ntmps54
  go_wp2_with fail
  refine (lysOn_f _ _ HL.out).mono ?_; rintro e' w1 ⟨A, cap, rfl, hB⟩
  go_wp2_with fail
  go_loopw [12] (fun v wr => v = .int .i64 0 ∧ Below w.heap.size w wr) (fun v _ => 0)
  case atStart => exact ⟨rfl, hB⟩
  case round =>
    obtain ⟨rfl, hBr⟩ := hrel
    go_wp2_with fail
    go_ret
    exact ⟨rfl, hBr⟩
end Go.Proofs.Ytgbelpkhfaajoab
