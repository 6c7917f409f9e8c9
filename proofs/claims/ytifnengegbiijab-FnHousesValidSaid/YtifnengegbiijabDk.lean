/- What the laws of houses and outlines draw. -/
import Derived.Test.YtifnengegbiijabDj
import Derived.Test.YtifnengegbiijabGNum
namespace Go.Proofs.Ytifnengegbiijab
open Go Go.ChangeShapes Go.WideShapes Go.ChangeAt Go.RowKit
set_option linter.unusedSimpArgs false
set_option linter.unusedVariables false

def EdgesIs (B : Nat) (u : Int) (w : World) (e : Ending) (w' : World) : Prop :=
  ∃ (xs : List VEdge) (A : Option Addr) (cap : Nat), e = .returned (.slice A xs.length cap) ∧ xs.length ≤ 82 ∧ SOwn encEdge w' w.heap.size 48 A cap xs ∧ RdU B u w' ∧ Ext B w w'
set_option maxRecDepth 100000 in
set_option maxHeartbeats 8000000 in
theorem outline_any (B : Nat) (u n : Int) (w : World) (h : RdU B u w) (hu : u ≤ 600000) (hn : 0 ≤ n) (hn1 : n ≤ 1000000) : Calls Try.prog 47 #[.pointer (some ⟨B, 0, none⟩), .int .i64 n] w (EdgesIs B (u + 23) w) := by
  have hBw := h.lt
  obtain ⟨i0, hi0, hz0, hz1, hz2⟩ := info_parts infoEdge
  have HI := Lib.hid (And.intro hi0 (And.intro hz0 (And.intro hz1 hz2)))
  clear hi0 hz0 hz1 hz2
  go_enter Try.func47, Try.ntmps47
  go_wp2_with fail
  refine (houses_any B u 0 _ h (by omega) (by omega) (by omega)).mono ?_; rintro e w1 ⟨hs, AH, cH, rfl, hh7, hO1, h1, hx1⟩
  go_wp2_with fail
  refine (sOo_some AH cH hs _ rfl hO1.row (by omega)).mono ?_; rintro e w2 ⟨g, cp, rfl, hO2, hb2⟩
  have hX2 := hx1.of_below hb2
  have h2 := h1.next hb2
  have hO2 := hO2.mono hx1.size
  have hlen := ooL_len hs
  revert hO2 hlen
  generalize ooL hs = xs
  intro hO2 hlen
  obtain ⟨m, hm⟩ : ∃ m, xs.length = m := ⟨_, rfl⟩
  rw [hm] at hlen
  have HM := Lib.hid hm
  rw [hm]
  clear hm hO1 hh7
  have hg2 := hO2.form
  have hgb : w.heap.size ≤ g := by rcases hg2 with ⟨e, _⟩ | ⟨g9, e, h9, _⟩; cases e; cases e; exact h9
  clear hg2
  go_wp2_with fail
  refine (odd0_any B _ n _ h2 (by omega) hn hn1).mono ?_; rintro e w3 ⟨b, rfl, h3, hx3⟩
  have hO3 := hO2.extK hx3 hBw
  have hX3 := hX2.trans hx3
  cases b
  · go_wp2_with fail
    go_ret
    exact ⟨xs, _, cp, (by rw [HM.out]; rfl), (by rw [HM.out]; omega), hO3, h3.mono (by omega), hX3⟩
  · go_wp2_with fail
    refine (pick_any B _ 3 _ h3 (by omega) (by omega) (by omega)).mono ?_; rintro e w4 ⟨j, rfl, j0, j1, h4, hx4⟩
    have hO4 := hO3.extK hx4 hBw
    have hX4 := hX3.trans hx4
    have hz4 := hX4.size
    have hB4 := h4.lt
    have hgl : g < w4.heap.size := by rcases hO4.form with ⟨e, _⟩ | ⟨g9, e, _, h9⟩; cases e; cases e; exact h9
    by_cases c : j = 0
    · subst c
      go_wp2_with (at_builtin; refine wpList_append_lies _ rfl (.tmp 19) (.tmp 21) _ rfl w.heap.size 48 i0 _ 2 16 Try.underlying39 HI.out.1 HI.out.2.1 HI.out.2.2.1 HI.out.2.2.2 rfl (by omega) (.slice (some ⟨g, 0, none⟩) m cp) m (encEdge.flat xs) rfl (by have q := hO4.alloc (.cells (encEdge.enc (40, 3)).toArray 48); unfold SOwn at q; rw [HM.out] at q; exact q) ⟨w4.heap.size, 0, none⟩ 1 1 (encEdge.enc (40, 3)) rfl rfl (new_enc (E := encEdge) w4 (40, 3) _) (encEdge.one _) (by omega) (by simp only [maxLen]; omega) (by omega) (by simp; omega) _ rfl ?_; intro g5 cap5 w6 hown5 hgr5 hat5 hlt5)
      have hne : ∀ k, Value.ownBlock (.slice (some ⟨g, 0, none⟩) m cp) = some k → B < k := fun k hk => by simp [Value.ownBlock] at hk; omega
      go_wp2_with fail
      go_ret
      exact ⟨xs ++ [(40, 3)], some ⟨g5, 0, none⟩, cap5, (by rw [List.length_append, HM.out]; rfl), (by rw [List.length_append, HM.out]; simp; omega), SOwn.snoc (E := encEdge) (by rw [HM.out]; exact hown5), ((h4.alloc (.cells (encEdge.enc (40, 3)).toArray 48)).farK hgr5 hne).mono (by omega), (hX4.alloc (.cells (encEdge.enc (40, 3)).toArray 48)).far_grownK hgr5 (fun k hk => by simp [Value.ownBlock] at hk; omega)⟩
    · have e0 : (j == 0) = false := by rw [beq_eq_false_iff_ne]; omega
      by_cases d : j = 1
      · subst d
        clear c
        have hL : SOwn encEdge (w4.alloc (.cells (encEdge.enc (0, 0)).toArray 48)) w.heap.size 48 (some ⟨w4.heap.size, 0, none⟩) 1 [(0, 0)] := SOwn.of_blk (E := encEdge) (xs := [(0, 0)]) (blk_new w4 (.cells (encEdge.enc (0, 0)).toArray 48)) hz4 rfl (by unfold maxLen; omega)
        have hO_d := hO4.alloc (.cells (encEdge.enc (0, 0)).toArray 48)
        have hz9 : w.heap.size ≤ (w4.alloc (.cells (encEdge.enc (0, 0)).toArray 48)).heap.size := by simp; omega
        go_wp2_with (at_builtin; refine wpList_append_own _ rfl (.tmp 26) (.tmp 27) _ rfl w.heap.size 48 i0 _ 2 16 Try.underlying39 HI.out.1 HI.out.2.1 HI.out.2.2.1 HI.out.2.2.2 rfl (by omega) (.slice (some ⟨w4.heap.size, 0, none⟩) 1 1) 1 (encEdge.flat [(0, 0)]) rfl hL ⟨g, 0, none⟩ m cp (encEdge.flat xs) rfl (by rw [encEdge.flat_len, HM.out]; rfl) (SRow.newsK hO_d.row) (encEdge.flat_one _) (by simp only [maxLen]; omega) (by omega) hz9 ?_; intro v9 w9 hown9 hgr9 hnil9)
        obtain ⟨A9, cap9, rfl⟩ := own_valK hown9
        have hne : ∀ k, Value.ownBlock (.slice (some ⟨w4.heap.size, 0, none⟩) 1 1) = some k → B < k := fun k hk => by simp [Value.ownBlock] at hk; omega
        go_wp2_with fail
        go_ret
        exact ⟨(0, 0) :: xs, A9, cap9, (by simp [HM.out]; try omega), (by simp [HM.out]; try omega), SOwn.of_raw (E := encEdge) hown9 (by rw [encEdge.flat_cons]; simp [Enc.flat]) (by simp [HM.out]; try omega), ((h4.alloc (.cells (encEdge.enc (0, 0)).toArray 48)).farK hgr9 hne).mono (by omega), (hX4.alloc (.cells (encEdge.enc (0, 0)).toArray 48)).far_grownK hgr9 (fun k hk => by simp [Value.ownBlock] at hk; omega)⟩
      · have e1 : (j == 1) = false := by rw [beq_eq_false_iff_ne]; omega
        clear c d
        go_wp2_with (at_builtin; refine wpList_append_own _ rfl (.tmp 14) (.tmp 15) _ rfl w.heap.size 48 i0 _ 2 16 Try.underlying39 HI.out.1 HI.out.2.1 HI.out.2.2.1 HI.out.2.2.2 rfl (by omega) (.slice (some ⟨g, 0, none⟩) m cp) m (encEdge.flat xs) rfl (by have q := hO4; unfold SOwn at q; rw [HM.out] at q; exact q) ⟨g, 0, none⟩ m cp (encEdge.flat xs) rfl (by rw [encEdge.flat_len, HM.out]; rfl) (SRow.newsK hO4.row) (encEdge.flat_one _) (by simp only [maxLen]; omega) (by omega) hz4 ?_; intro v9 w9 hown9 hgr9 hnil9)
        obtain ⟨A9, cap9, rfl⟩ := own_valK hown9
        have hne : ∀ k, Value.ownBlock (.slice (some ⟨g, 0, none⟩) m cp) = some k → B < k := fun k hk => by simp [Value.ownBlock] at hk; omega
        go_wp2_with fail
        go_ret
        exact ⟨xs ++ xs, A9, cap9, (by simp [HM.out]; try omega), (by simp [HM.out]; try omega), SOwn.of_raw (E := encEdge) hown9 (by rw [encEdge.flat_app]) (by simp [HM.out]; try omega), (h4.farK hgr9 hne).mono (by omega), hX4.far_grownK hgr9 (fun k hk => by simp [Value.ownBlock] at hk; omega)⟩
def DrewHouses (w : World) (e : Ending) (w' : World) : Prop := ∃ (xs : List VHouse) (A : Option Addr) (cap : Nat), e = .returned (.slice A xs.length cap) ∧ xs.length ≤ 7 ∧ SOwn encHouse w' w.heap.size 35 A cap xs ∧ Below w.heap.size w w'
def DrewHousesP (w : World) (e : Ending) (w' : World) : Prop := ∃ (xs : List VHouse) (A : Option Addr) (cap : Nat) (p : Int), e = .returned (.tuple #[.slice A xs.length cap, .int .i64 p]) ∧ xs.length ≤ 7 ∧ (-2 ≤ p ∧ p ≤ 41) ∧ SOwn encHouse w' w.heap.size 35 A cap xs ∧ Below w.heap.size w w'
def DrewEdges (w : World) (e : Ending) (w' : World) : Prop := ∃ (xs : List VEdge) (A : Option Addr) (cap : Nat), e = .returned (.slice A xs.length cap) ∧ xs.length ≤ 82 ∧ SOwn encEdge w' w.heap.size 48 A cap xs ∧ Below w.heap.size w w'
def DrewEdgesP (w : World) (e : Ending) (w' : World) : Prop := ∃ (xs : List VEdge) (A : Option Addr) (cap : Nat) (p : Int), e = .returned (.tuple #[.slice A xs.length cap, .int .i64 p]) ∧ xs.length ≤ 82 ∧ (-2 ≤ p ∧ p ≤ 41) ∧ SOwn encEdge w' w.heap.size 48 A cap xs ∧ Below w.heap.size w w'
def DrewEdges2 (w : World) (e : Ending) (w' : World) : Prop := ∃ (xs ys : List VEdge) (A C : Option Addr) (ca cc : Nat), e = .returned (.tuple #[.slice A xs.length ca, .slice C ys.length cc]) ∧ xs.length ≤ 82 ∧ ys.length ≤ 82 ∧ SOwn encEdge w' w.heap.size 48 A ca xs ∧ SOwn encEdge w' w.heap.size 48 C cc ys ∧ Below w.heap.size w w'
def DrewNums (w : World) (e : Ending) (w' : World) : Prop := ∃ (xs : List Int) (A : Option Addr) (cap : Nat), e = .returned (.slice A xs.length cap) ∧ xs.length ≤ 8 ∧ SOwn encNum w' w.heap.size 3 A cap xs ∧ Below w.heap.size w w'
set_option maxHeartbeats 4000000 in
theorem drHousesValid_any (a : Option Addr) (len cap : Nat) (w : World) (h : CodeOk w a len cap) : Calls Try.prog 18 #[.slice a len cap] w (DrewHouses w) := by
  go_enter Try.func18, Try.ntmps18
  go_wp2_with fail
  refine (open_any _ _ _ _ h).mono ?_; rintro e w1 ⟨B, rfl, hB, h1, hb1⟩
  go_wp2_with fail
  refine (houses_any B 0 2 _ h1 (by omega) (by omega) (by omega)).mono ?_; rintro e w2 ⟨xs, A, cp, rfl, hx6, hO, _, hx⟩
  have hB2 := hb1.trans (hx.below (N := w.heap.size) (by omega) hb1.size)
  have hO2 := hO.mono hb1.size
  go_wp2_with fail
  go_ret
  exact ⟨xs, A, cp, rfl, hx6, hO2, hB2⟩
set_option maxHeartbeats 4000000 in
theorem drOutlineOf_any (a : Option Addr) (len cap : Nat) (w : World) (h : CodeOk w a len cap) : Calls Try.prog 27 #[.slice a len cap] w (DrewHouses w) := by
  go_enter Try.func27, Try.ntmps27
  go_wp2_with fail
  refine (open_any _ _ _ _ h).mono ?_; rintro e w1 ⟨B, rfl, hB, h1, hb1⟩
  go_wp2_with fail
  refine (houses_any B 0 9 _ h1 (by omega) (by omega) (by omega)).mono ?_; rintro e w2 ⟨xs, A, cp, rfl, hx6, hO, _, hx⟩
  have hB2 := hb1.trans (hx.below (N := w.heap.size) (by omega) hb1.size)
  have hO2 := hO.mono hb1.size
  go_wp2_with fail
  go_ret
  exact ⟨xs, A, cp, rfl, hx6, hO2, hB2⟩
set_option maxHeartbeats 4000000 in
theorem drOutlineValid_any (a : Option Addr) (len cap : Nat) (w : World) (h : CodeOk w a len cap) : Calls Try.prog 24 #[.slice a len cap] w (DrewEdges w) := by
  go_enter Try.func24, Try.ntmps24
  go_wp2_with fail
  refine (open_any _ _ _ _ h).mono ?_; rintro e w1 ⟨B, rfl, hB, h1, hb1⟩
  go_wp2_with fail
  refine (outline_any B 0 2 _ h1 (by omega) (by omega) (by omega)).mono ?_; rintro e w2 ⟨xs, A, cp, rfl, hx6, hO, _, hx⟩
  have hB2 := hb1.trans (hx.below (N := w.heap.size) (by omega) hb1.size)
  have hO2 := hO.mono hb1.size
  go_wp2_with fail
  go_ret
  exact ⟨xs, A, cp, rfl, hx6, hO2, hB2⟩
set_option maxHeartbeats 4000000 in
theorem drOutlineArea_any (a : Option Addr) (len cap : Nat) (w : World) (h : CodeOk w a len cap) : Calls Try.prog 37 #[.slice a len cap] w (DrewEdges w) := by
  go_enter Try.func37, Try.ntmps37
  go_wp2_with fail
  refine (open_any _ _ _ _ h).mono ?_; rintro e w1 ⟨B, rfl, hB, h1, hb1⟩
  go_wp2_with fail
  refine (outline_any B 0 9 _ h1 (by omega) (by omega) (by omega)).mono ?_; rintro e w2 ⟨xs, A, cp, rfl, hx6, hO, _, hx⟩
  have hB2 := hb1.trans (hx.below (N := w.heap.size) (by omega) hb1.size)
  have hO2 := hO.mono hb1.size
  go_wp2_with fail
  go_ret
  exact ⟨xs, A, cp, rfl, hx6, hO2, hB2⟩
set_option maxHeartbeats 4000000 in
theorem drHousesAt_any (a : Option Addr) (len cap : Nat) (w : World) (h : CodeOk w a len cap) : Calls Try.prog 21 #[.slice a len cap] w (DrewHousesP w) := by
  go_enter Try.func21, Try.ntmps21
  go_wp2_with fail
  refine (open_any _ _ _ _ h).mono ?_; rintro e w1 ⟨B, rfl, hB, h1, hb1⟩
  go_wp2_with fail
  refine (houses_any B 0 9 _ h1 (by omega) (by omega) (by omega)).mono ?_; rintro e w2 ⟨xs, A, cp, rfl, hx6, hO, h2, hx⟩
  have hBl := h1.lt
  go_wp2_with fail
  refine (pick_any B _ 44 _ h2 (by omega) (by omega) (by omega)).mono ?_; rintro e w3 ⟨p, rfl, p0, p1, _, hx3⟩
  have hX := hx.trans hx3
  have hB3 := hb1.trans (hX.below (N := w.heap.size) (by omega) hb1.size)
  have hO3 := (hO.extK hx3 hBl).mono hb1.size
  go_wp2_with fail
  go_ret2
  exact ⟨xs, A, cp, p - 2, rfl, hx6, by omega, hO3, hB3⟩
set_option maxHeartbeats 4000000 in
theorem drOutlineAt_any (a : Option Addr) (len cap : Nat) (w : World) (h : CodeOk w a len cap) : Calls Try.prog 32 #[.slice a len cap] w (DrewEdgesP w) := by
  go_enter Try.func32, Try.ntmps32
  go_wp2_with fail
  refine (open_any _ _ _ _ h).mono ?_; rintro e w1 ⟨B, rfl, hB, h1, hb1⟩
  go_wp2_with fail
  refine (outline_any B 0 9 _ h1 (by omega) (by omega) (by omega)).mono ?_; rintro e w2 ⟨xs, A, cp, rfl, hx6, hO, h2, hx⟩
  have hBl := h1.lt
  go_wp2_with fail
  refine (pick_any B _ 44 _ h2 (by omega) (by omega) (by omega)).mono ?_; rintro e w3 ⟨p, rfl, p0, p1, _, hx3⟩
  have hX := hx.trans hx3
  have hB3 := hb1.trans (hX.below (N := w.heap.size) (by omega) hb1.size)
  have hO3 := (hO.extK hx3 hBl).mono hb1.size
  go_wp2_with fail
  go_ret2
  exact ⟨xs, A, cp, p - 2, rfl, hx6, by omega, hO3, hB3⟩
set_option maxHeartbeats 4000000 in
theorem drOutlineJoin_any (a : Option Addr) (len cap : Nat) (w : World) (h : CodeOk w a len cap) : Calls Try.prog 34 #[.slice a len cap] w (DrewEdges2 w) := by
  go_enter Try.func34, Try.ntmps34
  go_wp2_with fail
  refine (open_any _ _ _ _ h).mono ?_; rintro e w1 ⟨B, rfl, hB, h1, hb1⟩
  go_wp2_with fail
  refine (outline_any B 0 12 _ h1 (by omega) (by omega) (by omega)).mono ?_; rintro e w2 ⟨xs, A, cp, rfl, hx6, hO, h2, hx⟩
  have hBl := h1.lt
  go_wp2_with fail
  refine (outline_any B (0 + 23) 12 _ h2 (by omega) (by omega) (by omega)).mono ?_; rintro e w3 ⟨ys, C, cc, rfl, hy6, hP, _, hx3⟩
  have hX := hx.trans hx3
  have hB3 := hb1.trans (hX.below (N := w.heap.size) (by omega) hb1.size)
  have hO3 := (hO.extK hx3 hBl).mono hb1.size
  have hP3 := hP.mono (Nat.le_trans hb1.size hx.size)
  go_wp2_with fail
  go_ret2
  exact ⟨xs, ys, A, C, cp, cc, rfl, hx6, hy6, hO3, hP3, hB3⟩
end Go.Proofs.Ytifnengegbiijab
