/- Lists of ways that are drawn: the contract. -/
import Derived.Test.YtibpaojhjgpdaaaDw0
import Derived.Deep.Onto
namespace Go.Proofs.Ytibpaojhjgpdaaa
open Go.ChangeShapes Go.WideShapes Go.ChangeAt Go.RowKit
set_option linter.unusedSimpArgs false
set_option linter.unusedVariables false

theorem infoW : (Try.prog.info? 32).map (fun i => (i.zero, i.size, i.bytes)) = some (some (.agg #[.int .i64 0, .int .i64 0]), 2, 16) := by kernel_rfl
def WaysIs (B : Nat) (u : Int) (w : World) (e : Ending) (w' : World) : Prop :=
  ∃ (g cap : Nat) (xs : List (Int × Int)), e = .returned (.slice (some ⟨g, 0, none⟩) xs.length cap) ∧ xs.length ≤ 9 ∧ Own w' w.heap.size g cap xs ∧ RdU B u w' ∧ Ext B w w'
theorem news2 {w : World} {g : Nat} {p q : Value} {T : TypeId} (h : w.heap[g]? = some (.cells #[p, q] T (0, 0))) : ∀ j u, [p, q][j]? = some u → w.cell? ((⟨g, 0, none⟩ : Addr).add j) = some u := by
  intro j u hu
  obtain ⟨c0, c1, _⟩ := blk2 h
  match j, hu with
  | 0, hu => simp at hu; subst hu; exact c0
  | 1, hu => simp at hu; subst hu; exact c1
theorem own_nil {w : World} {g : Nat} (h : w.heap[g]? = some (.cells #[] 32 (0, 0))) {base : Nat} (hb : base ≤ g) : Own w base g 0 [] :=
  ⟨by simp [flat], .inr ⟨g, 0, #[], rfl, hb, h, by simp, by simp, by simp, by simp [flat]⟩⟩
theorem own_snoc {w : World} {base g cap : Nat} {xs : List (Int × Int)} {p q : Int} (h : w.ownsRow base 32 2 (.slice (some ⟨g, 0, none⟩) (xs.length + 1) cap) (xs.length + 1) (flat xs ++ [.int .i64 p, .int .i64 q])) : Own w base g cap (xs ++ [(p, q)]) := by
  unfold Own; rw [flat_snoc] at h; simpa using h
theorem far2 {w : World} {C g i : Nat} {a b v : Value} (h : w.cell? ⟨g, i, none⟩ = some v) (hne : C ≠ g) : (((w.setCell ⟨C, 0, none⟩ a).setCell ⟨C, 1, none⟩ b).drew).cell? ⟨g, i, none⟩ = some v := by
  show ((w.setCell ⟨C, 0, none⟩ a).setCell ⟨C, 1, none⟩ b).cell? ⟨g, i, none⟩ = some v
  rw [World.cell?_setCell_far _ _ _ _ (by exact hne), World.cell?_setCell_far _ _ _ _ (by exact hne)]; exact h
theorem Own.store {w : World} {base g cap C : Nat} {xs : List (Int × Int)} {a b : Value} (h : Own w base g cap xs) (hne : g ≠ C) : Own (((w.setCell ⟨C, 0, none⟩ a).setCell ⟨C, 1, none⟩ b).drew) base g cap xs :=
  World.ownsRow.kept (row := some C) h ⟨rfl, rfl, rfl, by simp [World.setCell], fun k hk hk2 => by
    show ((w.setCell ⟨C, 0, none⟩ a).setCell ⟨C, 1, none⟩ b).heap[k]? = w.heap[k]?
    have : k ≠ C := fun e => hk2 (by rw [e])
    rw [Below.heap_setCell _ _ _ _ this, Below.heap_setCell _ _ _ _ this]⟩ (.inr (by simp [Value.ownBlock]; exact hne))
theorem RdU.drew {B : Nat} {u : Int} {w : World} (h : RdU B u w) : RdU B u w.drew := h
theorem Ext.drew {B : Nat} {a w : World} (h : Ext B a w) : Ext B a w.drew := ⟨h.os, h.tape, h.output, h.size, h.block⟩
/-- What a round has. -/
structure St (B base : Nat) (u : Int) (g cap : Nat) (xs : List (Int × Int)) (w0 w : World) : Prop where
  own : Own w base g cap xs
  rd : RdU B u w
  ext : Ext B w0 w
set_option maxRecDepth 100000 in
set_option maxHeartbeats 16000000 in
theorem ways_any (B : Nat) (u n : Int) (w : World) (h : RdU B u w) (hu : u ≤ 400000) (hn : 1 ≤ n) (hn1 : n ≤ 1000000) :
    Calls Try.prog 40 #[.pointer (some ⟨B, 0, none⟩), .int .i64 n] w (WaysIs B (u + 1000) w) := by
  have hBw := h.lt
  obtain ⟨i0, hi0, hz0, hz1, hz2⟩ := info_parts infoW
  have HI := Lib.hid (And.intro hi0 (And.intro hz0 (And.intro hz1 hz2)))
  clear hi0 hz0 hz1 hz2
  go_enter Try.func40, Try.ntmps40
  go_wp2_with fail
  refine (pick_any B u 9 _ (h.alloc _) (by omega) (by omega) (by omega)).mono ?_; rintro e w1 ⟨k, rfl, k0, k1, h1, hx1⟩
  have hN := own_nil (base := w.heap.size) (blk_ext (blk_new w (.cells #[] 32)) hx1 (by omega)) (Nat.le_refl _)
  have hE1 : Ext B w w1 := ((Ext.refl B w).alloc _).trans hx1
  go_wp2_with fail
  go_loopw [5, 6] (fun s5 s6 wr => ∃ (k : Int) (g cap : Nat) (xs : List (Int × Int)), 0 ≤ k ∧ k ≤ 8 ∧ s6 = .int .i64 k ∧ s5 = .slice (some ⟨g, 0, none⟩) xs.length cap ∧ (xs.length : Int) ≤ 8 - k ∧ St B w.heap.size (u + 1 + 20 * (8 - k)) g cap xs w wr) (fun _ s6 _ => (intOf s6).toNat)
  case atStart => exact ⟨k, w.heap.size, 0, [], k0, by omega, rfl, rfl, by simp; omega, ⟨hN, h1.mono (by omega), hE1⟩⟩
  case round =>
    obtain ⟨k, g, cap, xs, k0, k1, rfl, rfl, hlen, hst⟩ := hrel
    have hbase := hst.own.base
    have hRlt := hst.rd.lt
    by_cases hlt : 0 < k
    · go_wp2_with fail
      refine (way_any0 B (u + 1 + 20 * (8 - k)) 0 _ hst.rd (by omega) (by omega) (by omega)).mono ?_; rintro e w2 ⟨a, b, rfl, a0, a1, b0, b1, h2, hx2⟩
      have hO2 := hst.own.ext hx2 (by omega)
      have hE2 := hst.ext.trans hx2
      have hz2 := hO2.base
      have hrl2 := h2.lt
      have hC2 := blk_new w2 (.cells #[.int .i64 a, .int .i64 b] 32)
      have hO2a : Own (w2.alloc (.cells #[.int .i64 a, .int .i64 b] 32)) w.heap.size g cap xs := hO2.next (bel1 _ _)
      have h2a := h2.alloc (.cells #[.int .i64 a, .int .i64 b] 32)
      have hE2a := hE2.alloc (.cells #[.int .i64 a, .int .i64 b] 32)
      by_cases hl0 : (0 : Int) < xs.length
      · go_wp2_with fail
        refine (pick_any B _ 3 _ h2a (by omega) (by omega) (by omega)).mono ?_; rintro e w3 ⟨q, rfl, q0, q1, h3, hx3⟩
        have hO3 := hO2a.ext hx3 (by omega)
        have hC3 := blk_ext hC2 hx3 (by omega)
        have hE3 := hE2a.trans hx3
        have hz3 := blk_lt hC3
        by_cases hq : q = 0
        · subst hq
          obtain ⟨o0, o1⟩ := hO3.cell 0 (by omega)
          simp only [Nat.zero_mul, Nat.zero_add] at o0 o1
          obtain ⟨c0, c1, f0, f1, hz⟩ := blk2 hC3
          go_wp2_with fail
          refine wp_region_held_drew (S := fun w' => w'.cell? ⟨g, 0, none⟩ = some (.int .i64 xs[0].1) ∧ w'.cell? ⟨g, 1, none⟩ = some (.int .i64 xs[0].2)) (by kernel_rfl) ⟨o0, o1⟩ (fun hHeld => ?_)
          refine wpAnyH_take (i := 0) (oi := _) (v := ?_) rfl (by kernel_rfl) (by kernel_rfl) (by kernel_rfl) (fun _ _ _ h => h) (Or.inl ⟨by rfl, ?_⟩) (by assumption) ?_
          (rotate_left); (focus (intro wv hSw; (obtain ⟨hS0, hS1⟩ := hSw); go_simp; (try with_reducible rfl)))
          try simp only [Act.put, List.getElem_toArray, List.getElem_cons_succ, List.getElem_cons_zero, List.setIfInBounds_toArray, List.set_cons_zero, List.set_cons_succ]
          refine wpAnyH_take (i := 1) (oi := _) (v := ?_) rfl (by kernel_rfl) (by kernel_rfl) (by kernel_rfl) (fun _ _ _ h => h) (Or.inl ⟨by rfl, ?_⟩) (by assumption) ?_
          (rotate_left); (focus (intro wv hSw; (obtain ⟨hS0, hS1⟩ := hSw); go_simp; (try with_reducible rfl)))
          try simp only [Act.put, List.getElem_toArray, List.getElem_cons_succ, List.getElem_cons_zero, List.setIfInBounds_toArray, List.set_cons_zero, List.set_cons_succ]
          refine wpAnyH_take (i := 2) (oi := _) (v := ?_) rfl (by kernel_rfl) (by kernel_rfl) (by kernel_rfl) (fun _ _ _ h => h) (Or.inl ⟨by rfl, ?_⟩) (by assumption) ?_
          (rotate_left); (focus (intro wv hSw; (obtain ⟨hS0, hS1⟩ := hSw); go_simp; (try with_reducible rfl)))
          try simp only [Act.put, List.getElem_toArray, List.getElem_cons_succ, List.getElem_cons_zero, List.setIfInBounds_toArray, List.set_cons_zero, List.set_cons_succ]
          refine wpAnyH_take (i := 3) (oi := _) (v := ?_) rfl (by kernel_rfl) (by kernel_rfl) (by kernel_rfl) (fun _ _ _ h => h) (Or.inl ⟨by rfl, ?_⟩) (by assumption) ?_
          (rotate_left); (focus (intro wv hSw; (obtain ⟨hS0, hS1⟩ := hSw); go_simp; (try with_reducible rfl)))
          try simp only [Act.put, List.getElem_toArray, List.getElem_cons_succ, List.getElem_cons_zero, List.setIfInBounds_toArray, List.set_cons_zero, List.set_cons_succ]
          refine wpAnyH_take (i := 4) (oi := _) (v := ?_) rfl (by kernel_rfl) (by kernel_rfl) (by kernel_rfl) (fun _ _ _ h => h) (Or.inl ⟨by rfl, ?_⟩) (by assumption) ?_
          (rotate_left); (focus (intro wv hSw; (obtain ⟨hS0, hS1⟩ := hSw); go_simp; (try with_reducible rfl)))
          try simp only [Act.put, List.getElem_toArray, List.getElem_cons_succ, List.getElem_cons_zero, List.setIfInBounds_toArray, List.set_cons_zero, List.set_cons_succ]
          refine wpAnyH_take (i := 5) (oi := _) (v := ?_) rfl (by kernel_rfl) (by kernel_rfl) (by kernel_rfl) (fun _ _ _ h => h) (Or.inl ⟨by rfl, ?_⟩) (by assumption) ?_
          (rotate_left); (focus (intro wv hSw; (obtain ⟨hS0, hS1⟩ := hSw); go_simp; (try with_reducible rfl)))
          try simp only [Act.put, List.getElem_toArray, List.getElem_cons_succ, List.getElem_cons_zero, List.setIfInBounds_toArray, List.set_cons_zero, List.set_cons_succ]
          refine wpAnyH_take (i := 6) (oi := _) (v := ?_) rfl (by kernel_rfl) (by kernel_rfl) (by kernel_rfl) (fun _ _ _ h => h) (Or.inl ⟨by rfl, ?_⟩) (by assumption) ?_
          (rotate_left); (focus (intro wv hSw; (obtain ⟨hS0, hS1⟩ := hSw); go_simp; (try with_reducible rfl)))
          try simp only [Act.put, List.getElem_toArray, List.getElem_cons_succ, List.getElem_cons_zero, List.setIfInBounds_toArray, List.set_cons_zero, List.set_cons_succ]
          refine wpAnyH_take (i := 7) (oi := _) (v := ?_) rfl (by kernel_rfl) (by kernel_rfl) (by kernel_rfl) (fun _ _ _ h => h) (Or.inl ⟨by rfl, ?_⟩) (by assumption) ?_
          (rotate_left); (focus (intro wv hSw; (obtain ⟨hS0, hS1⟩ := hSw); go_simp; (try with_reducible rfl)))
          try simp only [Act.put, List.getElem_toArray, List.getElem_cons_succ, List.getElem_cons_zero, List.setIfInBounds_toArray, List.set_cons_zero, List.set_cons_succ]
          refine wpAnyH_take (i := 8) (oi := _) (v := ?_) rfl (by kernel_rfl) (by kernel_rfl) (by kernel_rfl) (fun _ _ _ h => h) (Or.inl ⟨by rfl, ?_⟩) (by assumption) ?_
          (rotate_left); (focus (intro wv hSw; (obtain ⟨hS0, hS1⟩ := hSw); go_simp; (try with_reducible rfl)))
          try simp only [Act.put, List.getElem_toArray, List.getElem_cons_succ, List.getElem_cons_zero, List.setIfInBounds_toArray, List.set_cons_zero, List.set_cons_succ]
          refine wpAnyH_take (i := 9) (oi := _) (v := ?_) rfl (by kernel_rfl) (by kernel_rfl) (by kernel_rfl) (fun _ _ _ h => h) (Or.inl ⟨by rfl, ?_⟩) (by assumption) ?_
          (rotate_left); (focus (intro wv hSw; (obtain ⟨hS0, hS1⟩ := hSw); go_simp; (try with_reducible rfl)))
          try simp only [Act.put, List.getElem_toArray, List.getElem_cons_succ, List.getElem_cons_zero, List.setIfInBounds_toArray, List.set_cons_zero, List.set_cons_succ]
          refine wpAnyH_take (i := 10) (oi := _) (v := ?_) rfl (by kernel_rfl) (by kernel_rfl) (by kernel_rfl) (fun _ _ _ h => h) (Or.inl ⟨by rfl, ?_⟩) (by assumption) ?_
          (rotate_left); (focus (intro wv hSw; (obtain ⟨hS0, hS1⟩ := hSw); go_simp; (try with_reducible rfl)))
          try simp only [Act.put, List.getElem_toArray, List.getElem_cons_succ, List.getElem_cons_zero, List.setIfInBounds_toArray, List.set_cons_zero, List.set_cons_succ]
          refine wpAnyH_ready (rs := [11]) (by kernel_rfl) (by simp) ?_
          refine AllReadyH.cons (o := _) rfl (fun K hK => ?_) AllReadyH.nil
          go_simp
          refine hK.out _ _ ⟨far2 o0 (by omega), far2 o1 (by omega)⟩ (fun hHeld => ?_)
          clear hK K
          try simp only [Act.put, List.getElem_toArray, List.getElem_cons_succ, List.getElem_cons_zero, List.setIfInBounds_toArray, List.set_cons_zero, List.set_cons_succ]
          refine wpAnyH_done (by kernel_rfl) ?_ _
          clear hHeld
          have hC3s : ((((w3.setCell ⟨w2.heap.size, 0, none⟩ (.int .i64 (IntKind.i64.wrap (2 * xs[0].1)))).setCell ⟨w2.heap.size, 1, none⟩ (.int .i64 (IntKind.i64.wrap (2 * xs[0].2))))).drew).heap[w2.heap.size]? = _ := blk2_set hC3
          have hO3s := hO3.store (a := .int .i64 (IntKind.i64.wrap (2 * xs[0].1))) (b := .int .i64 (IntKind.i64.wrap (2 * xs[0].2))) (C := w2.heap.size) (by omega)
          have hR3s := ((h3.setOther (C := w2.heap.size) (i := 0) (by omega) (.int .i64 (IntKind.i64.wrap (2 * xs[0].1)))).setOther (C := w2.heap.size) (i := 1) (by omega) (.int .i64 (IntKind.i64.wrap (2 * xs[0].2)))).drew
          have hE3s := ((hE3.setNew (C := w2.heap.size) (by omega) 0 (.int .i64 (IntKind.i64.wrap (2 * xs[0].1)))).setNew (C := w2.heap.size) (by omega) 1 (.int .i64 (IntKind.i64.wrap (2 * xs[0].2)))).drew
          generalize (((w3.setCell ⟨w2.heap.size, 0, none⟩ (.int .i64 (IntKind.i64.wrap (2 * xs[0].1)))).setCell ⟨w2.heap.size, 1, none⟩ (.int .i64 (IntKind.i64.wrap (2 * xs[0].2))))).drew = wz at *
          generalize IntKind.i64.wrap (2 * xs[0].1) = p at *
          generalize IntKind.i64.wrap (2 * xs[0].2) = q at *
          obtain ⟨c0, c1, f0, f1, hz⟩ := blk2 hC3s
          go_wp2_with fail
          refine (sHalf_any _ _ _).mono ?_; rintro e w4 ⟨rfl, hw4⟩
          have hC4 := blk_next hC3s hw4
          have hO4 := hO3s.next hw4
          have hR4 := hR3s.next hw4
          have hE4 := hE3s.of_below hw4
          have hz4 := hO4.base
          have hs4 := hE4.size
          have hr4 := hR4.lt
          obtain ⟨d0, d1, g0, g1, hz5⟩ := blk2 hC4
          by_cases hh : 0 ≤ halfI (p) (q)
          · have hO4a : Own (w4.alloc (.cells #[.int .i64 (p), .int .i64 (q)] 32)) w.heap.size g cap xs := hO4.next (bel1 _ _)
            go_wp2_with (at_builtin; refine wpList_append_lies _ rfl (.tmp 39) (.tmp 41) _ rfl w.heap.size 32 i0 _ 2 16 Try.underlying23 HI.out.1 HI.out.2.1 HI.out.2.2.1 HI.out.2.2.2 rfl (by omega) (.slice (some ⟨g, 0, none⟩) xs.length cap) xs.length (flat xs) rfl hO4a ⟨_, 0, none⟩ 1 1 [.int .i64 (p), .int .i64 (q)] rfl rfl (news2 (blk_new w4 _)) (by simp [Value.oneCell']) (by omega) (by simp only [maxLen]; omega) (by omega) (by first | omega | (simp; omega)) _ rfl ?_; intro g5 cap5 w5 hown5 hgr5 hat5 hlt5)
            have hrow : ∀ j, Value.ownBlock (.slice (some ⟨g, 0, none⟩) xs.length cap) = some j → w.heap.size ≤ j := by intro j hj; simp [Value.ownBlock] at hj; omega
            have hE5 := (hE4.alloc (.cells #[.int .i64 (p), .int .i64 (q)] 32)).of_grown hgr5 hrow
            have hR5 := (hR4.alloc (.cells #[.int .i64 (p), .int .i64 (q)] 32)).grown hgr5 (fun j hj => by have := hrow j hj; omega)
            have hO5 := own_snoc hown5
            go_roundw
            case rel => exact ⟨k - 1, g5, cap5, xs ++ [(p, q)], by omega, by omega, rfl, by simp, by simp; omega, ⟨hO5, hR5.mono (by omega), hE5⟩⟩
            case measure => simp [intOf]; omega
          · go_wp2_with fail
            go_roundw
            case rel => exact ⟨k - 1, g, cap, xs, by omega, by omega, rfl, rfl, by omega, ⟨hO4, hR4.mono (by omega), hE4⟩⟩
            case measure => simp [intOf]; omega
        · have zq : (q == 0) = false := by rw [beq_eq_false_iff_ne]; omega
          clear hq
          obtain ⟨c0, c1, f0, f1, hz⟩ := blk2 hC3
          go_wp2_with fail
          refine (sHalf_any _ _ _).mono ?_; rintro e w4 ⟨rfl, hw4⟩
          have hC4 := blk_next hC3 hw4
          have hO4 := hO3.next hw4
          have hR4 := h3.next hw4
          have hE4 := hE3.of_below hw4
          have hz4 := hO4.base
          have hs4 := hE4.size
          have hr4 := hR4.lt
          obtain ⟨d0, d1, g0, g1, hz5⟩ := blk2 hC4
          by_cases hh : 0 ≤ halfI (a) (b)
          · have hO4a : Own (w4.alloc (.cells #[.int .i64 (a), .int .i64 (b)] 32)) w.heap.size g cap xs := hO4.next (bel1 _ _)
            go_wp2_with (at_builtin; refine wpList_append_lies _ rfl (.tmp 39) (.tmp 41) _ rfl w.heap.size 32 i0 _ 2 16 Try.underlying23 HI.out.1 HI.out.2.1 HI.out.2.2.1 HI.out.2.2.2 rfl (by omega) (.slice (some ⟨g, 0, none⟩) xs.length cap) xs.length (flat xs) rfl hO4a ⟨_, 0, none⟩ 1 1 [.int .i64 (a), .int .i64 (b)] rfl rfl (news2 (blk_new w4 _)) (by simp [Value.oneCell']) (by omega) (by simp only [maxLen]; omega) (by omega) (by first | omega | (simp; omega)) _ rfl ?_; intro g5 cap5 w5 hown5 hgr5 hat5 hlt5)
            have hrow : ∀ j, Value.ownBlock (.slice (some ⟨g, 0, none⟩) xs.length cap) = some j → w.heap.size ≤ j := by intro j hj; simp [Value.ownBlock] at hj; omega
            have hE5 := (hE4.alloc (.cells #[.int .i64 (a), .int .i64 (b)] 32)).of_grown hgr5 hrow
            have hR5 := (hR4.alloc (.cells #[.int .i64 (a), .int .i64 (b)] 32)).grown hgr5 (fun j hj => by have := hrow j hj; omega)
            have hO5 := own_snoc hown5
            go_roundw
            case rel => exact ⟨k - 1, g5, cap5, xs ++ [(a, b)], by omega, by omega, rfl, by simp, by simp; omega, ⟨hO5, hR5.mono (by omega), hE5⟩⟩
            case measure => simp [intOf]; omega
          · go_wp2_with fail
            go_roundw
            case rel => exact ⟨k - 1, g, cap, xs, by omega, by omega, rfl, rfl, by omega, ⟨hO4, hR4.mono (by omega), hE4⟩⟩
            case measure => simp [intOf]; omega
      · have hd0 : decide ((0 : Int) < xs.length) = false := by simpa using hl0
        obtain ⟨c0, c1, f0, f1, hz⟩ := blk2 hC2
        go_wp2_with fail
        refine (sHalf_any _ _ _).mono ?_; rintro e w4 ⟨rfl, hw4⟩
        have hC4 := blk_next hC2 hw4
        have hO4 := hO2a.next hw4
        have hR4 := h2a.next hw4
        have hE4 := hE2a.of_below hw4
        have hz4 := hO4.base
        have hs4 := hE4.size
        have hr4 := hR4.lt
        obtain ⟨d0, d1, g0, g1, hz5⟩ := blk2 hC4
        by_cases hh : 0 ≤ halfI (a) (b)
        · have hO4a : Own (w4.alloc (.cells #[.int .i64 (a), .int .i64 (b)] 32)) w.heap.size g cap xs := hO4.next (bel1 _ _)
          go_wp2_with (at_builtin; refine wpList_append_lies _ rfl (.tmp 39) (.tmp 41) _ rfl w.heap.size 32 i0 _ 2 16 Try.underlying23 HI.out.1 HI.out.2.1 HI.out.2.2.1 HI.out.2.2.2 rfl (by omega) (.slice (some ⟨g, 0, none⟩) xs.length cap) xs.length (flat xs) rfl hO4a ⟨_, 0, none⟩ 1 1 [.int .i64 (a), .int .i64 (b)] rfl rfl (news2 (blk_new w4 _)) (by simp [Value.oneCell']) (by omega) (by simp only [maxLen]; omega) (by omega) (by first | omega | (simp; omega)) _ rfl ?_; intro g5 cap5 w5 hown5 hgr5 hat5 hlt5)
          have hrow : ∀ j, Value.ownBlock (.slice (some ⟨g, 0, none⟩) xs.length cap) = some j → w.heap.size ≤ j := by intro j hj; simp [Value.ownBlock] at hj; omega
          have hE5 := (hE4.alloc (.cells #[.int .i64 (a), .int .i64 (b)] 32)).of_grown hgr5 hrow
          have hR5 := (hR4.alloc (.cells #[.int .i64 (a), .int .i64 (b)] 32)).grown hgr5 (fun j hj => by have := hrow j hj; omega)
          have hO5 := own_snoc hown5
          go_roundw
          case rel => exact ⟨k - 1, g5, cap5, xs ++ [(a, b)], by omega, by omega, rfl, by simp, by simp; omega, ⟨hO5, hR5.mono (by omega), hE5⟩⟩
          case measure => simp [intOf]; omega
        · go_wp2_with fail
          go_roundw
          case rel => exact ⟨k - 1, g, cap, xs, by omega, by omega, rfl, rfl, by omega, ⟨hO4, hR4.mono (by omega), hE4⟩⟩
          case measure => simp [intOf]; omega
    · obtain rfl : k = 0 := by omega
      go_wp2_with fail
      refine (odd_any B (u + 1 + 20 * (8 - 0)) n _ hst.rd (by omega) hn hn1).mono ?_; rintro e w2 ⟨b, rfl, h2, hx2⟩
      have hO2 := hst.own.ext hx2 (by omega)
      have hE2 := hst.ext.trans hx2
      have hs2 := hE2.size
      have hl2 := h2.lt
      cases b
      · go_wp2_with fail
        go_ret
        exact ⟨g, cap, xs, rfl, by omega, hO2, h2.mono (by omega), hE2⟩
      · go_wp2_with fail
        refine (pick_any B _ 2 _ h2 (by omega) (by omega) (by omega)).mono ?_; rintro e w3 ⟨q, rfl, q0, q1, h3, hx3⟩
        have hO3 := hO2.ext hx3 (by omega)
        have hE3 := hE2.trans hx3
        have hs3 := hE3.size
        have hl3 := h3.lt
        have hb3 := hO3.base
        have hrow : ∀ j, Value.ownBlock (.slice (some ⟨g, 0, none⟩) xs.length cap) = some j → w.heap.size ≤ j := by intro j hj; simp [Value.ownBlock] at hj; omega
        by_cases hq : q = 0
        · subst hq
          have hO3a : Own (w3.alloc (.cells #[.int .i64 0, .int .i64 0] 32)) w.heap.size g cap xs := hO3.next (bel1 _ _)
          go_wp2_with (at_builtin; refine wpList_append_lies _ rfl (.tmp 49) (.tmp 51) _ rfl w.heap.size 32 i0 _ 2 16 Try.underlying23 HI.out.1 HI.out.2.1 HI.out.2.2.1 HI.out.2.2.2 rfl (by omega) (.slice (some ⟨g, 0, none⟩) xs.length cap) xs.length (flat xs) rfl hO3a ⟨_, 0, none⟩ 1 1 [.int .i64 (0), .int .i64 (0)] rfl rfl (news2 (blk_new w3 _)) (by simp [Value.oneCell']) (by omega) (by simp only [maxLen]; omega) (by omega) (by first | omega | (simp; omega)) _ rfl ?_; intro g5 cap5 w5 hown5 hgr5 hat5 hlt5)
          have hE5 := (hE3.alloc (.cells #[.int .i64 0, .int .i64 0] 32)).of_grown hgr5 hrow
          have hR5 := (h3.alloc (.cells #[.int .i64 0, .int .i64 0] 32)).grown hgr5 (fun j hj => by have := hrow j hj; omega)
          have hO5 := own_snoc hown5
          go_ret
          exact ⟨g5, cap5, xs ++ [(0, 0)], by simp, by simp; omega, hO5, hR5.mono (by omega), hE5⟩
        · have zq : (q == 0) = false := by rw [beq_eq_false_iff_ne]; omega
          clear hq
          have hO3a : Own (w3.alloc (.cells #[.int .i64 1001, .int .i64 0] 32)) w.heap.size g cap xs := hO3.next (bel1 _ _)
          go_wp2_with (at_builtin; refine wpList_append_lies _ rfl (.tmp 53) (.tmp 55) _ rfl w.heap.size 32 i0 _ 2 16 Try.underlying23 HI.out.1 HI.out.2.1 HI.out.2.2.1 HI.out.2.2.2 rfl (by omega) (.slice (some ⟨g, 0, none⟩) xs.length cap) xs.length (flat xs) rfl hO3a ⟨_, 0, none⟩ 1 1 [.int .i64 (1001), .int .i64 (0)] rfl rfl (news2 (blk_new w3 _)) (by simp [Value.oneCell']) (by omega) (by simp only [maxLen]; omega) (by omega) (by first | omega | (simp; omega)) _ rfl ?_; intro g5 cap5 w5 hown5 hgr5 hat5 hlt5)
          have hE5 := (hE3.alloc (.cells #[.int .i64 1001, .int .i64 0] 32)).of_grown hgr5 hrow
          have hR5 := (h3.alloc (.cells #[.int .i64 1001, .int .i64 0] 32)).grown hgr5 (fun j hj => by have := hrow j hj; omega)
          have hO5 := own_snoc hown5
          go_ret
          exact ⟨g5, cap5, xs ++ [(1001, 0)], by simp, by simp; omega, hO5, hR5.mono (by omega), hE5⟩
def DrewWays (w : World) (e : Ending) (w' : World) : Prop :=
  ∃ (g cap : Nat) (xs : List (Int × Int)), e = .returned (.slice (some ⟨g, 0, none⟩) xs.length cap) ∧ xs.length ≤ 9 ∧ Own w' w.heap.size g cap xs ∧ Below w.heap.size w w'
theorem drRoundOrder_any (a : Option Addr) (len cap : Nat) (w : World) (h : CodeOk w a len cap) : Calls Try.prog 10 #[.slice a len cap] w (DrewWays w) := by
  go_enter Try.func10, Try.ntmps10
  go_wp2_with fail
  refine (open_any _ _ _ _ h).mono ?_; rintro e w1 ⟨B, rfl, hB, h1, hb1⟩
  go_wp2_with fail
  refine (ways_any B 0 9 _ h1 (by omega) (by omega) (by omega)).mono ?_; rintro e w2 ⟨g, c, xs, rfl, hl, hO, _, hx⟩
  go_wp2
  go_ret
  exact ⟨g, c, xs, rfl, hl, World.ownsRow.mono hO hb1.size, hb1.trans (hx.below hB hb1.size)⟩
end Go.Proofs.Ytibpaojhjgpdaaa
