/- Rows and places that are drawn. -/
import Derived.Test.YtidppabconifkabZw
namespace Go.Proofs.Ytidppabconifkab
open Go Go.ChangeShapes Go.WideShapes Go.ChangeAt Go.RowKit
set_option linter.unusedSimpArgs false
set_option linter.unusedVariables false

def UsedIs (B : Nat) (u : Int) (w : World) (e : Ending) (w' : World) : Prop :=
  ∃ (xs us : List Int) (A C : Option Addr) (ca cc : Nat), e = .returned (.tuple #[.slice A xs.length ca, .slice C us.length cc]) ∧ xs.length ≤ 11 ∧ us.length ≤ 13 ∧ (∀ x ∈ us, 0 ≤ x ∧ x ≤ 20) ∧ SOwn encNum w' w.heap.size 3 A ca xs ∧ SOwn encNum w' w.heap.size 3 C cc us ∧ RdU B u w' ∧ Ext B w w'
set_option maxRecDepth 100000 in
set_option maxHeartbeats 4000000 in
theorem used_any (B : Nat) (u : Int) (w : World) (h : RdU B u w) (hu : u ≤ 500000) : Calls Try.prog 29 #[.pointer (some ⟨B, 0, none⟩)] w (UsedIs B (u + 60) w) := by
  have hBw := h.lt
  obtain ⟨i0, hi0, hz0, hz1, hz2⟩ := info_parts infoNum
  have HI := Lib.hid (And.intro hi0 (And.intro hz0 (And.intro hz1 hz2)))
  clear hi0 hz0 hz1 hz2
  go_enter Try.func29, Try.ntmps29
  go_wp2_with fail
  refine (row_any B u 12 _ h (by omega) (by omega) (by omega)).mono ?_; rintro e w1 ⟨xs, A, ca, rfl, hx6, hA1, h1, hx1⟩
  obtain ⟨m, hm⟩ : ∃ m, xs.length = m := ⟨_, rfl⟩
  rw [hm] at hx6 ⊢
  have HM := Lib.hid hm
  clear hm
  have hz1 := hx1.size
  have hB1l := h1.lt
  have HAL : Hid (∀ g, A = some ⟨g, 0, none⟩ → g < w1.heap.size) := Lib.hid (fun g hg => by rcases hA1.form with ⟨e, _⟩ | ⟨g1, e, _, h9⟩; rw [e] at hg; cases hg; rw [e] at hg; cases hg; exact h9)
  go_wp2_with fail
  go_loopw [5, 6] (fun vo vk wr => ∃ (k q g cp : Nat) (us : List Int), vk = .int .i64 k ∧ vo = .slice (some ⟨g, 0, none⟩) q cp ∧ k ≤ m + 1 ∧ q ≤ k ∧ Hid (us.length = q) ∧ Hid (∀ x ∈ us, 0 ≤ x ∧ x ≤ 20) ∧ SOwn encNum wr w1.heap.size 3 (some ⟨g, 0, none⟩) cp us ∧ SOwn encNum wr w.heap.size 3 A ca xs ∧ RdU B (u + 26 + 2 * k) wr ∧ Ext B w1 wr) (fun _ vk _ => (m + 2 - intOf vk).toNat)
  case atStart => exact ⟨0, 0, _, 0, [], rfl, rfl, by omega, by omega, (by show _ = _; rfl), Lib.hid (by simp), SOwn.empty (blk_new w1 _) (Nat.le_refl _), hA1.alloc _, (h1.alloc _).mono (by omega), (Ext.refl B w1).alloc _⟩
  case round =>
    clear hA1
    obtain ⟨k, q, g, cp, us, rfl, rfl, k1, qk, HU, HU2, hO, hA, hR, hX⟩ := hrel
    by_cases hlt : k < m
    · have hki : (k : Int) < (m : Int) := by omega
      go_wp2_with fail
      refine (pick_any B _ 3 _ hR (by omega) (by omega) (by omega)).mono ?_; rintro e w2 ⟨a, rfl, a0, a1, h2, hx2⟩
      have hO2 := hO.extK hx2 hB1l
      have hA2 := hA.extK hx2 hBw
      have hX2 := hX.trans hx2
      have hz2 := hX2.size
      by_cases ha : a = 0
      · subst ha
        go_wp2_with (at_builtin; refine wpList_append_lies _ rfl (.tmp 19) (.tmp 21) _ rfl w1.heap.size 3 i0 _ 1 8 Try.underlying23 HI.out.1 HI.out.2.1 HI.out.2.2.1 HI.out.2.2.2 rfl (by omega) (.slice (some ⟨g, 0, none⟩) q cp) q (encNum.flat us) rfl (by have z9 := hO2.alloc (.cells (encNum.enc ((k : Int))).toArray 3); unfold SOwn at z9; rw [HU.out] at z9; exact z9) ⟨w2.heap.size, 0, none⟩ 1 1 (encNum.enc ((k : Int))) rfl rfl (new_enc (E := encNum) w2 ((k : Int)) _) (encNum.one _) (by omega) (by simp only [maxLen]; omega) (by omega) (by simp; omega) _ rfl ?_; intro g5 cap5 w7 hown5 hgr5 hat5 hlt5)
        have hg0 : w1.heap.size ≤ g := by rcases hO2.form with ⟨e, _⟩ | ⟨g1, e, h9, _⟩; cases e; cases e; exact h9
        have hne : ∀ k, Value.ownBlock (.slice (some ⟨g, 0, none⟩) q cp) = some k → B < k := fun k hk => by simp [Value.ownBlock] at hk; omega
        have hR7 := (h2.alloc (.cells (encNum.enc ((k : Int))).toArray 3)).farK hgr5 hne
        have hX7 := (hX2.alloc (.cells (encNum.enc ((k : Int))).toArray 3)).far_grownK hgr5 (fun k hk => by simp [Value.ownBlock] at hk; omega)
        have hA7 := (hA2.alloc (.cells (encNum.enc ((k : Int))).toArray 3)).grown_far hgr5 (fun g9 hg e9 => by have h8 := HAL.out g9 hg; simp [Value.ownBlock] at e9; omega)
        have hsn := SOwn.snoc (E := encNum) (xs := us) (x := (k : Int)) (by rw [HU.out]; exact hown5)
        have hB7l := hR7.lt
        go_wp2_with fail
        refine (pick_any B _ 9 _ hR7 (by omega) (by omega) (by omega)).mono ?_; rintro e w8 ⟨c, rfl, c0, c1, h8, hx8⟩
        have hO8 := hsn.extK hx8 hB1l
        have hA8 := hA7.extK hx8 hBw
        have hX8 := hX7.trans hx8
        have HU8 : Hid ((us ++ [(k : Int)]).length = q + 1) := Lib.hid (by rw [List.length_append, HU.out]; rfl)
        have HU9 : Hid (∀ x ∈ us ++ [(k : Int)], 0 ≤ x ∧ x ≤ 20) := Lib.hid (fun x hx => by rcases List.mem_append.1 hx with h9 | h9; exact HU2.out x h9; simp at h9; omega)
        by_cases hc : 0 < c
        · go_wp2_with fail
          go_roundw
          case rel => exact ⟨k + 2, q + 1, g5, cap5, us ++ [(k : Int)], by go_num, rfl, by omega, by omega, HU8, HU9, hO8, hA8, h8.mono (by push_cast; omega), hX8⟩
          case measure => simp [intOf]; omega
        · go_wp2_with fail
          go_roundw
          case rel => exact ⟨k + 1, q + 1, g5, cap5, us ++ [(k : Int)], by go_num, rfl, by omega, by omega, HU8, HU9, hO8, hA8, h8.mono (by push_cast; omega), hX8⟩
          case measure => simp [intOf]; omega
      · have hab : (a == 0) = false := by rw [beq_eq_false_iff_ne]; exact ha
        go_wp2_with fail
        go_roundw
        case rel => exact ⟨k + 1, q, g, cp, us, by go_num, rfl, by omega, by omega, HU, HU2, hO2, hA2, h2.mono (by push_cast; omega), hX2⟩
        case measure => simp [intOf]; omega
    · have hki : ¬ (k : Int) < (m : Int) := by omega
      go_wp2_with fail
      refine (odd0_any B _ 14 _ hR (by omega) (by omega) (by omega)).mono ?_; rintro e w3 ⟨b, rfl, h3, hx3⟩
      have hO3 := hO.extK hx3 hB1l
      have hA3 := hA.extK hx3 hBw
      have hX3 := hX.trans hx3
      have hz3 := hX3.size
      cases b
      · go_wp2_with fail
        go_ret2
        exact ⟨xs, us, A, _, ca, cp, by rw [HM.out, HU.out]; rfl, by rw [HM.out]; omega, by rw [HU.out]; omega, HU2.out, hA3, hO3.mono hz1, h3.mono (by omega), hx1.trans hX3⟩
      · go_wp2_with (at_builtin; refine wpList_append_lies _ rfl (.tmp 30) (.tmp 33) _ rfl w1.heap.size 3 i0 _ 1 8 Try.underlying23 HI.out.1 HI.out.2.1 HI.out.2.2.1 HI.out.2.2.2 rfl (by omega) (.slice (some ⟨g, 0, none⟩) q cp) q (encNum.flat us) rfl (by have z9 := hO3.alloc (.cells (encNum.enc ((m : Int))).toArray 3); unfold SOwn at z9; rw [HU.out] at z9; exact z9) ⟨w3.heap.size, 0, none⟩ 1 1 (encNum.enc ((m : Int))) rfl rfl (new_enc (E := encNum) w3 ((m : Int)) _) (encNum.one _) (by omega) (by simp only [maxLen]; omega) (by omega) (by simp; omega) _ rfl ?_; intro g5 cap5 w7 hown5 hgr5 hat5 hlt5)
        have hg0 : w1.heap.size ≤ g := by rcases hO3.form with ⟨e, _⟩ | ⟨g1, e, h9, _⟩; cases e; cases e; exact h9
        have hne : ∀ k, Value.ownBlock (.slice (some ⟨g, 0, none⟩) q cp) = some k → B < k := fun k hk => by simp [Value.ownBlock] at hk; omega
        have hR7 := (h3.alloc (.cells (encNum.enc ((m : Int))).toArray 3)).farK hgr5 hne
        have hX7 := (hX3.alloc (.cells (encNum.enc ((m : Int))).toArray 3)).far_grownK hgr5 (fun k hk => by simp [Value.ownBlock] at hk; omega)
        have hA7 := (hA3.alloc (.cells (encNum.enc ((m : Int))).toArray 3)).grown_far hgr5 (fun g9 hg e9 => by have h8 := HAL.out g9 hg; simp [Value.ownBlock] at e9; omega)
        have hsn := SOwn.snoc (E := encNum) (xs := us) (x := (m : Int)) (by rw [HU.out]; exact hown5)
        go_wp2_with fail
        go_ret2
        exact ⟨xs, us ++ [(m : Int)], A, some ⟨g5, 0, none⟩, ca, cap5, by rw [HM.out, List.length_append, HU.out]; rfl, by rw [HM.out]; omega, by rw [List.length_append, HU.out]; simp; omega, (fun x hx => by rcases List.mem_append.1 hx with h9 | h9; exact HU2.out x h9; simp at h9; omega), hA7, hsn.mono hz1, hR7.mono (by omega), hx1.trans hX7⟩
def DrewUsed (w : World) (e : Ending) (w' : World) : Prop := ∃ (xs us : List Int) (A C : Option Addr) (ca cc : Nat), e = .returned (.tuple #[.slice A xs.length ca, .slice C us.length cc]) ∧ xs.length ≤ 11 ∧ us.length ≤ 13 ∧ (∀ x ∈ us, 0 ≤ x ∧ x ≤ 20) ∧ SOwn encNum w' w.heap.size 3 A ca xs ∧ SOwn encNum w' w.heap.size 3 C cc us ∧ Below w.heap.size w w'
set_option maxHeartbeats 4000000 in
theorem drRowOk_any (a : Option Addr) (len cap : Nat) (w : World) (h : CodeOk w a len cap) : Calls Try.prog 8 #[.slice a len cap] w (DrewUsed w) := by
  go_enter Try.func8, Try.ntmps8
  go_wp2_with fail
  refine (open_any _ _ _ _ h).mono ?_; rintro e w1 ⟨B, rfl, hB, h1, hb1⟩
  go_wp2_with fail
  refine (used_any B 0 _ h1 (by omega)).mono ?_; rintro e w2 ⟨xs, us, A, C, ca, cc, rfl, hx6, hu6, hub, hO, hP, _, hx⟩
  have hB2 := hb1.trans (hx.below (N := w.heap.size) (by omega) hb1.size)
  have hO2 := hO.mono hb1.size
  have hP2 := hP.mono hb1.size
  go_wp2_with fail
  go_ret2
  exact ⟨xs, us, A, C, ca, cc, rfl, hx6, hu6, hub, hO2, hP2, hB2⟩
end Go.Proofs.Ytidppabconifkab
