/- Contracts of chapter 1: weeks. -/
import Derived.Test.YtkeghnbckndgfaaCd
import Derived.Deep.DeepCutAuto
namespace Go.Proofs.Ytkeghnbckndgfaa
open Go.ChangeShapes Go.WideShapes Go.ChangeAt Go.RowKit
set_option linter.unusedSimpArgs false

theorem ownbd {w w1 : World} {o : Obj} (hb : Below (w.alloc o).drew.heap.size (w.alloc o).drew w1) : w1.heap[w.heap.size]? = some o ∧ Below w.heap.size w w1 :=
  ownb (o := o) ⟨hb.os, hb.tape, hb.output, hb.size, hb.block⟩
theorem set3 {w : World} {B : Nat} {x y z a b c : Value} (h0 : w.cell? ⟨B, 0, none⟩ = some x) (h1 : w.cell? ⟨B, 1, none⟩ = some y) (h2 : w.cell? ⟨B, 2, none⟩ = some z) :
    (((w.setCell ⟨B, 0, none⟩ a).setCell ⟨B, 1, none⟩ b).setCell ⟨B, 2, none⟩ c).cell? ⟨B, 0, none⟩ = some a ∧ (((w.setCell ⟨B, 0, none⟩ a).setCell ⟨B, 1, none⟩ b).setCell ⟨B, 2, none⟩ c).cell? ⟨B, 1, none⟩ = some b ∧ (((w.setCell ⟨B, 0, none⟩ a).setCell ⟨B, 1, none⟩ b).setCell ⟨B, 2, none⟩ c).cell? ⟨B, 2, none⟩ = some c := by
  have e10 : (w.setCell ⟨B, 0, none⟩ a).cell? ⟨B, 1, none⟩ = some y := by rw [World.cell?_setCell_other _ _ _ _ (by simp)]; exact h1
  have e20 : (w.setCell ⟨B, 0, none⟩ a).cell? ⟨B, 2, none⟩ = some z := by rw [World.cell?_setCell_other _ _ _ _ (by simp)]; exact h2
  have e21 : ((w.setCell ⟨B, 0, none⟩ a).setCell ⟨B, 1, none⟩ b).cell? ⟨B, 2, none⟩ = some z := by rw [World.cell?_setCell_other _ _ _ _ (by simp)]; exact e20
  refine ⟨?_, ?_, World.cell?_setCell_same _ _ _ e21⟩
  · rw [World.cell?_setCell_other _ _ _ _ (by simp), World.cell?_setCell_other _ _ _ _ (by simp)]; exact World.cell?_setCell_same _ _ _ h0
  · rw [World.cell?_setCell_other _ _ _ _ (by simp)]; exact World.cell?_setCell_same _ _ _ e10
theorem set3b {w : World} {B : Nat} {x y z a b c : Value} {t : TypeId} (h : w.heap[B]? = some (.cells #[x, y, z] t (0, 0))) :
    (((w.setCell ⟨B, 0, none⟩ a).setCell ⟨B, 1, none⟩ b).setCell ⟨B, 2, none⟩ c).cell? ⟨B, 0, none⟩ = some a ∧ (((w.setCell ⟨B, 0, none⟩ a).setCell ⟨B, 1, none⟩ b).setCell ⟨B, 2, none⟩ c).cell? ⟨B, 1, none⟩ = some b ∧ (((w.setCell ⟨B, 0, none⟩ a).setCell ⟨B, 1, none⟩ b).setCell ⟨B, 2, none⟩ c).cell? ⟨B, 2, none⟩ = some c :=
  set3 (blk3 h).1 (blk3 h).2.1 (blk3 h).2.2.1
theorem undrew {w w1 : World} (hb : Below w.drew.heap.size w.drew w1) : Below w.heap.size w w1 := ⟨hb.os, hb.tape, hb.output, hb.size, hb.block⟩
theorem l1Mod7_any (n : Int) (w : World) (h0 : 0 ≤ n) (h1 : n ≤ 9000000) :
    Calls Try.prog 29 #[.int .i64 n, .int .i64 7] w fun e w' => e = .returned (.int .i64 (n % 7)) ∧ w = w' := by
  go_enter Try.func29, Try.ntmps29
  go_wp2
  go_ret
  exact ⟨ret_int (by omega), rfl⟩
theorem l1F_any (y : Int) (w : World) (h1 : 1 ≤ y) (h2 : y ≤ 4001) :
    Calls Try.prog 17 #[.int .i64 y] w fun e w' => e = .returned (.int .i64 (fst y)) ∧ w = w' := by
  have hd := dby_bd y (by omega) (by omega)
  have hd0 : 0 ≤ dby y := by unfold dby; omega
  go_enter Try.func17, Try.ntmps17
  go_wp2_with fail
  refine (l1B_any _ _ h1 (by omega)).mono ?_; rintro e w' ⟨rfl, rfl⟩
  go_wp2_with fail
  refine (l1Mod7_any _ _ (by omega) (by omega)).mono ?_; rintro e w' ⟨rfl, rfl⟩
  go_wp2
  go_ret
  exact ⟨ret_int (by unfold fst; omega), rfl⟩
def WeekIs (n : Int) (w : World) (e : Ending) (w' : World) : Prop :=
  ∃ Y : Int, e = .returned (.tuple #[.int .i64 Y, .int .i64 ((n - fst Y) / 7 + 1)]) ∧ fst Y ≤ n ∧ n < fst (Y + 1) ∧ 1 ≤ Y ∧ Y ≤ 4000 ∧ Below w.heap.size w w'
theorem sWO_f (y m d : Int) (w : World) (h : valB y m d = false) :
    Calls Try.prog 6 #[.agg #[.int .i64 y, .int .i64 m, .int .i64 d]] w fun e w' => e = .returned (.tuple #[.int .i64 0, .int .i64 0]) ∧ Below w.heap.size w w' := by
  go_enter Try.func6, Try.ntmps6
  go_wp2_with fail
  refine (sDV_any _ _ _ _).mono ?_; rintro e w1 ⟨rfl, hw⟩
  obtain ⟨hH, hB⟩ := ownb hw
  go_wp2
  go_ret2
  exact ⟨rfl, hB⟩
theorem sWO_t (y m d : Int) (w : World) (h : valB y m d = true) :
    Calls Try.prog 6 #[.agg #[.int .i64 y, .int .i64 m, .int .i64 d]] w (WeekIs (num y m d) w) := by
  obtain ⟨h1, h2, h3, h4, h5, h6⟩ := valB_in h
  have hn := num_bd h
  have hin := num_in h
  have hs1 : num y m d < fst (y + 2) := by
    have := dby_mono (y + 1) (y + 2) (by omega); unfold fst; omega
  have hs0 : y = 1 → fst 1 ≤ num y m d := by intro _; rw [fst_1]; omega
  have hs2 : fst (y - 1) ≤ num y m d := by
    have := dby_mono (y - 1) y (by omega); unfold fst; omega
  have HS := Lib.hid (And.intro hs1 (And.intro hs0 hs2))
  clear hin hs1 hs0 hs2
  go_enter Try.func6, Try.ntmps6
  go_wp2_with fail
  refine (sDV_any _ _ _ _).mono ?_; rintro e w1 ⟨rfl, hw⟩
  obtain ⟨hH, hB⟩ := ownb hw
  obtain ⟨c0, c1, c2, f0, f1, f2, hz⟩ := blk3 hH
  go_wp2_with fail
  refine (sDN_t _ _ _ _ h).mono ?_; rintro e w2 ⟨rfl, hw2⟩
  obtain ⟨d0, d1, d2, g0, g1, g2, hz2⟩ := blk3 (blk_next hH hw2)
  have hB2 := bel_next hB hw2
  go_wp2_with fail
  go_loop [5] (fun t => ∃ Y : Int, 1 ≤ Y ∧ Y ≤ y + 1 ∧ num y m d < fst (Y + 1) ∧ t = .int .i64 Y) (fun t => (intOf t).toNat)
  case atStart => exact ⟨y + 1, by omega, by omega, by have := HS.out.1; rwa [show y + 1 + 1 = y + 2 by omega], rfl⟩
  case round =>
    obtain ⟨Y, hy1, hy2, hy3, rfl⟩ := hrel
    have HY := Lib.hid hy3
    have hb := fst_bd hy1 (by omega)
    clear hy3
    by_cases hc : num y m d < fst Y
    · have hy4 : 1 < Y := by
        by_cases e : Y = 1
        · subst e; rw [fst_1] at hc; omega
        · omega
      go_wp2_with (go_at_call 17; refine (l1F_any _ _ hy1 (by omega)).mono ?_; rintro e w' ⟨rfl, rfl⟩)
      go_round
      case rel => exact ⟨Y - 1, by omega, by omega, by rwa [show Y - 1 + 1 = Y by omega], rfl⟩
      case measure => simp [intOf]; omega
    · have hy4 : Y ≤ 4000 := by
        by_cases e : Y = 4001
        · subst e; rw [fst_4001] at hc; omega
        · omega
      go_wp2_with (go_at_call 17; refine (l1F_any _ _ hy1 (by omega)).mono ?_; rintro e w' ⟨rfl, rfl⟩)
      go_ret2
      exact ⟨Y, rfl, by omega, HY.out, hy1, hy4, hB2⟩
set_option maxHeartbeats 2000000 in
theorem iWO_f (y m d : Int) (w : World) (h : valB y m d = false) :
    Calls Try.prog 5 #[.agg #[.int .i64 y, .int .i64 m, .int .i64 d]] w fun e w' => e = .returned (.tuple #[.int .i64 0, .int .i64 0]) ∧ Below w.heap.size w w' := by
  have h' : ∀ k, ¬ (valB y m d = true ∧ 0 ≤ num y m d + k ∧ num y m d + k ≤ 1460969) := by intro k; rw [h]; simp
  have H' := Lib.hid h'
  clear h'
  go_enter Try.func5, Try.ntmps5
  go_upto_region 1 with fail
  go_cut [4, 5] (fun _ s5 wx => s5 = .bool false ∧ Below w.heap.size w wx)
  case first =>
    go_region_held3 (fun w' => w'.cell? ⟨w.heap.size, 0, none⟩ = some (.int .i64 y) ∧ w'.cell? ⟨w.heap.size, 1, none⟩ = some (.int .i64 m) ∧ w'.cell? ⟨w.heap.size, 2, none⟩ = some (.int .i64 d))
      (first
        | (refine ⟨?_, ?_, ?_⟩ <;> (simp [*]; done))
        | (go_split_ands; exact keepc3 (by first | assumption | (simp [*]; done)) (by first | assumption | (simp [*]; done)) (by first | assumption | (simp [*]; done)) hw)
        | (go_split_ands; exact keepc3 (by first | assumption | (simp [*]; done)) (by first | assumption | (simp [*]; done)) (by first | assumption | (simp [*]; done)) hw2)
        | (go_split_ands; (refine ⟨?_, ?_, ?_⟩ <;> (rw [World.cell?_setCell_far _ _ _ _ (by first | (simp; done) | (simp; omega)), World.cell?_setCell_far _ _ _ _ (by first | (simp; done) | (simp; omega)), World.cell?_setCell_far _ _ _ _ (by first | (simp; done) | (simp; omega))]; assumption)))
        | go_keep)
      (first | (go_at_call 10; refine (iWD_f _ _ _ _ h).mono ?_; rintro e w1 ⟨rfl, hw⟩; obtain ⟨hc, hf⟩ := bcell hw; have hz := hw.size; (try simp at hz); (have hz1 : w.heap.size < w1.heap.size := by omega); (replace hz := Nat.lt_of_succ_le hz)) | (go_at_call 9; refine (iDA_f _ _ _ _ _ (H'.out _)).mono ?_; rintro e w2 ⟨rfl, hw2⟩; obtain ⟨hc2, hf2⟩ := bcell hw2; have hz2 := hw2.size; (try simp at hz2); (have hz3 : w.heap.size < w2.heap.size := by omega); (try replace hz2 := Nat.lt_of_succ_le hz2)))
    all_goals (go_wp2_with fail; go_meet; refine ⟨rfl, ?_⟩; clear hc hf hc2 hf2; (repeat (first | exact Below.refl _ _ | refine Below.setCell ?_ (p := ⟨_, _, _⟩) (by first | omega | (simp; done) | (simp; omega)) _ | refine Below.drew ?_ | refine Below.alloc ?_ (by first | omega | (simp; done) | (simp; omega)) _ | refine bel_next ?_ (by assumption))))
  case rest =>
    obtain ⟨rfl, hB⟩ := hcut
    go_wp2
    go_ret2
    exact ⟨rfl, hB⟩
set_option maxHeartbeats 4000000 in
theorem iWO_t (y m d : Int) (w : World) (h : valB y m d = true) :
    Calls Try.prog 5 #[.agg #[.int .i64 y, .int .i64 m, .int .i64 d]] w (WeekIs (num y m d) w) := by
  have hn := num_bd h
  have HN := Lib.hid hn
  have hr : 0 ≤ num y m d + (4 - (num y m d % 7 + 1)) ∧ num y m d + (4 - (num y m d % 7 + 1)) ≤ 1460969 := by omega
  have HR := Lib.hid hr
  clear hr
  have ew : IntKind.i64.wrap (4 - (num y m d % 7 + 1)) = 4 - (num y m d % 7 + 1) := IntWalk.i64_in _ (by omega)
  clear hn
  go_enter Try.func5, Try.ntmps5
  go_upto_region 1 with fail
  go_cut [4, 5] (fun s4 s5 wx => ∃ B : Nat, ∃ a b c : Int, s4 = .pointer (some ⟨B, 0, none⟩) ∧ s5 = .bool true ∧ valB a b c = true ∧ num a b c = num y m d + (4 - (num y m d % 7 + 1)) ∧ wx.cell? ⟨B, 0, none⟩ = some (.int .i64 a) ∧ wx.cell? ⟨B, 1, none⟩ = some (.int .i64 b) ∧ wx.cell? ⟨B, 2, none⟩ = some (.int .i64 c) ∧ Below w.heap.size w wx)
  case first =>
    go_region_held3 (fun w' => w'.cell? ⟨w.heap.size, 0, none⟩ = some (.int .i64 y) ∧ w'.cell? ⟨w.heap.size, 1, none⟩ = some (.int .i64 m) ∧ w'.cell? ⟨w.heap.size, 2, none⟩ = some (.int .i64 d))
      (first
        | (refine ⟨?_, ?_, ?_⟩ <;> (simp [*]; done))
        | (go_split_ands; exact keepc3 (by first | assumption | (simp [*]; done)) (by first | assumption | (simp [*]; done)) (by first | assumption | (simp [*]; done)) hw)
        | (go_split_ands; exact keepc3 (by first | assumption | (simp [*]; done)) (by first | assumption | (simp [*]; done)) (by first | assumption | (simp [*]; done)) hw2)
        | (go_split_ands; (refine ⟨?_, ?_, ?_⟩ <;> (rw [World.cell?_setCell_far _ _ _ _ (by first | (simp; done) | (simp; omega)), World.cell?_setCell_far _ _ _ _ (by first | (simp; done) | (simp; omega)), World.cell?_setCell_far _ _ _ _ (by first | (simp; done) | (simp; omega))]; assumption)))
        | go_keep)
      (first | (go_at_call 10; refine (iWD_t _ _ _ _ h).mono ?_; rintro e w1 ⟨rfl, hw⟩; obtain ⟨hc, hf⟩ := bcell hw; have hz := hw.size; (try simp at hz); (have hz1 : w.heap.size < w1.heap.size := by omega); (replace hz := Nat.lt_of_succ_le hz)) | (go_at_call 9; refine (iDA_t _ _ _ _ _ h HR.out.1 HR.out.2).mono ?_; rintro e w2 ⟨a, b, c, rfl, hv, hq, hw2⟩; have HQ := Lib.hid hq; clear hq; obtain ⟨hc2, hf2⟩ := bcell hw2; have hz2 := hw2.size; (try simp at hz2); (have hz3 : w.heap.size < w2.heap.size := by omega); (try replace hz2 := Nat.lt_of_succ_le hz2)))
    all_goals (go_wp2_with fail; go_meet; refine ⟨_, a, b, c, rfl, rfl, hv, HQ.out, ?_, ?_, ?_, ?_⟩ <;> first | (simp [*]; done) | exact (set3b (ownb hw2).1).1 | exact (set3b (ownb hw2).1).2.1 | exact (set3b (ownb hw2).1).2.2 | exact (set3b (blk_next (ownb2 (undrew hw)).2.1 hw2)).1 | exact (set3b (blk_next (ownb2 (undrew hw)).2.1 hw2)).2.1 | exact (set3b (blk_next (ownb2 (undrew hw)).2.1 hw2)).2.2 | (clear hc hf hc2 hf2; (repeat (first | exact Below.refl _ _ | refine Below.setCell ?_ (p := ⟨_, _, _⟩) (by first | omega | (simp; done) | (simp; omega)) _ | refine Below.drew ?_ | refine Below.alloc ?_ (by first | omega | (simp; done) | (simp; omega)) _ | refine bel_next ?_ (by assumption)))))
  case rest =>
    obtain ⟨B, a, b, c, rfl, rfl, hv, hq, c0, c1, c2, hB⟩ := hcut
    have hin := num_in hv
    have htf : dby a ≤ num y m d - num y m d % 7 + 3 ∧ num y m d - num y m d % 7 + 3 < dby (a + 1) := by omega
    obtain ⟨t1, t2, t3⟩ := thu_fst htf.1 htf.2
    have hE : (cum b (leapB a) + c - 1) / 7 = (num y m d - fst a) / 7 := by
      rw [← t3]; congr 1; unfold num at hq ⊢; unfold num at hin; omega
    obtain ⟨a1, a2, a3, a4, a5, a6⟩ := valB_in hv
    have hd := dim_le b (leapB a)
    have hb := cum_bd b (leapB a) a3 a4
    have HE := Lib.hid (And.intro hE (And.intro t1 t2))
    have hBl := World.block_lt_of_cell? _ _ c0
    clear hE t1 t2 t3 htf hin hq ew
    have ew2 : IntKind.i64.wrap (cum b (leapB a) + c - 1) = cum b (leapB a) + c - 1 := IntWalk.i64_in _ (by omega)
    have ew3 : IntKind.i64.wrap (((cum b (leapB a) + c - 1).tdiv 7)) = (cum b (leapB a) + c - 1) / 7 := by rw [Int.tdiv_eq_ediv_of_nonneg (by omega)]; exact IntWalk.i64_in _ (by omega)
    have ew4 : IntKind.i64.wrap ((cum b (leapB a) + c - 1) / 7 + 1) = (cum b (leapB a) + c - 1) / 7 + 1 := IntWalk.i64_in _ (by omega)
    go_wp2_with fail
    go_region_held3 (fun w' => w'.cell? ⟨B, 0, none⟩ = some (.int .i64 a) ∧ w'.cell? ⟨B, 1, none⟩ = some (.int .i64 b) ∧ w'.cell? ⟨B, 2, none⟩ = some (.int .i64 c))
      (first
        | (refine ⟨?_, ?_, ?_⟩ <;> (simp [*]; done))
        | (go_split_ands; exact keepc3 (by first | assumption | (simp [*]; done)) (by first | assumption | (simp [*]; done)) (by first | assumption | (simp [*]; done)) hw))
      (first | (go_at_call 14; refine (iDOY_t _ _ _ _ hv).mono ?_; rintro e w3 ⟨rfl, hw⟩))
    go_wp2
    go_ret2
    refine ⟨a, ?_, HE.out.2.1, HE.out.2.2, a1, a2, bel_next hB (undrew hw)⟩
    rw [← HE.out.1]
    rfl
end Go.Proofs.Ytkeghnbckndgfaa
