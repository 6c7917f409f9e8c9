/- Lists of lines: both sides make a row of their own. -/
import Derived.Test.YtgbelpkhfaajoabHw
import Derived.Test.YtgbelpkhfaajoabGWay
namespace Go.Proofs.Ytgbelpkhfaajoab
open Go Go.ChangeShapes Go.WideShapes Go.ChangeAt Go.RowKit
set_option linter.unusedSimpArgs false
set_option linter.unusedVariables false

def lnsTo (l : Int) (k : Nat) : List VWay := (List.range k).map fun i : Nat => (lnE l ((i : Int) - 12), lnN ((i : Int) - 12))
def linesL (l : Int) : List VWay := lnsTo l 24
theorem lnsTo_len (l : Int) (k : Nat) : (lnsTo l k).length = k := by simp [lnsTo]
theorem lnsTo_succ (l : Int) (k : Nat) : lnsTo l (k + 1) = lnsTo l k ++ [(lnE l ((k : Int) - 12), lnN ((k : Int) - 12))] := by simp [lnsTo, List.range_succ]
theorem lnsTo_at (l : Int) (k i : Nat) (h : i < (lnsTo l k).length) : (lnsTo l k)[i] = (lnE l ((i : Int) - 12), lnN ((i : Int) - 12)) := by simp [lnsTo]
/-- What LinesOf hands back. -/
def linesR (l : Int) : List VWay := if laB l = true then linesL l else []
theorem linesR_len (l : Int) : (linesR l).length ≤ 24 := by unfold linesR linesL; split <;> simp [lnsTo_len]
def WaysRet (xs : List VWay) (w : World) (e : Ending) (w' : World) : Prop :=
  ∃ (A : Option Addr) (cap : Nat), e = .returned (.slice A xs.length cap) ∧ SOwn encWay w' w.heap.size 30 A cap xs ∧ Below w.heap.size w w'
set_option maxHeartbeats 4000000 in
theorem lysOn_any (l : Int) (w : World) : Calls Try.prog 51 #[.iface 52 (.int .i64 l)] w (WaysRet (linesR l) w) := by
  obtain ⟨i0, hi0, hz0, hz1, hz2⟩ := info_parts infoWay
  have HI := Lib.hid (And.intro hi0 (And.intro hz0 (And.intro hz1 hz2)))
  clear hi0 hz0 hz1 hz2
  have m1 := lyM_has l
  have m2 := lyM_line l
  cases hl : laB l
  · have HL := Lib.hid hl
    clear hl
    go_enter Try.func51, Try.ntmps51
    go_wp2_with (go_at_call 86; refine (lyHas_any _ _).mono ?_; rintro e w' ⟨rfl, rfl⟩; rw [HL.out])
    go_ret
    have e0 : linesR l = [] := by unfold linesR; rw [HL.out]; rfl
    rw [e0]
    exact ⟨none, 0, rfl, SOwn.nil _ _ _, Below.refl _ _⟩
  · have HL := Lib.hid hl
    clear hl
    go_enter Try.func51, Try.ntmps51
    go_wp2_with (go_at_call 86; refine (lyHas_any _ _).mono ?_; rintro e w' ⟨rfl, rfl⟩; rw [HL.out])
    go_loopw [3, 4] (fun v vh wr => ∃ (k : Nat) (A : Option Addr) (cap : Nat), vh = .int .i64 ((k : Int) - 12) ∧ v = .slice A k cap ∧ k ≤ 24 ∧ SOwn encWay wr w.heap.size 30 A cap (lnsTo l k) ∧ Below w.heap.size w wr) (fun _ vh _ => (12 - intOf vh).toNat)
    case atStart => exact ⟨0, none, 0, rfl, rfl, by omega, SOwn.nil _ _ _, Below.refl _ _⟩
    case round =>
      obtain ⟨k, A, cap, rfl, rfl, k1, hO, hB⟩ := hrel
      by_cases hlt : k < 24
      · have hk : (k : Int) - 12 ≤ 11 := by omega
        have hk2 : (k : Int) - 12 < 12 := by omega
        go_wp2_with fail
        refine (lyLine_any _ _ _ (by omega) hk).mono ?_; rintro e w1 ⟨rfl, hw1⟩
        have hB1 := bel_next hB hw1
        have hOa := (hO.next hw1).alloc (.cells (encWay.enc (lnE l ((k : Int) - 12), lnN ((k : Int) - 12))).toArray 30)
        have hcp := hB1.size
        go_wp2_with (at_builtin; refine wpList_append_lies _ rfl (.tmp 12) (.tmp 16) _ rfl w.heap.size 30 i0 _ 2 16 Try.underlying34 HI.out.1 HI.out.2.1 HI.out.2.2.1 HI.out.2.2.2 rfl (by omega) (.slice A k cap) k (encWay.flat (lnsTo l k)) rfl (by unfold SOwn at hOa; rw [lnsTo_len] at hOa; exact hOa) ⟨w1.heap.size, 0, none⟩ 1 1 (encWay.enc (lnE l ((k : Int) - 12), lnN ((k : Int) - 12))) rfl rfl (new_enc w1 (lnE l ((k : Int) - 12), lnN ((k : Int) - 12)) _) (encWay.one _) (by omega) (by simp only [maxLen]; omega) (by omega) (by simp; omega) _ rfl ?_; intro g5 cap5 w5 hown5 hgr5 hat5 hlt5)
        go_roundw
        case rel =>
          have hsn := SOwn.snoc (E := encWay) (xs := lnsTo l k) (x := (lnE l ((k : Int) - 12), lnN ((k : Int) - 12))) (by rw [lnsTo_len]; exact hown5)
          have hB5 := SOwn.below_grown hOa (hB1.alloc hB1.size _) hgr5
          rw [← lnsTo_succ] at hsn
          exact ⟨k + 1, some ⟨g5, 0, none⟩, cap5, by go_num, rfl, by omega, hsn, hB5⟩
        case measure => simp [intOf]; omega
      · have hk : ¬ (k : Int) - 12 ≤ 11 := by omega
        have hk2 : ¬ (k : Int) - 12 < 12 := by omega
        go_wp2_with fail
        go_ret
        obtain rfl : k = 24 := by omega
        have e0 : linesR l = lnsTo l 24 := by unfold linesR linesL; rw [HL.out]; rfl
        rw [e0]
        exact ⟨A, cap, by rw [lnsTo_len]; rfl, hO, hB⟩
set_option maxHeartbeats 1000000 in
theorem iLns_any (l : Int) (w : World) : Calls Try.prog 23 #[.int .i64 l] w (WaysRet (linesR l) w) := by
  go_enter Try.func23, Try.ntmps23
  go_wp2_with fail
  refine (lysOn_any _ _).mono ?_; rintro e w1 ⟨A, cap, rfl, hO, hB⟩
  go_wp2
  go_ret
  exact ⟨A, cap, rfl, hO, hB⟩
set_option maxHeartbeats 4000000 in
theorem sLns_any (l : Int) (w : World) : Calls Try.prog 25 #[.int .i64 l] w (WaysRet (linesR l) w) := by
  obtain ⟨i0, hi0, hz0, hz1, hz2⟩ := info_parts infoWay
  have HI := Lib.hid (And.intro hi0 (And.intro hz0 (And.intro hz1 hz2)))
  clear hi0 hz0 hz1 hz2
  cases hl : laB l
  · have HL := Lib.hid hl
    clear hl
    go_enter Try.func25, Try.ntmps25
    go_wp2_with fail
    go_loopw [3, 4] (fun v vh wr => ∃ (k : Nat) (A : Option Addr), vh = .int .i64 ((k : Int) - 12) ∧ v = .slice A 0 0 ∧ k ≤ 24 ∧ SOwn encWay wr w.heap.size 30 A 0 [] ∧ Below w.heap.size w wr) (fun _ vh _ => (12 - intOf vh).toNat)
    case atStart => exact ⟨0, _, rfl, rfl, by omega, SOwn.empty (blk_new w _) (Nat.le_refl _), bel1 _ _⟩
    case round =>
      obtain ⟨k, A, rfl, rfl, k1, hO, hB⟩ := hrel
      by_cases hlt : k < 24
      · have hk : (k : Int) - 12 ≤ 11 := by omega
        have hk2 : (k : Int) - 12 < 12 := by omega
        go_wp2_with fail
        refine (sLn_f _ _ _ (.inl HL.out)).mono ?_; rintro e w1 ⟨rfl, hw1⟩
        have hB1 := bel_next hB hw1
        have hO1 := hO.next hw1
        go_wp2_with fail
        go_roundw
        case rel => exact ⟨k + 1, A, by go_num, rfl, by omega, hO1.alloc _, hB1.alloc hB1.size _⟩
        case measure => simp [intOf]; omega
      · have hk2 : ¬ (k : Int) - 12 < 12 := by omega
        go_wp2_with fail
        go_ret
        have e0 : linesR l = [] := by unfold linesR; rw [HL.out]; rfl
        rw [e0]
        exact ⟨A, 0, rfl, hO, hB⟩
  · have HL := Lib.hid hl
    clear hl
    go_enter Try.func25, Try.ntmps25
    go_wp2_with fail
    go_loopw [3, 4] (fun v vh wr => ∃ (k : Nat) (A : Option Addr) (cap : Nat), vh = .int .i64 ((k : Int) - 12) ∧ v = .slice A k cap ∧ k ≤ 24 ∧ SOwn encWay wr w.heap.size 30 A cap (lnsTo l k) ∧ Below w.heap.size w wr) (fun _ vh _ => (12 - intOf vh).toNat)
    case atStart => exact ⟨0, _, 0, rfl, rfl, by omega, SOwn.empty (blk_new w _) (Nat.le_refl _), bel1 _ _⟩
    case round =>
      obtain ⟨k, A, cap, rfl, rfl, k1, hO, hB⟩ := hrel
      by_cases hlt : k < 24
      · have hk : (k : Int) - 12 ≤ 11 := by omega
        have hk2 : (k : Int) - 12 < 12 := by omega
        have hh : hrB ((k : Int) - 12) = true := hrB_iff.2 (by omega)
        have HH := Lib.hid hh
        clear hh
        go_wp2_with fail
        refine (sLn_t _ _ _ HL.out HH.out).mono ?_; rintro e w1 ⟨rfl, hw1⟩
        have hB1 := bel_next hB hw1
        have hOa := ((hO.next hw1).alloc (.cells #[.int .i64 (lnE l ((k : Int) - 12)), .int .i64 (lnN ((k : Int) - 12))] 30)).alloc (.cells (encWay.enc (lnE l ((k : Int) - 12), lnN ((k : Int) - 12))).toArray 30)
        have hcp := hB1.size
        have hB2 := hB1.alloc hB1.size (.cells #[.int .i64 (lnE l ((k : Int) - 12)), .int .i64 (lnN ((k : Int) - 12))] 30)
        go_wp2_with (at_builtin; refine wpList_append_lies _ rfl (.tmp 19) (.tmp 21) _ rfl w.heap.size 30 i0 _ 2 16 Try.underlying34 HI.out.1 HI.out.2.1 HI.out.2.2.1 HI.out.2.2.2 rfl (by omega) (.slice A k cap) k (encWay.flat (lnsTo l k)) rfl (by unfold SOwn at hOa; rw [lnsTo_len] at hOa; exact hOa) ⟨w1.heap.size + 1, 0, none⟩ 1 1 (encWay.enc (lnE l ((k : Int) - 12), lnN ((k : Int) - 12))) rfl rfl (new_enc1 _ _ (lnE l ((k : Int) - 12), lnN ((k : Int) - 12)) _) (encWay.one _) (by omega) (by simp only [maxLen]; omega) (by omega) (by simp; omega) _ rfl ?_; intro g5 cap5 w5 hown5 hgr5 hat5 hlt5)
        go_roundw
        case rel =>
          have hsn := SOwn.snoc (E := encWay) (xs := lnsTo l k) (x := (lnE l ((k : Int) - 12), lnN ((k : Int) - 12))) (by rw [lnsTo_len]; exact hown5)
          have hB5 := SOwn.below_grown hOa (hB2.alloc hB2.size _) hgr5
          rw [← lnsTo_succ] at hsn
          exact ⟨k + 1, some ⟨g5, 0, none⟩, cap5, by go_num, rfl, by omega, hsn, hB5⟩
        case measure => simp [intOf]; omega
      · have hk : ¬ (k : Int) - 12 ≤ 11 := by omega
        have hk2 : ¬ (k : Int) - 12 < 12 := by omega
        go_wp2_with fail
        go_ret
        obtain rfl : k = 24 := by omega
        have e0 : linesR l = lnsTo l 24 := by unfold linesR linesL; rw [HL.out]; rfl
        rw [e0]
        exact ⟨A, cap, by rw [lnsTo_len]; rfl, hO, hB⟩
end Go.Proofs.Ytgbelpkhfaajoab
