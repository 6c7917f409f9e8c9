/- Contracts of chapter 5: the corners of shadows. -/
import Derived.Test.YtlahjgjjebkpjabVf
import Derived.Test.YtlahjgjjebkpjabVv
import Derived.Test.YtlahjgjjebkpjabGSpot
import Derived.Test.YtlahjgjjebkpjabGs
namespace Go.Proofs.Ytlahjgjjebkpjab
open Go Go.ChangeShapes Go.WideShapes Go.ChangeAt Go.RowKit
set_option linter.unusedSimpArgs false
set_option linter.unusedVariables false
set_option linter.unnecessarySimpa false

def cnF (a b c d h re rn ru : Int) (k : Nat) : VSpot := (tipN (corE a b k) re h ru, tipN (corN c d k) rn h ru, ru)
def cnL (a b c d h re rn ru : Int) : List VSpot := if (blB a b c d h && ryB re rn ru) = true then markS (cnF a b c d h re rn ru) 4 else []
theorem cnL_no1 {a b c d h re rn ru : Int} (hb : blB a b c d h = false) : cnL a b c d h re rn ru = [] := by unfold cnL; rw [hb]; rfl
theorem cnL_no2 {a b c d h re rn ru : Int} (hr : ryB re rn ru = false) : cnL a b c d h re rn ru = [] := by unfold cnL; rw [hr]; simp
theorem cnL_yes {a b c d h re rn ru : Int} (hb : blB a b c d h = true) (hr : ryB re rn ru = true) : cnL a b c d h re rn ru = markS (cnF a b c d h re rn ru) 4 := by unfold cnL; rw [hb, hr]; rfl
theorem markS_succ {α : Type} (f : Nat → α) (k : Nat) : markS f (k + 1) = markS f k ++ [f k] := by simp [markS, List.range_succ]
theorem tp_cor {a b c d h re rn ru : Int} (hb : blB a b c d h = true) (hr : ryB re rn ru = true) (k : Nat) : tpB (corE a b k) (corN c d k) h re rn ru = true := by
  have e := blB_iff.1 hb
  unfold tpB; rw [hr]
  have h1 : plB (corE a b k) (corN c d k) = true := by
    rw [plB_iff]; unfold corE corN; split <;> split <;> omega
  have h2 : inV h 0 30 = true := by unfold inV; simp; omega
  rw [h1, h2]; rfl
theorem blk_grown {w w' : World} {row : Option Nat} {k : Nat} {o : Obj} (h : w.heap[k]? = some o) (hg : w.grownBy w' row) (hne : row ≠ some k) : w'.heap[k]? = some o := by
  rw [hg.block k (blk_lt h) (fun e => hne e.symm)]; exact h
theorem SOwn.ne_low {α : Type} {E : Enc α} {w : World} {base : Nat} {T : TypeId} {A : Option Addr} {cap n k : Nat} {xs : List α} (h : SOwn E w base T A cap xs) (hk : k < base) : Value.ownBlock (.slice A n cap) ≠ some k := by
  rcases h.form with ⟨rfl, _⟩ | ⟨g, rfl, hb, _⟩
  · simp [Value.ownBlock]
  · simp [Value.ownBlock]; omega
theorem SOwn.ne_type {α : Type} {E : Enc α} {w : World} {base : Nat} {T T' : TypeId} {A : Option Addr} {cap n k : Nat} {xs : List α} {c : Array Value} {z : Nat × Nat} (h : SOwn E w base T A cap xs) (hk : w.heap[k]? = some (.cells c T' z)) (hT : T ≠ T') : Value.ownBlock (.slice A n cap) ≠ some k := by
  rcases h.2 with ⟨e, _⟩ | ⟨g, cap', cur, e, hb, hg, _⟩
  · simp only [Value.slice.injEq] at e
    rw [e.1]; simp [Value.ownBlock]
  · simp only [Value.slice.injEq] at e
    rw [e.1]
    simp only [Value.ownBlock, ne_eq]
    intro h2
    have e2 : g = k := by simpa using h2
    rw [e2, hk] at hg
    simp at hg
    exact hT hg.2.1.symm
def SpotsRet (l : List VSpot) (w : World) (e : Ending) (w' : World) : Prop := ∃ (A : Option Addr) (cap : Nat), e = .returned (.slice A l.length cap) ∧ SOwn encSpot w' w.heap.size 63 A cap l ∧ Below w.heap.size w w'
set_option maxRecDepth 100000 in
set_option maxHeartbeats 4000000 in
theorem iCn_any (a b c d h re rn ru : Int) (w : World) :
    Calls Try.prog 43 #[.agg #[.int .i64 a, .int .i64 b, .int .i64 c, .int .i64 d, .int .i64 h], .agg #[.int .i64 re, .int .i64 rn, .int .i64 ru]] w (SpotsRet (cnL a b c d h re rn ru) w) := by
  obtain ⟨i0, hi0, hz0, hz1, hz2⟩ := info_parts infoSpot
  have HI := Lib.hid (And.intro hi0 (And.intro hz0 (And.intro hz1 hz2)))
  clear hi0 hz0 hz1 hz2
  cases hb : blB a b c d h
  · rw [cnL_no1 hb]
    have HB := Lib.hid hb
    clear hb
    go_enter Try.func43, Try.ntmps43
    go_wp2_with fail
    refine (iBV_is _ HB.out).mono ?_; rintro E w1 ⟨rfl, hw1⟩
    obtain ⟨hP1, hQ1, hB1⟩ := ownb2 hw1
    obtain ⟨cP1_0, cP1_1, cP1_2, cP1_3, cP1_4, fP1_0, fP1_1, fP1_2, fP1_3, fP1_4, zP1⟩ := blk5 hP1
    obtain ⟨cQ1_0, cQ1_1, cQ1_2, fQ1_0, fQ1_1, fQ1_2, zQ1⟩ := blk3 hQ1
    go_wp2
    go_ret
    exact ⟨none, 0, rfl, SOwn.nil _ _ _, hB1⟩
  · cases hr : ryB re rn ru
    · rw [cnL_no2 hr]
      have HB := Lib.hid hb
      have HR := Lib.hid hr
      clear hb hr
      go_enter Try.func43, Try.ntmps43
      go_wp2_with fail
      refine (iBV_is _ HB.out).mono ?_; rintro E w1 ⟨rfl, hw1⟩
      obtain ⟨hP1, hQ1, hB1⟩ := ownb2 hw1
      obtain ⟨cP1_0, cP1_1, cP1_2, cP1_3, cP1_4, fP1_0, fP1_1, fP1_2, fP1_3, fP1_4, zP1⟩ := blk5 hP1
      obtain ⟨cQ1_0, cQ1_1, cQ1_2, fQ1_0, fQ1_1, fQ1_2, zQ1⟩ := blk3 hQ1
      go_wp2_with fail
      refine (iRV_is _ HR.out).mono ?_; rintro E w2 ⟨rfl, hw2⟩
      have hP2 := blk_next hP1 hw2
      have hQ2 := blk_next hQ1 hw2
      have hB2 := bel_next hB1 hw2
      obtain ⟨cP2_0, cP2_1, cP2_2, cP2_3, cP2_4, fP2_0, fP2_1, fP2_2, fP2_3, fP2_4, zP2⟩ := blk5 hP2
      obtain ⟨cQ2_0, cQ2_1, cQ2_2, fQ2_0, fQ2_1, fQ2_2, zQ2⟩ := blk3 hQ2
      go_wp2
      go_ret
      exact ⟨none, 0, rfl, SOwn.nil _ _ _, hB2⟩
    · rw [cnL_yes hb hr]
      have HT := Lib.hid (tp_cor hb hr)
      have HB := Lib.hid hb
      have HR := Lib.hid hr
      clear hb hr
      go_enter Try.func43, Try.ntmps43
      go_wp2_with fail
      refine (iBV_is _ HB.out).mono ?_; rintro E w1 ⟨rfl, hw1⟩
      obtain ⟨hP1, hQ1, hB1⟩ := ownb2 hw1
      obtain ⟨cP1_0, cP1_1, cP1_2, cP1_3, cP1_4, fP1_0, fP1_1, fP1_2, fP1_3, fP1_4, zP1⟩ := blk5 hP1
      obtain ⟨cQ1_0, cQ1_1, cQ1_2, fQ1_0, fQ1_1, fQ1_2, zQ1⟩ := blk3 hQ1
      go_wp2_with fail
      refine (iRV_is _ HR.out).mono ?_; rintro E w2 ⟨rfl, hw2⟩
      have hP2 := blk_next hP1 hw2
      have hQ2 := blk_next hQ1 hw2
      have hB2 := bel_next hB1 hw2
      obtain ⟨cP2_0, cP2_1, cP2_2, cP2_3, cP2_4, fP2_0, fP2_1, fP2_2, fP2_3, fP2_4, zP2⟩ := blk5 hP2
      obtain ⟨cQ2_0, cQ2_1, cQ2_2, fQ2_0, fQ2_1, fQ2_2, zQ2⟩ := blk3 hQ2
      go_wp2_with fail
      refine (foot_any _ _ _ _ _ _).mono ?_; rintro E w3 ⟨rfl, hw3⟩
      have hP3 := blk_next hP2 hw3
      have hQ3 := blk_next hQ2 hw3
      have hB3 := bel_next hB2 hw3
      obtain ⟨cP3_0, cP3_1, cP3_2, cP3_3, cP3_4, fP3_0, fP3_1, fP3_2, fP3_3, fP3_4, zP3⟩ := blk5 hP3
      obtain ⟨cQ3_0, cQ3_1, cQ3_2, fQ3_0, fQ3_1, fQ3_2, zQ3⟩ := blk3 hQ3
      go_wp2_with fail
      go_loopw [5, 20] (fun v i wr => ∃ (k : Nat) (A : Option Addr) (cap : Nat), k ≤ 4 ∧ i = .int .i64 k ∧ v = .slice A k cap ∧ SOwn encSpot wr (w.heap.size + 1 + 1) 63 A cap (markS (cnF a b c d h re rn ru) k) ∧ wr.heap[w.heap.size]? = some (.cells #[.int .i64 a, .int .i64 b, .int .i64 c, .int .i64 d, .int .i64 h] 26 (0, 0)) ∧ wr.heap[w.heap.size + 1]? = some (.cells #[.int .i64 re, .int .i64 rn, .int .i64 ru] 28 (0, 0)) ∧ Below w.heap.size w wr) (fun _ i _ => (4 - intOf i).toNat)
      case atStart => exact ⟨0, none, 0, by omega, rfl, rfl, SOwn.nil _ _ _, hP3, hQ3, hB3⟩
      case round =>
        obtain ⟨k, A, cap, k1, rfl, rfl, hO, hP, hQ, hB⟩ := hrel
        by_cases hlt : k < 4
        · have hki : (k : Int) < 4 := by omega
          have ix : ∀ w, (Instr.index 79 (.agg #[.int .i64 a, .int .i64 c, .int .i64 b, .int .i64 c, .int .i64 b, .int .i64 d, .int .i64 a, .int .i64 d]) (.int .i64 (k : Int))).run Try.prog w = .ok (.agg #[.int .i64 (corE a b k), .int .i64 (corN c d k)]) w := by
            have kk : k = 0 ∨ k = 1 ∨ k = 2 ∨ k = 3 := by omega
            clear hO hP hQ hB
            rcases kk with rfl | rfl | rfl | rfl
            all_goals exact fun _ => by kernel_rfl
          obtain ⟨p0, p1, p2, p3, p4, _, _, _, _, _, zp⟩ := blk5 hP
          obtain ⟨r0, r1, r2, _, _, _, zr⟩ := blk3 hQ
          go_wp2_with fail
          refine (iTip_t _ _ _ _ _ _ _ (HT.out k)).mono ?_; rintro E w7 ⟨rfl, hw7⟩
          have hP7 := blk_old (blk_next (blk_old hP _) hw7) (.cells #[.int .i64 (tipN (corE a b k) re h ru), .int .i64 (tipN (corN c d k) rn h ru), .int .i64 ru] 63 (0, 0))
          have hQ7 := blk_old (blk_next (blk_old hQ _) hw7) (.cells #[.int .i64 (tipN (corE a b k) re h ru), .int .i64 (tipN (corN c d k) rn h ru), .int .i64 ru] 63 (0, 0))
          have hB6 := bel_next (hB.alloc hB.size _) hw7
          have hB7 := hB6.alloc hB6.size (.cells #[.int .i64 (tipN (corE a b k) re h ru), .int .i64 (tipN (corN c d k) rn h ru), .int .i64 ru] 63 (0, 0))
          have hOa := (((hO.alloc _).next hw7).alloc (.cells #[.int .i64 (tipN (corE a b k) re h ru), .int .i64 (tipN (corN c d k) rn h ru), .int .i64 ru] 63 (0, 0))).alloc (.cells (encSpot.enc (cnF a b c d h re rn ru k)).toArray 63)
          have hcp := hB6.size
          go_wp2_with (at_builtin; refine wpList_append_lies _ rfl (.tmp 31) (.tmp 33) _ rfl (w.heap.size + 1 + 1) 63 i0 _ 3 24 Try.underlying59 HI.out.1 HI.out.2.1 HI.out.2.2.1 HI.out.2.2.2 rfl (by omega) (.slice A k cap) k (encSpot.flat (markS (cnF a b c d h re rn ru) k)) rfl (by unfold SOwn at hOa; rw [markS_len] at hOa; exact hOa) ⟨w7.heap.size + 1, 0, none⟩ 1 1 (encSpot.enc (cnF a b c d h re rn ru k)) rfl rfl (new_enc1 _ _ (cnF a b c d h re rn ru k) _) (encSpot.one _) (by omega) (by simp only [maxLen]; omega) (by omega) (by simp; omega) _ rfl ?_; intro g5 cap5 w5 hown5 hgr5 hat5 hlt5)
          have hB5 := SOwn.below_grown (hOa.mono (base' := w.heap.size) (by omega)) (hB7.alloc hB7.size _) hgr5
          have hP8 := blk_grown (blk_old hP7 _) hgr5 (SOwn.ne_low hOa (n := k) (by omega))
          have hQ8 := blk_grown (blk_old hQ7 _) hgr5 (SOwn.ne_low hOa (n := k) (by omega))
          go_wp2_with fail
          go_roundw
          case rel =>
            have hsn := SOwn.snoc (E := encSpot) (xs := markS (cnF a b c d h re rn ru) k) (x := (cnF a b c d h re rn ru k)) (by rw [markS_len]; exact hown5)
            rw [← markS_succ] at hsn
            exact ⟨k + 1, some ⟨g5, 0, none⟩, cap5, by omega, by go_num, rfl, hsn, hP8, hQ8, hB5⟩
          case measure => simp [intOf]; omega
        · obtain rfl : k = 4 := by omega
          go_wp2_with fail
          go_ret
          exact ⟨A, cap, rfl, hO.mono (by omega), hB⟩
set_option maxRecDepth 100000 in
set_option maxHeartbeats 4000000 in
theorem sCn_any (a b c d h re rn ru : Int) (w : World) :
    Calls Try.prog 45 #[.agg #[.int .i64 a, .int .i64 b, .int .i64 c, .int .i64 d, .int .i64 h], .agg #[.int .i64 re, .int .i64 rn, .int .i64 ru]] w (SpotsRet (cnL a b c d h re rn ru) w) := by
  obtain ⟨i0, hi0, hz0, hz1, hz2⟩ := info_parts infoSpot
  have HI := Lib.hid (And.intro hi0 (And.intro hz0 (And.intro hz1 hz2)))
  clear hi0 hz0 hz1 hz2
  cases hb : blB a b c d h
  · rw [cnL_no1 hb]
    have HB := Lib.hid hb
    clear hb
    go_enter Try.func45, Try.ntmps45
    go_wp2_with fail
    refine (sBV_is _ HB.out).mono ?_; rintro E w1 ⟨rfl, hw1⟩
    obtain ⟨hP1, hQ1, hR1, hB1⟩ := ownb3 hw1
    obtain ⟨p0, p1, p2, p3, p4, _, _, _, _, _, zp⟩ := blk5 hP1
    obtain ⟨r0, r1, r2, _, _, _, zr⟩ := blk3 hQ1
    go_wp2
    go_ret
    exact ⟨some ⟨w.heap.size + 1 + 1, 0, none⟩, 0, rfl, SOwn.empty hR1 (by omega), hB1⟩
  · cases hr : ryB re rn ru
    · rw [cnL_no2 hr]
      have HB := Lib.hid hb
      have HR := Lib.hid hr
      clear hb hr
      go_enter Try.func45, Try.ntmps45
      go_wp2_with fail
      refine (sBV_is _ HB.out).mono ?_; rintro E w1 ⟨rfl, hw1⟩
      obtain ⟨hP1, hQ1, hR1, hB1⟩ := ownb3 hw1
      obtain ⟨p0, p1, p2, p3, p4, _, _, _, _, _, zp⟩ := blk5 hP1
      obtain ⟨r0, r1, r2, _, _, _, zr⟩ := blk3 hQ1
      go_wp2_with fail
      refine (sRV_is _ HR.out).mono ?_; rintro E w2 ⟨rfl, hw2⟩
      clear p0 p1 p2 p3 p4 r0 r1 r2
      have hP2 := blk_next hP1 hw2
      have hQ2 := blk_next hQ1 hw2
      have hR2 := blk_next hR1 hw2
      have hB2 := bel_next hB1 hw2
      obtain ⟨p0, p1, p2, p3, p4, _, _, _, _, _, zp⟩ := blk5 hP2
      go_wp2
      go_ret
      exact ⟨some ⟨w.heap.size + 1 + 1, 0, none⟩, 0, rfl, SOwn.empty hR2 (by omega), hB2⟩
    · rw [cnL_yes hb hr]
      have HT := Lib.hid (tp_cor hb hr)
      have HB := Lib.hid hb
      have HR := Lib.hid hr
      clear hb hr
      go_enter Try.func45, Try.ntmps45
      go_wp2_with fail
      refine (sBV_is _ HB.out).mono ?_; rintro E w1 ⟨rfl, hw1⟩
      obtain ⟨hP1, hQ1, hR1, hB1⟩ := ownb3 hw1
      obtain ⟨p0, p1, p2, p3, p4, _, _, _, _, _, zp⟩ := blk5 hP1
      obtain ⟨r0, r1, r2, _, _, _, zr⟩ := blk3 hQ1
      go_wp2_with fail
      refine (sRV_is _ HR.out).mono ?_; rintro E w2 ⟨rfl, hw2⟩
      clear p0 p1 p2 p3 p4 r0 r1 r2
      have hP2 := blk_next hP1 hw2
      have hQ2 := blk_next hQ1 hw2
      have hR2 := blk_next hR1 hw2
      have hB2 := bel_next hB1 hw2
      obtain ⟨p0, p1, p2, p3, p4, _, _, _, _, _, zp⟩ := blk5 hP2
      go_wp2_with fail
      go_loopw [5, 7] (fun v i wr => ∃ (k : Nat) (A : Option Addr) (cap : Nat), k ≤ 4 ∧ i = .int .i64 k ∧ v = .slice A k cap ∧ SOwn encSpot wr (w.heap.size + 1 + 1) 63 A cap (markS (cnF a b c d h re rn ru) k) ∧ wr.heap[w.heap.size]? = some (.cells #[.int .i64 a, .int .i64 b, .int .i64 c, .int .i64 d, .int .i64 h] 26 (0, 0)) ∧ wr.heap[w.heap.size + 1]? = some (.cells #[.int .i64 re, .int .i64 rn, .int .i64 ru] 28 (0, 0)) ∧ wr.heap[w2.heap.size]? = some (.cells #[.int .i64 a, .int .i64 c, .int .i64 b, .int .i64 c, .int .i64 b, .int .i64 d, .int .i64 a, .int .i64 d] 24 (0, 0)) ∧ Below w.heap.size w wr) (fun _ i _ => (4 - intOf i).toNat)
      case atStart => exact ⟨0, some ⟨w.heap.size + 1 + 1, 0, none⟩, 0, by omega, rfl, rfl, SOwn.empty (blk_old hR2 _) (Nat.le_refl _), blk_old hP2 _, blk_old hQ2 _, blk_new w2 _, hB2.alloc hB2.size _⟩
      case round =>
        obtain ⟨k, A, cap, k1, rfl, rfl, hO, hP, hQ, hL, hB⟩ := hrel
        by_cases hlt : k < 4
        · have hki : (k : Int) < 4 := by omega
          have HA : Hid (∀ wv : World, wv.heap[w2.heap.size]? = some (.cells #[.int .i64 a, .int .i64 c, .int .i64 b, .int .i64 c, .int .i64 b, .int .i64 d, .int .i64 a, .int .i64 d] 24 (0, 0)) → wv.cell? ⟨w2.heap.size, k * 2, none⟩ = some (.int .i64 (corE a b k)) ∧ wv.cell? ⟨w2.heap.size, k * 2 + 1, none⟩ = some (.int .i64 (corN c d k))) := by
            intro wv hv
            have kk : k = 0 ∨ k = 1 ∨ k = 2 ∨ k = 3 := by omega
            rcases kk with rfl | rfl | rfl | rfl
            all_goals simp [World.cell?, hv, corE, corN]
          go_upto_region 8 with fail
          go_cut [8, 9] from 41 to 61 (fun s8 s9 wx => ∃ C : Nat, s8 = .pointer (some ⟨C, 0, none⟩) ∧ s9 = .bool true ∧ wx.heap[C]? = some (.cells #[.int .i64 (tipN (corE a b k) re h ru), .int .i64 (tipN (corN c d k) rn h ru), .int .i64 ru] 63 (0, 0)) ∧ Below wr.heap.size wr wx)
          case first =>
            refine wp_region_held_drew (S := (fun w' => w'.heap[w.heap.size]? = some (.cells #[.int .i64 a, .int .i64 b, .int .i64 c, .int .i64 d, .int .i64 h] 26 (0, 0)) ∧ w'.heap[w.heap.size + 1]? = some (.cells #[.int .i64 re, .int .i64 rn, .int .i64 ru] 28 (0, 0)) ∧ w'.heap[w2.heap.size]? = some (.cells #[.int .i64 a, .int .i64 c, .int .i64 b, .int .i64 c, .int .i64 b, .int .i64 d, .int .i64 a, .int .i64 d] 24 (0, 0)) ∧ Below wr.heap.size wr w')) (by kernel_rfl) ⟨hP, hQ, hL, (Below.refl _ _).drew⟩ (fun hHeld => ?_)
            obtain ⟨hP_0, hQ_0, hL_0, hB_0⟩ := id hHeld
            refine wpAnyH_take (i := 0) (oi := _) (v := ?_) rfl (by kernel_rfl) (by kernel_rfl) (by kernel_rfl) (fun _ _ _ h => h) (Or.inl ⟨by rfl, ?_⟩) (by assumption) ?_
            (rotate_left); (focus (intro wv hSw; (obtain ⟨qP, qQ, qL, qB⟩ := hSw); obtain ⟨_, _, _, _, _, _, _, _, _, _, _⟩ := blk5 qP; obtain ⟨_, _, _, _, _, _, _⟩ := blk3 qQ; obtain ⟨_, _⟩ := HA.out wv qL; go_simp; (try with_reducible rfl)))
            try simp only [Act.put, List.getElem_toArray, List.getElem_cons_succ, List.getElem_cons_zero, List.setIfInBounds_toArray, List.set_cons_zero, List.set_cons_succ]
            refine wpAnyH_take (i := 1) (oi := _) (v := ?_) rfl (by kernel_rfl) (by kernel_rfl) (by kernel_rfl) (fun _ _ _ h => h) (Or.inl ⟨by rfl, ?_⟩) (by assumption) ?_
            (rotate_left); (focus (intro wv hSw; (obtain ⟨qP, qQ, qL, qB⟩ := hSw); obtain ⟨_, _, _, _, _, _, _, _, _, _, _⟩ := blk5 qP; obtain ⟨_, _, _, _, _, _, _⟩ := blk3 qQ; obtain ⟨_, _⟩ := HA.out wv qL; go_simp; (try with_reducible rfl)))
            try simp only [Act.put, List.getElem_toArray, List.getElem_cons_succ, List.getElem_cons_zero, List.setIfInBounds_toArray, List.set_cons_zero, List.set_cons_succ]
            refine wpAnyH_take (i := 2) (oi := _) (v := ?_) rfl (by kernel_rfl) (by kernel_rfl) (by kernel_rfl) (fun _ _ _ h => h) (Or.inl ⟨by rfl, ?_⟩) (by assumption) ?_
            (rotate_left); (focus (intro wv hSw; (obtain ⟨qP, qQ, qL, qB⟩ := hSw); obtain ⟨_, _, _, _, _, _, _, _, _, _, _⟩ := blk5 qP; obtain ⟨_, _, _, _, _, _, _⟩ := blk3 qQ; obtain ⟨_, _⟩ := HA.out wv qL; go_simp; (try with_reducible rfl)))
            try simp only [Act.put, List.getElem_toArray, List.getElem_cons_succ, List.getElem_cons_zero, List.setIfInBounds_toArray, List.set_cons_zero, List.set_cons_succ]
            refine wpAnyH_take (i := 3) (oi := _) (v := ?_) rfl (by kernel_rfl) (by kernel_rfl) (by kernel_rfl) (fun _ _ _ h => h) (Or.inl ⟨by rfl, ?_⟩) (by assumption) ?_
            (rotate_left); (focus (intro wv hSw; (obtain ⟨qP, qQ, qL, qB⟩ := hSw); obtain ⟨_, _, _, _, _, _, _, _, _, _, _⟩ := blk5 qP; obtain ⟨_, _, _, _, _, _, _⟩ := blk3 qQ; obtain ⟨_, _⟩ := HA.out wv qL; go_simp; (try with_reducible rfl)))
            try simp only [Act.put, List.getElem_toArray, List.getElem_cons_succ, List.getElem_cons_zero, List.setIfInBounds_toArray, List.set_cons_zero, List.set_cons_succ]
            refine wpAnyH_take (i := 4) (oi := _) (v := ?_) rfl (by kernel_rfl) (by kernel_rfl) (by kernel_rfl) (fun _ _ _ h => h) (Or.inl ⟨by rfl, ?_⟩) (by assumption) ?_
            (rotate_left); (focus (intro wv hSw; (obtain ⟨qP, qQ, qL, qB⟩ := hSw); obtain ⟨_, _, _, _, _, _, _, _, _, _, _⟩ := blk5 qP; obtain ⟨_, _, _, _, _, _, _⟩ := blk3 qQ; obtain ⟨_, _⟩ := HA.out wv qL; go_simp; (try with_reducible rfl)))
            try simp only [Act.put, List.getElem_toArray, List.getElem_cons_succ, List.getElem_cons_zero, List.setIfInBounds_toArray, List.set_cons_zero, List.set_cons_succ]
            refine wpAnyH_take (i := 5) (oi := _) (v := ?_) rfl (by kernel_rfl) (by kernel_rfl) (by kernel_rfl) (fun _ _ _ h => h) (Or.inl ⟨by rfl, ?_⟩) (by assumption) ?_
            (rotate_left); (focus (intro wv hSw; (obtain ⟨qP, qQ, qL, qB⟩ := hSw); obtain ⟨_, _, _, _, _, _, _, _, _, _, _⟩ := blk5 qP; obtain ⟨_, _, _, _, _, _, _⟩ := blk3 qQ; obtain ⟨_, _⟩ := HA.out wv qL; go_simp; (try with_reducible rfl)))
            try simp only [Act.put, List.getElem_toArray, List.getElem_cons_succ, List.getElem_cons_zero, List.setIfInBounds_toArray, List.set_cons_zero, List.set_cons_succ]
            refine wpAnyH_take (i := 6) (oi := _) (v := ?_) rfl (by kernel_rfl) (by kernel_rfl) (by kernel_rfl) (fun _ _ _ h => h) (Or.inl ⟨by rfl, ?_⟩) (by assumption) ?_
            (rotate_left); (focus (intro wv hSw; (obtain ⟨qP, qQ, qL, qB⟩ := hSw); obtain ⟨_, _, _, _, _, _, _, _, _, _, _⟩ := blk5 qP; obtain ⟨_, _, _, _, _, _, _⟩ := blk3 qQ; obtain ⟨_, _⟩ := HA.out wv qL; go_simp; (try with_reducible rfl)))
            try simp only [Act.put, List.getElem_toArray, List.getElem_cons_succ, List.getElem_cons_zero, List.setIfInBounds_toArray, List.set_cons_zero, List.set_cons_succ]
            refine wpAnyH_ready (rs := [7, 11]) (by kernel_rfl) (by simp) ?_
            refine AllReadyH.cons (o := _) rfl (fun K hK => ?_) (AllReadyH.cons (o := _) rfl (fun K hK => ?_) (AllReadyH.nil))
            · go_simp
              (go_at_call 69; refine (sTip_t _ _ _ _ _ _ _ (HT.out k)).mono ?_; rintro e x0c ⟨rfl, hw_0c⟩)
              refine hK.out _ _ ⟨blk_next hP_0 hw_0c, blk_next hQ_0 hw_0c, blk_next hL_0 hw_0c, bel_next hB_0 hw_0c⟩ (fun hHeld => ?_)
              clear hK K
              try simp only [Act.put, List.getElem_toArray, List.getElem_cons_succ, List.getElem_cons_zero, List.setIfInBounds_toArray, List.set_cons_zero, List.set_cons_succ]
              obtain ⟨hP_0c, hQ_0c, hL_0c, hB_0c⟩ := id hHeld
              refine wpAnyH_take (i := 8) (oi := _) (v := ?_) rfl (by kernel_rfl) (by kernel_rfl) (by kernel_rfl) (fun _ _ _ h => h) (Or.inl ⟨by rfl, ?_⟩) (by assumption) ?_
              (rotate_left); (focus (intro wv hSw; (obtain ⟨qP, qQ, qL, qB⟩ := hSw); obtain ⟨_, _, _, _, _, _, _, _, _, _, _⟩ := blk5 qP; obtain ⟨_, _, _, _, _, _, _⟩ := blk3 qQ; obtain ⟨_, _⟩ := HA.out wv qL; go_simp; (try with_reducible rfl)))
              try simp only [Act.put, List.getElem_toArray, List.getElem_cons_succ, List.getElem_cons_zero, List.setIfInBounds_toArray, List.set_cons_zero, List.set_cons_succ]
              refine wpAnyH_take (i := 9) (oi := _) (v := ?_) rfl (by kernel_rfl) (by kernel_rfl) (by kernel_rfl) (fun _ _ _ h => h) (Or.inl ⟨by rfl, ?_⟩) (by assumption) ?_
              (rotate_left); (focus (intro wv hSw; (obtain ⟨qP, qQ, qL, qB⟩ := hSw); obtain ⟨_, _, _, _, _, _, _, _, _, _, _⟩ := blk5 qP; obtain ⟨_, _, _, _, _, _, _⟩ := blk3 qQ; obtain ⟨_, _⟩ := HA.out wv qL; go_simp; (try with_reducible rfl)))
              try simp only [Act.put, List.getElem_toArray, List.getElem_cons_succ, List.getElem_cons_zero, List.setIfInBounds_toArray, List.set_cons_zero, List.set_cons_succ]
              refine wpAnyH_take (i := 10) (oi := _) (v := ?_) rfl (by kernel_rfl) (by kernel_rfl) (by kernel_rfl) (fun _ _ _ h => h) (Or.inl ⟨by rfl, ?_⟩) (by assumption) ?_
              (rotate_left); (focus (intro wv hSw; (obtain ⟨qP, qQ, qL, qB⟩ := hSw); obtain ⟨_, _, _, _, _, _, _, _, _, _, _⟩ := blk5 qP; obtain ⟨_, _, _, _, _, _, _⟩ := blk3 qQ; obtain ⟨_, _⟩ := HA.out wv qL; go_simp; (try with_reducible rfl)))
              try simp only [Act.put, List.getElem_toArray, List.getElem_cons_succ, List.getElem_cons_zero, List.setIfInBounds_toArray, List.set_cons_zero, List.set_cons_succ]
              refine wpAnyH_ready (rs := [11]) (by kernel_rfl) (by simp) ?_
              refine AllReadyH.cons (o := _) rfl (fun K hK => ?_) (AllReadyH.nil)
              go_simp
              refine hK.out _ _ ⟨blk_old hP_0c _, blk_old hQ_0c _, blk_old hL_0c _, hB_0c.alloc (by have := hB_0c.size; omega) _⟩ (fun hHeld => ?_)
              clear hK K
              try simp only [Act.put, List.getElem_toArray, List.getElem_cons_succ, List.getElem_cons_zero, List.setIfInBounds_toArray, List.set_cons_zero, List.set_cons_succ]
              obtain ⟨hP_0ca, hQ_0ca, hL_0ca, hB_0ca⟩ := id hHeld
              have hA_0ca : (x0c.alloc (.cells #[.int .i64 0, .int .i64 0, .int .i64 0] 63)).heap[x0c.heap.size]? = some (.cells #[.int .i64 0, .int .i64 0, .int .i64 0] 63) := by have := blk_new (x0c) (.cells #[.int .i64 0, .int .i64 0, .int .i64 0] 63); simpa using this
              have zAP_0ca : w.heap.size < x0c.heap.size := by have := blk_lt hP_0c; simpa using this
              have zAQ_0ca : w.heap.size + 1 < x0c.heap.size := by have := blk_lt hQ_0c; simpa using this
              have zAL_0ca : w2.heap.size < x0c.heap.size := by have := blk_lt hL_0c; simpa using this
              have zAB_0ca : wr.heap.size ≤ x0c.heap.size := by have := hB_0c.size; simpa using this
              refine wpAnyH_ready (rs := [12]) (by kernel_rfl) (by simp) ?_
              refine AllReadyH.cons (o := _) rfl (fun K hK => ?_) (AllReadyH.nil)
              obtain ⟨sc0_0cac, sc1_0cac, sc2_0cac, sf0_0cac, sf1_0cac, sf2_0cac, sz_0cac⟩ := blk3 hA_0ca
              go_simp
              refine hK.out _ _ ⟨blk_old hP_0c _, blk_old hQ_0c _, blk_old hL_0c _, hB_0c.alloc (by have := hB_0c.size; omega) _⟩ (fun hHeld => ?_)
              clear hK K
              try simp only [Act.put, List.getElem_toArray, List.getElem_cons_succ, List.getElem_cons_zero, List.setIfInBounds_toArray, List.set_cons_zero, List.set_cons_succ]
              obtain ⟨hP_0cac, hQ_0cac, hL_0cac, hB_0cac⟩ := id hHeld
              have hA_0cac : (x0c.alloc (.cells #[.int .i64 (tipN (corE a b k) re h ru), .int .i64 (tipN (corN c d k) rn h ru), .int .i64 ru] 63)).heap[x0c.heap.size]? = some (.cells #[.int .i64 (tipN (corE a b k) re h ru), .int .i64 (tipN (corN c d k) rn h ru), .int .i64 ru] 63) := by have := blk_new (x0c) (.cells #[.int .i64 (tipN (corE a b k) re h ru), .int .i64 (tipN (corN c d k) rn h ru), .int .i64 ru] 63); simpa using this
              refine wpAnyH_take (i := 13) (oi := _) (v := ?_) rfl (by kernel_rfl) (by kernel_rfl) (by kernel_rfl) (fun _ _ _ h => h) (Or.inl ⟨by rfl, ?_⟩) (by assumption) ?_
              (rotate_left); (focus (intro wv hSw; (obtain ⟨qP, qQ, qL, qB⟩ := hSw); obtain ⟨_, _, _, _, _, _, _, _, _, _, _⟩ := blk5 qP; obtain ⟨_, _, _, _, _, _, _⟩ := blk3 qQ; obtain ⟨_, _⟩ := HA.out wv qL; go_simp; (try with_reducible rfl)))
              try simp only [Act.put, List.getElem_toArray, List.getElem_cons_succ, List.getElem_cons_zero, List.setIfInBounds_toArray, List.set_cons_zero, List.set_cons_succ]
              refine wpAnyH_done (by kernel_rfl) ?_ _
              go_wp2_with fail
              go_meet
              exact ⟨_, rfl, rfl, hA_0cac, hB_0cac⟩
            · go_simp
              refine hK.out _ _ ⟨blk_old hP_0 _, blk_old hQ_0 _, blk_old hL_0 _, hB_0.alloc (by have := hB_0.size; omega) _⟩ (fun hHeld => ?_)
              clear hK K
              try simp only [Act.put, List.getElem_toArray, List.getElem_cons_succ, List.getElem_cons_zero, List.setIfInBounds_toArray, List.set_cons_zero, List.set_cons_succ]
              obtain ⟨hP_0a, hQ_0a, hL_0a, hB_0a⟩ := id hHeld
              have hA_0a : (wr.drew.alloc (.cells #[.int .i64 0, .int .i64 0, .int .i64 0] 63)).heap[wr.heap.size]? = some (.cells #[.int .i64 0, .int .i64 0, .int .i64 0] 63) := by have := blk_new (wr.drew) (.cells #[.int .i64 0, .int .i64 0, .int .i64 0] 63); simpa using this
              have zAP_0a : w.heap.size < wr.heap.size := by have := blk_lt hP_0; simpa using this
              have zAQ_0a : w.heap.size + 1 < wr.heap.size := by have := blk_lt hQ_0; simpa using this
              have zAL_0a : w2.heap.size < wr.heap.size := by have := blk_lt hL_0; simpa using this
              have zAB_0a : wr.heap.size ≤ wr.heap.size := by have := hB_0.size; simpa using this
              refine wpAnyH_ready (rs := [7]) (by kernel_rfl) (by simp) ?_
              refine AllReadyH.cons (o := _) rfl (fun K hK => ?_) (AllReadyH.nil)
              go_simp
              (go_at_call 69; refine (sTip_t _ _ _ _ _ _ _ (HT.out k)).mono ?_; rintro e x0ac ⟨rfl, hw_0ac⟩)
              refine hK.out _ _ ⟨blk_next hP_0a hw_0ac, blk_next hQ_0a hw_0ac, blk_next hL_0a hw_0ac, bel_next hB_0a hw_0ac⟩ (fun hHeld => ?_)
              clear hK K
              try simp only [Act.put, List.getElem_toArray, List.getElem_cons_succ, List.getElem_cons_zero, List.setIfInBounds_toArray, List.set_cons_zero, List.set_cons_succ]
              obtain ⟨hP_0ac, hQ_0ac, hL_0ac, hB_0ac⟩ := id hHeld
              have hA_0ac := blk_next hA_0a hw_0ac
              refine wpAnyH_take (i := 8) (oi := _) (v := ?_) rfl (by kernel_rfl) (by kernel_rfl) (by kernel_rfl) (fun _ _ _ h => h) (Or.inl ⟨by rfl, ?_⟩) (by assumption) ?_
              (rotate_left); (focus (intro wv hSw; (obtain ⟨qP, qQ, qL, qB⟩ := hSw); obtain ⟨_, _, _, _, _, _, _, _, _, _, _⟩ := blk5 qP; obtain ⟨_, _, _, _, _, _, _⟩ := blk3 qQ; obtain ⟨_, _⟩ := HA.out wv qL; go_simp; (try with_reducible rfl)))
              try simp only [Act.put, List.getElem_toArray, List.getElem_cons_succ, List.getElem_cons_zero, List.setIfInBounds_toArray, List.set_cons_zero, List.set_cons_succ]
              refine wpAnyH_take (i := 9) (oi := _) (v := ?_) rfl (by kernel_rfl) (by kernel_rfl) (by kernel_rfl) (fun _ _ _ h => h) (Or.inl ⟨by rfl, ?_⟩) (by assumption) ?_
              (rotate_left); (focus (intro wv hSw; (obtain ⟨qP, qQ, qL, qB⟩ := hSw); obtain ⟨_, _, _, _, _, _, _, _, _, _, _⟩ := blk5 qP; obtain ⟨_, _, _, _, _, _, _⟩ := blk3 qQ; obtain ⟨_, _⟩ := HA.out wv qL; go_simp; (try with_reducible rfl)))
              try simp only [Act.put, List.getElem_toArray, List.getElem_cons_succ, List.getElem_cons_zero, List.setIfInBounds_toArray, List.set_cons_zero, List.set_cons_succ]
              refine wpAnyH_take (i := 10) (oi := _) (v := ?_) rfl (by kernel_rfl) (by kernel_rfl) (by kernel_rfl) (fun _ _ _ h => h) (Or.inl ⟨by rfl, ?_⟩) (by assumption) ?_
              (rotate_left); (focus (intro wv hSw; (obtain ⟨qP, qQ, qL, qB⟩ := hSw); obtain ⟨_, _, _, _, _, _, _, _, _, _, _⟩ := blk5 qP; obtain ⟨_, _, _, _, _, _, _⟩ := blk3 qQ; obtain ⟨_, _⟩ := HA.out wv qL; go_simp; (try with_reducible rfl)))
              try simp only [Act.put, List.getElem_toArray, List.getElem_cons_succ, List.getElem_cons_zero, List.setIfInBounds_toArray, List.set_cons_zero, List.set_cons_succ]
              refine wpAnyH_ready (rs := [12]) (by kernel_rfl) (by simp) ?_
              refine AllReadyH.cons (o := _) rfl (fun K hK => ?_) (AllReadyH.nil)
              obtain ⟨sc0_0acc, sc1_0acc, sc2_0acc, sf0_0acc, sf1_0acc, sf2_0acc, sz_0acc⟩ := blk3 hA_0ac
              go_simp
              refine hK.out _ _ ⟨blk_store3 hP_0ac (Nat.ne_of_lt zAP_0a) _ _ _, blk_store3 hQ_0ac (Nat.ne_of_lt zAQ_0a) _ _ _, blk_store3 hL_0ac (Nat.ne_of_lt zAL_0a) _ _ _, store3_bel hB_0ac zAB_0a _ _ _⟩ (fun hHeld => ?_)
              clear hK K
              try simp only [Act.put, List.getElem_toArray, List.getElem_cons_succ, List.getElem_cons_zero, List.setIfInBounds_toArray, List.set_cons_zero, List.set_cons_succ]
              obtain ⟨hP_0acc, hQ_0acc, hL_0acc, hB_0acc⟩ := id hHeld
              have hA_0acc := blk3_put (a := .int .i64 (tipN (corE a b k) re h ru)) (b := .int .i64 (tipN (corN c d k) rn h ru)) (c := .int .i64 ru) hA_0ac
              refine wpAnyH_take (i := 13) (oi := _) (v := ?_) rfl (by kernel_rfl) (by kernel_rfl) (by kernel_rfl) (fun _ _ _ h => h) (Or.inl ⟨by rfl, ?_⟩) (by assumption) ?_
              (rotate_left); (focus (intro wv hSw; (obtain ⟨qP, qQ, qL, qB⟩ := hSw); obtain ⟨_, _, _, _, _, _, _, _, _, _, _⟩ := blk5 qP; obtain ⟨_, _, _, _, _, _, _⟩ := blk3 qQ; obtain ⟨_, _⟩ := HA.out wv qL; go_simp; (try with_reducible rfl)))
              try simp only [Act.put, List.getElem_toArray, List.getElem_cons_succ, List.getElem_cons_zero, List.setIfInBounds_toArray, List.set_cons_zero, List.set_cons_succ]
              refine wpAnyH_done (by kernel_rfl) ?_ _
              go_wp2_with fail
              go_meet
              exact ⟨_, rfl, rfl, hA_0acc, hB_0acc⟩
          case rest =>
            clear HA
            obtain ⟨C, rfl, rfl, hC, hw7⟩ := hcut
            have hP7 := blk_next hP hw7
            have hQ7 := blk_next hQ hw7
            have hL7 := blk_next hL hw7
            have hB7 := bel_next hB hw7
            obtain ⟨c0, c1, c2, _, _, _, cz⟩ := blk3 hC
            have hOa := (hO.next hw7).alloc (.cells (encSpot.enc (cnF a b c d h re rn ru k)).toArray 63)
            have hcp := hB7.size
            have hzq := blk_lt hQ7
            go_wp2_with (at_builtin; refine wpList_append_lies _ rfl (.tmp 58) (.tmp 60) _ rfl (w.heap.size + 1 + 1) 63 i0 _ 3 24 Try.underlying59 HI.out.1 HI.out.2.1 HI.out.2.2.1 HI.out.2.2.2 rfl (by omega) (.slice A k cap) k (encSpot.flat (markS (cnF a b c d h re rn ru) k)) rfl (by unfold SOwn at hOa; rw [markS_len] at hOa; exact hOa) ⟨wc.heap.size, 0, none⟩ 1 1 (encSpot.enc (cnF a b c d h re rn ru k)) rfl rfl (new_enc _ (cnF a b c d h re rn ru k) _) (encSpot.one _) (by omega) (by simp only [maxLen]; omega) (by omega) (by simp; omega) _ rfl ?_; intro g5 cap5 w5 hown5 hgr5 hat5 hlt5)
            have hB5 := SOwn.below_grown (hOa.mono (base' := w.heap.size) (by omega)) (hB7.alloc hB7.size _) hgr5
            have hP8 := blk_grown (blk_old hP7 _) hgr5 (SOwn.ne_type hOa (n := k) (blk_old hP7 _) (by decide))
            have hQ8 := blk_grown (blk_old hQ7 _) hgr5 (SOwn.ne_type hOa (n := k) (blk_old hQ7 _) (by decide))
            have hL8 := blk_grown (blk_old hL7 _) hgr5 (SOwn.ne_type hOa (n := k) (blk_old hL7 _) (by decide))
            go_wp2_with fail
            go_roundw
            case rel =>
              have hsn := SOwn.snoc (E := encSpot) (xs := markS (cnF a b c d h re rn ru) k) (x := (cnF a b c d h re rn ru k)) (by rw [markS_len]; exact hown5)
              rw [← markS_succ] at hsn
              exact ⟨k + 1, some ⟨g5, 0, none⟩, cap5, by omega, by go_num, rfl, hsn, hP8, hQ8, hL8, hB5⟩
            case measure => simp [intOf]; omega
        · obtain rfl : k = 4 := by omega
          go_wp2_with fail
          go_ret
          exact ⟨A, cap, rfl, hO.mono (by omega), hB⟩
theorem cnL_len (a b c d h re rn ru : Int) : (cnL a b c d h re rn ru).length ≤ 4 := by unfold cnL; split <;> simp [markS_len]
theorem iCn_is {a b c d h re rn ru : Int} {l : List VSpot} (w : World) (hl : cnL a b c d h re rn ru = l) : Calls Try.prog 43 #[.agg #[.int .i64 a, .int .i64 b, .int .i64 c, .int .i64 d, .int .i64 h], .agg #[.int .i64 re, .int .i64 rn, .int .i64 ru]] w (SpotsRet l w) := by subst hl; exact iCn_any a b c d h re rn ru w
theorem sCn_is {a b c d h re rn ru : Int} {l : List VSpot} (w : World) (hl : cnL a b c d h re rn ru = l) : Calls Try.prog 45 #[.agg #[.int .i64 a, .int .i64 b, .int .i64 c, .int .i64 d, .int .i64 h], .agg #[.int .i64 re, .int .i64 rn, .int .i64 ru]] w (SpotsRet l w) := by subst hl; exact sCn_any a b c d h re rn ru w
end Go.Proofs.Ytlahjgjjebkpjab
