/- Contracts of chapter 7: loads put into hours, by the program. -/
import Derived.Test.YtibpaojhjgpdaaaZl
import Derived.Test.YtibpaojhjgpdaaaLm
import Derived.Test.YtibpaojhjgpdaaaSiLoad
import Derived.Test.YtibpaojhjgpdaaaRp
namespace Go.Proofs.Ytibpaojhjgpdaaa
open Go Go.ChangeShapes Go.WideShapes Go.ChangeAt Go.RowKit
set_option linter.unusedSimpArgs false
set_option linter.unusedVariables false

def LwRet (l : List Int) (b : Bool) (w : World) (e : Ending) (w' : World) : Prop := ∃ (A : Option Addr) (cap : Nat), e = .returned (.tuple #[.slice A l.length cap, .bool b]) ∧ SOwn encNum w' w.heap.size 3 A cap l ∧ Below w.heap.size w w'
theorem iIn7_bw {n a b : Int} {r : Bool} (w : World) (h_ : inV n a b = r) : Calls Try.prog 59 #[.int .i64 n, .int .i64 a, .int .i64 b] w fun E w' => E = .returned (.bool r) ∧ Below w.heap.size w w' := (iIn7_is w h_).mono fun _ _ h => ⟨h.1, h.2 ▸ Below.refl _ _⟩
theorem ret_lw {A : Option Addr} {n m c : Nat} {a b : Bool} (h : n = m) (h2 : a = b) : Ending.returned (.tuple #[.slice A n c, .bool a]) = .returned (.tuple #[.slice A m c, .bool b]) := by rw [h, h2]
theorem inV_iffL {n a b : Int} : inV n a b = true ↔ a ≤ n ∧ n ≤ b := by unfold inV; rw [decide_eq_true_eq]
def cmpZ (a b : Int) : Int := if a < b then -1 else if b < a then 1 else 0
theorem nan_any (a : Int) (w : World) : Calls Try.prog 88 #[.int .i64 a] w fun e w' => e = .returned (.bool false) ∧ w = w' := by
  go_enter Try.func88, Try.ntmps88
  go_wp2
  go_ret
  exact ⟨ret_bool (by simp), rfl⟩
theorem cmpI_any (a b : Int) (w : World) : Calls Try.prog 82 #[.int .i64 a, .int .i64 b] w fun e w' => e = .returned (.int .i64 (cmpZ a b)) ∧ w = w' := by
  have HC : Hid (cmpZ a b = if a < b then -1 else if b < a then 1 else 0) := Lib.hid rfl
  generalize cmpZ a b = r at HC ⊢
  by_cases h1 : a < b
  · have h2 : ¬ b < a := by omega
    have HR : Hid (r = -1) := Lib.hid (by rw [HC.out, if_pos h1])
    go_enter Try.func82, Try.ntmps82
    go_wp2_with (go_at_call 88; refine (nan_any _ _).mono ?_; rintro E w' ⟨rfl, rfl⟩)
    all_goals go_ret
    all_goals exact ⟨ret_int (by rw [HR.out]), rfl⟩
  · by_cases h2 : b < a
    · have HR : Hid (r = 1) := Lib.hid (by rw [HC.out, if_neg h1, if_pos h2])
      go_enter Try.func82, Try.ntmps82
      go_wp2_with (go_at_call 88; refine (nan_any _ _).mono ?_; rintro E w' ⟨rfl, rfl⟩)
      all_goals go_ret
      all_goals exact ⟨ret_int (by rw [HR.out]), rfl⟩
    · have HR : Hid (r = 0) := Lib.hid (by rw [HC.out, if_neg h1, if_neg h2])
      go_enter Try.func82, Try.ntmps82
      go_wp2_with (go_at_call 88; refine (nan_any _ _).mono ?_; rintro E w' ⟨rfl, rfl⟩)
      all_goals go_ret
      all_goals exact ⟨ret_int (by rw [HR.out]), rfl⟩
theorem endC_any (a b c d : Int) (w : World) : Calls Try.prog 62 #[.agg #[.int .i64 a, .int .i64 b], .agg #[.int .i64 c, .int .i64 d]] w fun e w' => e = .returned (.int .i64 (cmpZ b d)) ∧ Below w.heap.size w w' := by
  go_enter Try.func62, Try.ntmps62
  go_wp2_with (go_at_call 82; refine (cmpI_any _ _ _).mono ?_; rintro E w' ⟨rfl, rfl⟩)
  go_ret
  exact ⟨rfl, (bel1 _ _).alloc (by simp) _⟩
theorem rowL {w : World} {A : Option Addr} {xs : List (Int × Int)} {n : Nat} (hn : xs.length = n) (h : SRow encLoad w A xs) : RowLoad w A n (fun i => (xs.getD i (0, 0)).1) (fun i => (xs.getD i (0, 0)).2) := by
  rcases h with rfl | ⟨b, off, rfl, hc⟩
  · exact .inl (by rw [← hn]; rfl)
  · refine .inr ⟨b, off, rfl, fun i hi => ?_⟩
    have hi' : i < xs.length := by omega
    have e : xs.getD i (0, 0) = xs[i] := by simp [hi']
    show _ = some (Value.int .i64 (xs.getD i (0, 0)).1) ∧ _ = some (Value.int .i64 (xs.getD i (0, 0)).2)
    rw [e]
    have h0 := hc i hi' 0 _ rfl
    have h1 := hc i hi' 1 _ rfl
    exact ⟨by simpa [encLoad] using h0, by simpa [encLoad, Nat.add_assoc] using h1⟩
theorem cmpL (xs : List (Int × Int)) (n : Nat) : CmpLoad n (fun i => (xs.getD i (0, 0)).1) (fun i => (xs.getD i (0, 0)).2) (fun i j => cmpZ (xs.getD i (0, 0)).2 (xs.getD j (0, 0)).2) := fun i j _ _ w => endC_any _ _ _ _ w
theorem fitL (xs : List (Int × Int)) (n : Nat) : FitLoad n (PreK (ends xs)) (fun i j => cmpZ (xs.getD i (0, 0)).2 (xs.getD j (0, 0)).2) where
  tot := preK_tot _ _
  lt i x h1 h2 h3 := by
    unfold PreK; rw [ky_ends, ky_ends]
    simp only [cmpZ] at h3
    split at h3
    · left; assumption
    · split at h3 <;> omega
  ge i x h1 h2 h3 := by
    unfold PreK; rw [ky_ends, ky_ends]
    simp only [cmpZ] at h3
    split at h3
    · omega
    · split at h3 <;> omega
set_option maxRecDepth 100000 in
set_option maxHeartbeats 8000000 in
theorem iLw9_is (A : Option Addr) (cap : Nat) (xs : List VLoad) {n : Nat} {m : Int} {l9 : List Int} {b9 : Bool} (w : World) (hn : xs.length = n) (h : SRow encLoad w A xs) (hl : n ≤ 2000000) (hr : lwL xs m = l9) (hr2 : lwB xs m = b9) :
    Calls Try.prog 29 #[.slice A n cap, .int .i64 m] w fun E w' => LwRet l9 b9 w E w' := by
  cases hv : ldB xs
  · have e9 := lwB_no1 (m := m) hv
    rw [lwL_no e9] at hr
    subst hr
    rw [e9] at hr2
    subst hr2
    clear e9
    have HV := Lib.hid hv
    clear hv
    have HN := Lib.hid hn
    clear hn
    go_enter Try.func29, Try.ntmps29
    go_wp2_with fail
    refine (iLv_is A cap xs _ HN.out h hl HV.out).mono ?_; rintro E w1 ⟨rfl, hB1⟩
    go_wp2
    go_ret2
    exact ⟨none, 0, rfl, SOwn.nil _ _ _, hB1⟩
  · cases hm : inV m 1 7
    · have e9 := lwB_no2 (xs := xs) (m := m) (fun h9 => by rw [show inV m 1 7 = true from by unfold inV; exact decide_eq_true h9] at hm; cases hm)
      rw [lwL_no e9] at hr
      subst hr
      rw [e9] at hr2
      subst hr2
      clear e9
      have HV := Lib.hid hv
      have HM := Lib.hid hm
      clear hv hm
      have HN := Lib.hid hn
      clear hn
      go_enter Try.func29, Try.ntmps29
      go_wp2_with fail
      refine (iLv_is A cap xs _ HN.out h hl HV.out).mono ?_; rintro E w1 ⟨rfl, hB1⟩
      go_wp2_with fail
      refine (iIn7_bw _ HM.out).mono ?_; rintro E w2 ⟨rfl, hw2⟩
      have hB2 := bel_next hB1 hw2
      go_wp2
      go_ret2
      exact ⟨none, 0, rfl, SOwn.nil _ _ _, hB2⟩
    · obtain ⟨m1, m7⟩ := inV_iffL.1 hm
      obtain ⟨k9, rfl⟩ : ∃ k9 : Nat, m = k9 := ⟨m.toNat, by omega⟩
      have hk1 : 1 ≤ k9 := by omega
      have hk7 : k9 ≤ 7 := by omega
      have hn7 : n ≤ 7 := by have := (ldB_iff.1 hv).1; omega
      have HLB := Lib.hid (lwB_is hv hk1 hk7)
      rw [hr2] at HLB
      have HLL : Hid (b9 = true → l9 = hrun xs (lo xs) k9 10) := Lib.hid (fun h9 => by rw [← hr]; exact lwL_yes (by rw [hr2]; exact h9))
      have HLN : Hid (b9 = false → l9 = []) := Lib.hid (fun h9 => by rw [← hr]; exact lwL_no (by rw [hr2]; exact h9))
      have HV := Lib.hid hv
      have HM := Lib.hid hm
      clear hv hm hr hr2
      have HN := Lib.hid hn
      clear hn
      go_enter Try.func29, Try.ntmps29
      go_wp2_with fail
      refine (iLv_is A cap xs _ HN.out h hl HV.out).mono ?_; rintro E w1 ⟨rfl, hB1⟩
      go_wp2_with fail
      refine (iIn7_bw _ HM.out).mono ?_; rintro E w2 ⟨rfl, hw2⟩
      have hB2 := bel_next hB1 hw2
      go_wp2_with fail
      refine (repN w2.heap.size (-1) n _ (blk_new w2 _) (by omega)).mono ?_; rintro E w3 ⟨G, rfl, hG0, hG3, hw3⟩
      have hB3 := bel_next (hB2.alloc hB2.size _) hw3
      have hGw : w.heap.size ≤ G := by have := hB2.size; simp at hG0; omega
      go_wp2_with fail
      refine (ordLoad (rowL HN.out (h.next hB3)) (Lib.hid (cmpL xs n)) (fitL xs n) (by omega)).mono ?_; rintro E w4 ⟨l, Q, rfl, hO, hQ0, hQ4, hw4⟩
      have hG4 := hG3.next hw4
      have hB4 := bel_next hB3 hw4
      have hGQ : G < Q := by have := hG3.lt; omega
      have hl9 : lo xs = l := lo_is HN.out hO
      have hOE : OrdE xs l := by unfold OrdE; rw [HN.out]; exact hO
      have hln : l.length = n := by rw [hOE.len, HN.out]
      have HO := Lib.hid (And.intro hOE (And.intro hl9 hln))
      have HHL : Hid (∀ h, (hrun xs l k9 h).length = n) := Lib.hid (fun h => by rw [hrun_len, HN.out])
      clear hO hl9 hOE hln hG3 hB1 hB2 hB3 hw2 hw3 hw4 hG0
      go_wp2_with fail
      go_loopw [26] (fun v wr => ∃ h9 : Nat, v = .int .i64 h9 ∧ h9 ≤ 10 ∧ SBlk encNum wr G 3 (hrun xs l k9 h9) ∧ SBlk encNum wr Q 3 (natL l) ∧ Below w.heap.size w wr) (fun v _ => (10 - intOf v).toNat)
      case atStart => exact ⟨0, rfl, by omega, by rw [hrun, HN.out]; exact hG4, hQ4, hB4⟩
      case round =>
        clear hG4 hQ4 hB4
        obtain ⟨h9, rfl, h10, hG, hQ, hB⟩ := hrel
        by_cases hlh : h9 < 10
        · have hhi : (h9 : Int) < 10 := by omega
          go_wp2_with fail
          go_loopw [9, 32] (fun rv pv wx => ∃ (p room : Nat), rv = .int .i64 room ∧ pv = .int .i64 p ∧ p ≤ n ∧ room ≤ 7 ∧ Hid (room = k9 - (cand xs (hrun xs l k9 h9) (h9 : Int) (l.take p)).length) ∧ SBlk encNum wx G 3 (setL (hrun xs l k9 h9) (h9 : Int) ((cand xs (hrun xs l k9 h9) (h9 : Int) (l.take p)).take k9)) ∧ SBlk encNum wx Q 3 (natL l) ∧ Below w.heap.size w wx) (fun _ pv _ => (n - intOf pv).toNat)
          case atStart => exact ⟨0, k9, rfl, rfl, by omega, by omega, Lib.hid (by simp [cand]), by simpa [cand, setL] using hG, hQ, hB⟩
          case round =>
            clear hG hQ hB
            obtain ⟨p, room, rfl, rfl, p1, room7, HRM, hG, hQ, hB⟩ := hrel
            by_cases hlp : p < n
            · have hpl : p < l.length := by rw [HO.out.2.2]; exact hlp
              have hpi : (p : Int) < (n : Int) := by omega
              have hoa := pt_at (h := (h9 : Int)) HO.out.1 (hrun_len xs l k9 h9) (m := k9) hpl
              have HC := Lib.hid (ptC (xs := xs) (o := hrun xs l k9 h9) (h := (h9 : Int)) (m := k9) hpl)
              have HA := Lib.hid (ptA (xs := xs) (o := hrun xs l k9 h9) (h := (h9 : Int)) (m := k9) hpl)
              have HBB := Lib.hid (ptB (xs := xs) (o := hrun xs l k9 h9) (h := (h9 : Int)) (m := k9) hpl)
              have hq0 := blkNum hQ (i := p) (by rw [natL_len]; exact hpl)
              rw [natL_at] at hq0
              have hix : l[p] < xs.length := HO.out.1.mem.1 (List.getElem_mem hpl)
              generalize l[p] = i at hoa HC HA HBB hq0 hix
              have hin : i < n := by rw [← HN.out]; exact hix
              have hini : (i : Int) < (n : Int) := by omega
              have hsl : (setL (hrun xs l k9 h9) (h9 : Int) ((cand xs (hrun xs l k9 h9) (h9 : Int) (l.take p)).take k9)).length = n := by rw [setL_len, hrun_len, HN.out]
              have hst : i < (setL (hrun xs l k9 h9) (h9 : Int) ((cand xs (hrun xs l k9 h9) (h9 : Int) (l.take p)).take k9)).length := by rw [hsl]; exact hin
              obtain ⟨b, off, rfl, hb, c0, c1⟩ := rowLoad (h.next hB) hix
              have hd0 : xs.getD i (0, 0) = xs[i] := by simp [hix]
              have hOK : Hid (okH xs (hrun xs l k9 h9) (h9 : Int) i = (decide ((hrun xs l k9 h9).getD i 0 = -1) && inV (h9 : Int) xs[i].1 xs[i].2)) := Lib.hid (by unfold okH inV; rw [hd0, ← Bool.decide_and])
              clear hd0
              have hld := ldV_iff.1 ((ldB_iff.1 HV.out).2 xs[i] (List.getElem_mem hix))
              obtain ⟨l0, l1, l2⟩ := hld
              generalize xs[i].1 = g at c0 hOK l0 l1
              generalize xs[i].2 = d at c1 hOK l1 l2
              have hcs : (setL (hrun xs l k9 h9) (h9 : Int) ((cand xs (hrun xs l k9 h9) (h9 : Int) (l.take p)).take k9))[i] = (setL (hrun xs l k9 h9) (h9 : Int) ((cand xs (hrun xs l k9 h9) (h9 : Int) (l.take p)).take k9)).getD i 0 := by simp [hst]
              rw [hoa] at hcs
              have d0 := blkNum hG hst
              rw [hcs] at d0
              generalize (hrun xs l k9 h9).getD i 0 = cur at d0 hOK hcs hoa
              have f0 := hG.frozen i
              have HST := Lib.hid hst
              have hi0 : (0 : Int) ≤ (i : Int) := by omega
              clear hoa hcs hsl hst
              by_cases h0r : room = 0
              · have hr1 : ¬ (0 : Int) < (room : Int) := by omega
                have hr2 : decide ((room : Int) > 0) = false := decide_eq_false (by omega)
                have hr3 : decide (0 < room) = false := decide_eq_false (by omega)
                have hr4 : ¬ 0 < room := by omega
                have hB9 := HBB.out (by have := HRM.out; omega)
                have HB1 := Lib.hid hB9.1
                have HB2 := Lib.hid hB9.2
                clear hB9
                have HR0 := Lib.hid h0r
                clear h0r
                go_wp2_with fail
                refine wp_region_held_drew (S := (fun w' => w'.cell? ⟨G, i, none⟩ = some (.int .i64 cur) ∧ w'.cell? ⟨b, off + i * 2, none⟩ = some (.int .i64 g) ∧ w'.cell? ⟨b, off + i * 2 + 1, none⟩ = some (.int .i64 d) ∧ SBlk encNum w' G 3 (setL (hrun xs l k9 h9) (h9 : Int) ((cand xs (hrun xs l k9 h9) (h9 : Int) (l.take p)).take k9)) ∧ SBlk encNum w' Q 3 (natL l) ∧ Below w.heap.size w w')) (by kernel_rfl) ⟨d0, c0, c1, hG, hQ, hB.drew⟩ (fun hHeld => ?_)
                obtain ⟨hD_0, hC_0, hE_0, hG_0, hQ_0, hB_0⟩ := id hHeld
                refine wpAnyH_take (i := 0) (oi := _) (v := ?_) rfl (by kernel_rfl) (by kernel_rfl) (by kernel_rfl) (fun _ _ _ h => h) (Or.inl ⟨by rfl, ?_⟩) (by assumption) ?_
                (rotate_left); (focus (intro wv hSw; (obtain ⟨qD, qC, qE, qG, qQ, qB⟩ := hSw);  go_simp; (try with_reducible rfl)))
                try simp only [Act.put, List.getElem_toArray, List.getElem_cons_succ, List.getElem_cons_zero, List.setIfInBounds_toArray, List.set_cons_zero, List.set_cons_succ]
                refine wpAnyH_take (i := 1) (oi := _) (v := ?_) rfl (by kernel_rfl) (by kernel_rfl) (by kernel_rfl) (fun _ _ _ h => h) (Or.inl ⟨by rfl, ?_⟩) (by assumption) ?_
                (rotate_left); (focus (intro wv hSw; (obtain ⟨qD, qC, qE, qG, qQ, qB⟩ := hSw);  go_simp; (try with_reducible rfl)))
                try simp only [Act.put, List.getElem_toArray, List.getElem_cons_succ, List.getElem_cons_zero, List.setIfInBounds_toArray, List.set_cons_zero, List.set_cons_succ]
                refine wpAnyH_take (i := 2) (oi := _) (v := ?_) rfl (by kernel_rfl) (by kernel_rfl) (by kernel_rfl) (fun _ _ _ h => h) (Or.inl ⟨by rfl, ?_⟩) (by assumption) ?_
                (rotate_left); (focus (intro wv hSw; (obtain ⟨qD, qC, qE, qG, qQ, qB⟩ := hSw);  go_simp; (try with_reducible rfl)))
                try simp only [Act.put, List.getElem_toArray, List.getElem_cons_succ, List.getElem_cons_zero, List.setIfInBounds_toArray, List.set_cons_zero, List.set_cons_succ]
                refine wpAnyH_take (i := 3) (oi := _) (v := undef) rfl (by kernel_rfl) (by kernel_rfl) (by kernel_rfl) (fun _ _ _ h => h) (Or.inr ⟨by kernel_rfl, rfl⟩) (by assumption) ?_
                try simp only [Act.put, List.getElem_toArray, List.getElem_cons_succ, List.getElem_cons_zero, List.setIfInBounds_toArray, List.set_cons_zero, List.set_cons_succ]
                refine wpAnyH_take (i := 4) (oi := _) (v := undef) rfl (by kernel_rfl) (by kernel_rfl) (by kernel_rfl) (fun _ _ _ h => h) (Or.inr ⟨by kernel_rfl, rfl⟩) (by assumption) ?_
                try simp only [Act.put, List.getElem_toArray, List.getElem_cons_succ, List.getElem_cons_zero, List.setIfInBounds_toArray, List.set_cons_zero, List.set_cons_succ]
                refine wpAnyH_take (i := 5) (oi := _) (v := undef) rfl (by kernel_rfl) (by kernel_rfl) (by kernel_rfl) (fun _ _ _ h => h) (Or.inr ⟨by kernel_rfl, rfl⟩) (by assumption) ?_
                try simp only [Act.put, List.getElem_toArray, List.getElem_cons_succ, List.getElem_cons_zero, List.setIfInBounds_toArray, List.set_cons_zero, List.set_cons_succ]
                refine wpAnyH_take (i := 6) (oi := _) (v := undef) rfl (by kernel_rfl) (by kernel_rfl) (by kernel_rfl) (fun _ _ _ h => h) (Or.inr ⟨by kernel_rfl, rfl⟩) (by assumption) ?_
                try simp only [Act.put, List.getElem_toArray, List.getElem_cons_succ, List.getElem_cons_zero, List.setIfInBounds_toArray, List.set_cons_zero, List.set_cons_succ]
                refine wpAnyH_take (i := 7) (oi := _) (v := undef) rfl (by kernel_rfl) (by kernel_rfl) (by kernel_rfl) (fun _ _ _ h => h) (Or.inr ⟨by kernel_rfl, rfl⟩) (by assumption) ?_
                try simp only [Act.put, List.getElem_toArray, List.getElem_cons_succ, List.getElem_cons_zero, List.setIfInBounds_toArray, List.set_cons_zero, List.set_cons_succ]
                refine wpAnyH_take (i := 8) (oi := _) (v := ?_) rfl (by kernel_rfl) (by kernel_rfl) (by kernel_rfl) (fun _ _ _ h => h) (Or.inl ⟨by rfl, ?_⟩) (by assumption) ?_
                (rotate_left); (focus (intro wv hSw; (obtain ⟨qD, qC, qE, qG, qQ, qB⟩ := hSw);  go_simp; (try with_reducible rfl)))
                try simp only [Act.put, List.getElem_toArray, List.getElem_cons_succ, List.getElem_cons_zero, List.setIfInBounds_toArray, List.set_cons_zero, List.set_cons_succ]
                refine wpAnyH_take (i := 9) (oi := _) (v := ?_) rfl (by kernel_rfl) (by kernel_rfl) (by kernel_rfl) (fun _ _ _ h => h) (Or.inl ⟨by rfl, ?_⟩) (by assumption) ?_
                (rotate_left); (focus (intro wv hSw; (obtain ⟨qD, qC, qE, qG, qQ, qB⟩ := hSw);  go_simp; (try with_reducible rfl)))
                try simp only [Act.put, List.getElem_toArray, List.getElem_cons_succ, List.getElem_cons_zero, List.setIfInBounds_toArray, List.set_cons_zero, List.set_cons_succ]
                refine wpAnyH_take (i := 10) (oi := _) (v := undef) rfl (by kernel_rfl) (by kernel_rfl) (by kernel_rfl) (fun _ _ _ h => h) (Or.inr ⟨by kernel_rfl, rfl⟩) (by assumption) ?_
                try simp only [Act.put, List.getElem_toArray, List.getElem_cons_succ, List.getElem_cons_zero, List.setIfInBounds_toArray, List.set_cons_zero, List.set_cons_succ]
                refine wpAnyH_take (i := 11) (oi := _) (v := undef) rfl (by kernel_rfl) (by kernel_rfl) (by kernel_rfl) (fun _ _ _ h => h) (Or.inr ⟨by kernel_rfl, rfl⟩) (by assumption) ?_
                try simp only [Act.put, List.getElem_toArray, List.getElem_cons_succ, List.getElem_cons_zero, List.setIfInBounds_toArray, List.set_cons_zero, List.set_cons_succ]
                refine wpAnyH_take (i := 12) (oi := _) (v := undef) rfl (by kernel_rfl) (by kernel_rfl) (by kernel_rfl) (fun _ _ _ h => h) (Or.inr ⟨by kernel_rfl, rfl⟩) (by assumption) ?_
                try simp only [Act.put, List.getElem_toArray, List.getElem_cons_succ, List.getElem_cons_zero, List.setIfInBounds_toArray, List.set_cons_zero, List.set_cons_succ]
                refine wpAnyH_take (i := 13) (oi := _) (v := undef) rfl (by kernel_rfl) (by kernel_rfl) (by kernel_rfl) (fun _ _ _ h => h) (Or.inr ⟨by kernel_rfl, rfl⟩) (by assumption) ?_
                try simp only [Act.put, List.getElem_toArray, List.getElem_cons_succ, List.getElem_cons_zero, List.setIfInBounds_toArray, List.set_cons_zero, List.set_cons_succ]
                refine wpAnyH_take (i := 14) (oi := _) (v := undef) rfl (by kernel_rfl) (by kernel_rfl) (by kernel_rfl) (fun _ _ _ h => h) (Or.inr ⟨by kernel_rfl, rfl⟩) (by assumption) ?_
                try simp only [Act.put, List.getElem_toArray, List.getElem_cons_succ, List.getElem_cons_zero, List.setIfInBounds_toArray, List.set_cons_zero, List.set_cons_succ]
                refine wpAnyH_take (i := 15) (oi := _) (v := undef) rfl (by kernel_rfl) (by kernel_rfl) (by kernel_rfl) (fun _ _ _ h => h) (Or.inr ⟨by kernel_rfl, rfl⟩) (by assumption) ?_
                try simp only [Act.put, List.getElem_toArray, List.getElem_cons_succ, List.getElem_cons_zero, List.setIfInBounds_toArray, List.set_cons_zero, List.set_cons_succ]
                refine wpAnyH_take (i := 16) (oi := _) (v := undef) rfl (by kernel_rfl) (by kernel_rfl) (by kernel_rfl) (fun _ _ _ h => h) (Or.inr ⟨by kernel_rfl, rfl⟩) (by assumption) ?_
                try simp only [Act.put, List.getElem_toArray, List.getElem_cons_succ, List.getElem_cons_zero, List.setIfInBounds_toArray, List.set_cons_zero, List.set_cons_succ]
                refine wpAnyH_take (i := 17) (oi := _) (v := undef) rfl (by kernel_rfl) (by kernel_rfl) (by kernel_rfl) (fun _ _ _ h => h) (Or.inr ⟨by kernel_rfl, rfl⟩) (by assumption) ?_
                try simp only [Act.put, List.getElem_toArray, List.getElem_cons_succ, List.getElem_cons_zero, List.setIfInBounds_toArray, List.set_cons_zero, List.set_cons_succ]
                refine wpAnyH_take (i := 18) (oi := _) (v := undef) rfl (by kernel_rfl) (by kernel_rfl) (by kernel_rfl) (fun _ _ _ h => h) (Or.inr ⟨by kernel_rfl, rfl⟩) (by assumption) ?_
                try simp only [Act.put, List.getElem_toArray, List.getElem_cons_succ, List.getElem_cons_zero, List.setIfInBounds_toArray, List.set_cons_zero, List.set_cons_succ]
                refine wpAnyH_take (i := 19) (oi := _) (v := undef) rfl (by kernel_rfl) (by kernel_rfl) (by kernel_rfl) (fun _ _ _ h => h) (Or.inr ⟨by kernel_rfl, rfl⟩) (by assumption) ?_
                try simp only [Act.put, List.getElem_toArray, List.getElem_cons_succ, List.getElem_cons_zero, List.setIfInBounds_toArray, List.set_cons_zero, List.set_cons_succ]
                refine wpAnyH_take (i := 20) (oi := _) (v := undef) rfl (by kernel_rfl) (by kernel_rfl) (by kernel_rfl) (fun _ _ _ h => h) (Or.inr ⟨by kernel_rfl, rfl⟩) (by assumption) ?_
                try simp only [Act.put, List.getElem_toArray, List.getElem_cons_succ, List.getElem_cons_zero, List.setIfInBounds_toArray, List.set_cons_zero, List.set_cons_succ]
                refine wpAnyH_take (i := 21) (oi := _) (v := undef) rfl (by kernel_rfl) (by kernel_rfl) (by kernel_rfl) (fun _ _ _ h => h) (Or.inr ⟨by kernel_rfl, rfl⟩) (by assumption) ?_
                try simp only [Act.put, List.getElem_toArray, List.getElem_cons_succ, List.getElem_cons_zero, List.setIfInBounds_toArray, List.set_cons_zero, List.set_cons_succ]
                refine wpAnyH_take (i := 22) (oi := _) (v := ?_) rfl (by kernel_rfl) (by kernel_rfl) (by kernel_rfl) (fun _ _ _ h => h) (Or.inl ⟨by rfl, ?_⟩) (by assumption) ?_
                (rotate_left); (focus (intro wv hSw; (obtain ⟨qD, qC, qE, qG, qQ, qB⟩ := hSw);  go_simp; (try with_reducible rfl)))
                try simp only [Act.put, List.getElem_toArray, List.getElem_cons_succ, List.getElem_cons_zero, List.setIfInBounds_toArray, List.set_cons_zero, List.set_cons_succ]
                refine wpAnyH_done (by kernel_rfl) ?_ _
                go_wp2_with fail
                go_roundw
                case rel => exact ⟨p + 1, room, rfl, by go_num, by omega, room7, Lib.hid (by have := HRM.out; have := HR0.out; have := HB2.out; omega), by rw [HB1.out]; exact hG_0, hQ_0, hB_0⟩
                case measure => simp [intOf]; omega
              · have hr1 : (0 : Int) < (room : Int) := by omega
                have hr2 : decide ((room : Int) > 0) = true := decide_eq_true (by omega)
                have hr3 : decide (0 < room) = true := decide_eq_true (by omega)
                have hr4 : 0 < room := by omega
                clear h0r
                cases hcur : decide (cur = -1)
                · have HOK2 : Hid (okH xs (hrun xs l k9 h9) (h9 : Int) i = false) := Lib.hid (by rw [hOK.out, hcur]; rfl)
                  have hcb : (cur == -1) = false := by simpa using hcur
                  have HCU := Lib.hid hcur
                  clear hcur
                  go_wp2_with fail
                  refine wp_region_held_drew (S := (fun w' => w'.cell? ⟨G, i, none⟩ = some (.int .i64 cur) ∧ w'.cell? ⟨b, off + i * 2, none⟩ = some (.int .i64 g) ∧ w'.cell? ⟨b, off + i * 2 + 1, none⟩ = some (.int .i64 d) ∧ SBlk encNum w' G 3 (setL (hrun xs l k9 h9) (h9 : Int) ((cand xs (hrun xs l k9 h9) (h9 : Int) (l.take p)).take k9)) ∧ SBlk encNum w' Q 3 (natL l) ∧ Below w.heap.size w w')) (by kernel_rfl) ⟨d0, c0, c1, hG, hQ, hB.drew⟩ (fun hHeld => ?_)
                  obtain ⟨hD_0, hC_0, hE_0, hG_0, hQ_0, hB_0⟩ := id hHeld
                  refine wpAnyH_take (i := 0) (oi := _) (v := ?_) rfl (by kernel_rfl) (by kernel_rfl) (by kernel_rfl) (fun _ _ _ h => h) (Or.inl ⟨by rfl, ?_⟩) (by assumption) ?_
                  (rotate_left); (focus (intro wv hSw; (obtain ⟨qD, qC, qE, qG, qQ, qB⟩ := hSw);  go_simp; (try with_reducible rfl)))
                  try simp only [Act.put, List.getElem_toArray, List.getElem_cons_succ, List.getElem_cons_zero, List.setIfInBounds_toArray, List.set_cons_zero, List.set_cons_succ]
                  refine wpAnyH_take (i := 1) (oi := _) (v := ?_) rfl (by kernel_rfl) (by kernel_rfl) (by kernel_rfl) (fun _ _ _ h => h) (Or.inl ⟨by rfl, ?_⟩) (by assumption) ?_
                  (rotate_left); (focus (intro wv hSw; (obtain ⟨qD, qC, qE, qG, qQ, qB⟩ := hSw);  go_simp; (try with_reducible rfl)))
                  try simp only [Act.put, List.getElem_toArray, List.getElem_cons_succ, List.getElem_cons_zero, List.setIfInBounds_toArray, List.set_cons_zero, List.set_cons_succ]
                  refine wpAnyH_take (i := 2) (oi := _) (v := ?_) rfl (by kernel_rfl) (by kernel_rfl) (by kernel_rfl) (fun _ _ _ h => h) (Or.inl ⟨by rfl, ?_⟩) (by assumption) ?_
                  (rotate_left); (focus (intro wv hSw; (obtain ⟨qD, qC, qE, qG, qQ, qB⟩ := hSw);  go_simp; (try with_reducible rfl)))
                  try simp only [Act.put, List.getElem_toArray, List.getElem_cons_succ, List.getElem_cons_zero, List.setIfInBounds_toArray, List.set_cons_zero, List.set_cons_succ]
                  refine wpAnyH_take (i := 3) (oi := _) (v := ?_) rfl (by kernel_rfl) (by kernel_rfl) (by kernel_rfl) (fun _ _ _ h => h) (Or.inl ⟨by rfl, ?_⟩) (by assumption) ?_
                  (rotate_left); (focus (intro wv hSw; (obtain ⟨qD, qC, qE, qG, qQ, qB⟩ := hSw);  go_simp; (try with_reducible rfl)))
                  try simp only [Act.put, List.getElem_toArray, List.getElem_cons_succ, List.getElem_cons_zero, List.setIfInBounds_toArray, List.set_cons_zero, List.set_cons_succ]
                  refine wpAnyH_take (i := 4) (oi := _) (v := ?_) rfl (by kernel_rfl) (by kernel_rfl) (by kernel_rfl) (fun _ _ _ h => h) (Or.inl ⟨by rfl, ?_⟩) (by assumption) ?_
                  (rotate_left); (focus (intro wv hSw; (obtain ⟨qD, qC, qE, qG, qQ, qB⟩ := hSw);  go_simp; (try with_reducible rfl)))
                  try simp only [Act.put, List.getElem_toArray, List.getElem_cons_succ, List.getElem_cons_zero, List.setIfInBounds_toArray, List.set_cons_zero, List.set_cons_succ]
                  refine wpAnyH_take (i := 5) (oi := _) (v := ?_) rfl (by kernel_rfl) (by kernel_rfl) (by kernel_rfl) (fun _ _ _ h => h) (Or.inl ⟨by rfl, ?_⟩) (by assumption) ?_
                  (rotate_left); (focus (intro wv hSw; (obtain ⟨qD, qC, qE, qG, qQ, qB⟩ := hSw);  go_simp; (try with_reducible rfl)))
                  try simp only [Act.put, List.getElem_toArray, List.getElem_cons_succ, List.getElem_cons_zero, List.setIfInBounds_toArray, List.set_cons_zero, List.set_cons_succ]
                  refine wpAnyH_take (i := 6) (oi := _) (v := ?_) rfl (by kernel_rfl) (by kernel_rfl) (by kernel_rfl) (fun _ _ _ h => h) (Or.inl ⟨by rfl, ?_⟩) (by assumption) ?_
                  (rotate_left); (focus (intro wv hSw; (obtain ⟨qD, qC, qE, qG, qQ, qB⟩ := hSw);  go_simp; (try with_reducible rfl)))
                  try simp only [Act.put, List.getElem_toArray, List.getElem_cons_succ, List.getElem_cons_zero, List.setIfInBounds_toArray, List.set_cons_zero, List.set_cons_succ]
                  refine wpAnyH_take (i := 7) (oi := _) (v := ?_) rfl (by kernel_rfl) (by kernel_rfl) (by kernel_rfl) (fun _ _ _ h => h) (Or.inl ⟨by rfl, ?_⟩) (by assumption) ?_
                  (rotate_left); (focus (intro wv hSw; (obtain ⟨qD, qC, qE, qG, qQ, qB⟩ := hSw);  go_simp; (try with_reducible rfl)))
                  try simp only [Act.put, List.getElem_toArray, List.getElem_cons_succ, List.getElem_cons_zero, List.setIfInBounds_toArray, List.set_cons_zero, List.set_cons_succ]
                  refine wpAnyH_take (i := 8) (oi := _) (v := ?_) rfl (by kernel_rfl) (by kernel_rfl) (by kernel_rfl) (fun _ _ _ h => h) (Or.inl ⟨by rfl, ?_⟩) (by assumption) ?_
                  (rotate_left); (focus (intro wv hSw; (obtain ⟨qD, qC, qE, qG, qQ, qB⟩ := hSw);  go_simp; (try with_reducible rfl)))
                  try simp only [Act.put, List.getElem_toArray, List.getElem_cons_succ, List.getElem_cons_zero, List.setIfInBounds_toArray, List.set_cons_zero, List.set_cons_succ]
                  refine wpAnyH_take (i := 9) (oi := _) (v := ?_) rfl (by kernel_rfl) (by kernel_rfl) (by kernel_rfl) (fun _ _ _ h => h) (Or.inl ⟨by rfl, ?_⟩) (by assumption) ?_
                  (rotate_left); (focus (intro wv hSw; (obtain ⟨qD, qC, qE, qG, qQ, qB⟩ := hSw);  go_simp; (try with_reducible rfl)))
                  try simp only [Act.put, List.getElem_toArray, List.getElem_cons_succ, List.getElem_cons_zero, List.setIfInBounds_toArray, List.set_cons_zero, List.set_cons_succ]
                  refine wpAnyH_take (i := 10) (oi := _) (v := undef) rfl (by kernel_rfl) (by kernel_rfl) (by kernel_rfl) (fun _ _ _ h => h) (Or.inr ⟨by kernel_rfl, rfl⟩) (by assumption) ?_
                  try simp only [Act.put, List.getElem_toArray, List.getElem_cons_succ, List.getElem_cons_zero, List.setIfInBounds_toArray, List.set_cons_zero, List.set_cons_succ]
                  refine wpAnyH_take (i := 11) (oi := _) (v := undef) rfl (by kernel_rfl) (by kernel_rfl) (by kernel_rfl) (fun _ _ _ h => h) (Or.inr ⟨by kernel_rfl, rfl⟩) (by assumption) ?_
                  try simp only [Act.put, List.getElem_toArray, List.getElem_cons_succ, List.getElem_cons_zero, List.setIfInBounds_toArray, List.set_cons_zero, List.set_cons_succ]
                  refine wpAnyH_take (i := 12) (oi := _) (v := undef) rfl (by kernel_rfl) (by kernel_rfl) (by kernel_rfl) (fun _ _ _ h => h) (Or.inr ⟨by kernel_rfl, rfl⟩) (by assumption) ?_
                  try simp only [Act.put, List.getElem_toArray, List.getElem_cons_succ, List.getElem_cons_zero, List.setIfInBounds_toArray, List.set_cons_zero, List.set_cons_succ]
                  refine wpAnyH_take (i := 13) (oi := _) (v := undef) rfl (by kernel_rfl) (by kernel_rfl) (by kernel_rfl) (fun _ _ _ h => h) (Or.inr ⟨by kernel_rfl, rfl⟩) (by assumption) ?_
                  try simp only [Act.put, List.getElem_toArray, List.getElem_cons_succ, List.getElem_cons_zero, List.setIfInBounds_toArray, List.set_cons_zero, List.set_cons_succ]
                  refine wpAnyH_take (i := 14) (oi := _) (v := undef) rfl (by kernel_rfl) (by kernel_rfl) (by kernel_rfl) (fun _ _ _ h => h) (Or.inr ⟨by kernel_rfl, rfl⟩) (by assumption) ?_
                  try simp only [Act.put, List.getElem_toArray, List.getElem_cons_succ, List.getElem_cons_zero, List.setIfInBounds_toArray, List.set_cons_zero, List.set_cons_succ]
                  refine wpAnyH_take (i := 15) (oi := _) (v := undef) rfl (by kernel_rfl) (by kernel_rfl) (by kernel_rfl) (fun _ _ _ h => h) (Or.inr ⟨by kernel_rfl, rfl⟩) (by assumption) ?_
                  try simp only [Act.put, List.getElem_toArray, List.getElem_cons_succ, List.getElem_cons_zero, List.setIfInBounds_toArray, List.set_cons_zero, List.set_cons_succ]
                  refine wpAnyH_take (i := 16) (oi := _) (v := undef) rfl (by kernel_rfl) (by kernel_rfl) (by kernel_rfl) (fun _ _ _ h => h) (Or.inr ⟨by kernel_rfl, rfl⟩) (by assumption) ?_
                  try simp only [Act.put, List.getElem_toArray, List.getElem_cons_succ, List.getElem_cons_zero, List.setIfInBounds_toArray, List.set_cons_zero, List.set_cons_succ]
                  refine wpAnyH_take (i := 17) (oi := _) (v := undef) rfl (by kernel_rfl) (by kernel_rfl) (by kernel_rfl) (fun _ _ _ h => h) (Or.inr ⟨by kernel_rfl, rfl⟩) (by assumption) ?_
                  try simp only [Act.put, List.getElem_toArray, List.getElem_cons_succ, List.getElem_cons_zero, List.setIfInBounds_toArray, List.set_cons_zero, List.set_cons_succ]
                  refine wpAnyH_take (i := 18) (oi := _) (v := undef) rfl (by kernel_rfl) (by kernel_rfl) (by kernel_rfl) (fun _ _ _ h => h) (Or.inr ⟨by kernel_rfl, rfl⟩) (by assumption) ?_
                  try simp only [Act.put, List.getElem_toArray, List.getElem_cons_succ, List.getElem_cons_zero, List.setIfInBounds_toArray, List.set_cons_zero, List.set_cons_succ]
                  refine wpAnyH_take (i := 19) (oi := _) (v := undef) rfl (by kernel_rfl) (by kernel_rfl) (by kernel_rfl) (fun _ _ _ h => h) (Or.inr ⟨by kernel_rfl, rfl⟩) (by assumption) ?_
                  try simp only [Act.put, List.getElem_toArray, List.getElem_cons_succ, List.getElem_cons_zero, List.setIfInBounds_toArray, List.set_cons_zero, List.set_cons_succ]
                  refine wpAnyH_take (i := 20) (oi := _) (v := undef) rfl (by kernel_rfl) (by kernel_rfl) (by kernel_rfl) (fun _ _ _ h => h) (Or.inr ⟨by kernel_rfl, rfl⟩) (by assumption) ?_
                  try simp only [Act.put, List.getElem_toArray, List.getElem_cons_succ, List.getElem_cons_zero, List.setIfInBounds_toArray, List.set_cons_zero, List.set_cons_succ]
                  refine wpAnyH_take (i := 21) (oi := _) (v := undef) rfl (by kernel_rfl) (by kernel_rfl) (by kernel_rfl) (fun _ _ _ h => h) (Or.inr ⟨by kernel_rfl, rfl⟩) (by assumption) ?_
                  try simp only [Act.put, List.getElem_toArray, List.getElem_cons_succ, List.getElem_cons_zero, List.setIfInBounds_toArray, List.set_cons_zero, List.set_cons_succ]
                  refine wpAnyH_take (i := 22) (oi := _) (v := ?_) rfl (by kernel_rfl) (by kernel_rfl) (by kernel_rfl) (fun _ _ _ h => h) (Or.inl ⟨by rfl, ?_⟩) (by assumption) ?_
                  (rotate_left); (focus (intro wv hSw; (obtain ⟨qD, qC, qE, qG, qQ, qB⟩ := hSw);  go_simp; (try with_reducible rfl)))
                  try simp only [Act.put, List.getElem_toArray, List.getElem_cons_succ, List.getElem_cons_zero, List.setIfInBounds_toArray, List.set_cons_zero, List.set_cons_succ]
                  refine wpAnyH_done (by kernel_rfl) ?_ _
                  go_wp2_with fail
                  go_roundw
                  case rel => exact ⟨p + 1, room, rfl, by go_num, by omega, room7, Lib.hid (by rw [HA.out HOK2.out]; exact HRM.out), by rw [HA.out HOK2.out]; exact hG_0, hQ_0, hB_0⟩
                  case measure => simp [intOf]; omega
                · have hcb : (cur == -1) = true := by simpa using hcur
                  have hce : cur = -1 := by simpa using hcur
                  cases hiv : inV (h9 : Int) g d
                  · have HOK2 : Hid (okH xs (hrun xs l k9 h9) (h9 : Int) i = false) := Lib.hid (by rw [hOK.out, hcur, hiv]; rfl)
                    have HIV := Lib.hid hiv
                    have HCE := Lib.hid hce
                    clear hcur hiv hce
                    go_wp2_with fail
                    refine wp_region_held_drew (S := (fun w' => w'.cell? ⟨G, i, none⟩ = some (.int .i64 cur) ∧ w'.cell? ⟨b, off + i * 2, none⟩ = some (.int .i64 g) ∧ w'.cell? ⟨b, off + i * 2 + 1, none⟩ = some (.int .i64 d) ∧ SBlk encNum w' G 3 (setL (hrun xs l k9 h9) (h9 : Int) ((cand xs (hrun xs l k9 h9) (h9 : Int) (l.take p)).take k9)) ∧ SBlk encNum w' Q 3 (natL l) ∧ Below w.heap.size w w')) (by kernel_rfl) ⟨d0, c0, c1, hG, hQ, hB.drew⟩ (fun hHeld => ?_)
                    obtain ⟨hD_0, hC_0, hE_0, hG_0, hQ_0, hB_0⟩ := id hHeld
                    refine wpAnyH_take (i := 0) (oi := _) (v := ?_) rfl (by kernel_rfl) (by kernel_rfl) (by kernel_rfl) (fun _ _ _ h => h) (Or.inl ⟨by rfl, ?_⟩) (by assumption) ?_
                    (rotate_left); (focus (intro wv hSw; (obtain ⟨qD, qC, qE, qG, qQ, qB⟩ := hSw);  go_simp; (try with_reducible rfl)))
                    try simp only [Act.put, List.getElem_toArray, List.getElem_cons_succ, List.getElem_cons_zero, List.setIfInBounds_toArray, List.set_cons_zero, List.set_cons_succ]
                    refine wpAnyH_take (i := 1) (oi := _) (v := ?_) rfl (by kernel_rfl) (by kernel_rfl) (by kernel_rfl) (fun _ _ _ h => h) (Or.inl ⟨by rfl, ?_⟩) (by assumption) ?_
                    (rotate_left); (focus (intro wv hSw; (obtain ⟨qD, qC, qE, qG, qQ, qB⟩ := hSw);  go_simp; (try with_reducible rfl)))
                    try simp only [Act.put, List.getElem_toArray, List.getElem_cons_succ, List.getElem_cons_zero, List.setIfInBounds_toArray, List.set_cons_zero, List.set_cons_succ]
                    refine wpAnyH_take (i := 2) (oi := _) (v := ?_) rfl (by kernel_rfl) (by kernel_rfl) (by kernel_rfl) (fun _ _ _ h => h) (Or.inl ⟨by rfl, ?_⟩) (by assumption) ?_
                    (rotate_left); (focus (intro wv hSw; (obtain ⟨qD, qC, qE, qG, qQ, qB⟩ := hSw);  go_simp; (try with_reducible rfl)))
                    try simp only [Act.put, List.getElem_toArray, List.getElem_cons_succ, List.getElem_cons_zero, List.setIfInBounds_toArray, List.set_cons_zero, List.set_cons_succ]
                    refine wpAnyH_take (i := 3) (oi := _) (v := ?_) rfl (by kernel_rfl) (by kernel_rfl) (by kernel_rfl) (fun _ _ _ h => h) (Or.inl ⟨by rfl, ?_⟩) (by assumption) ?_
                    (rotate_left); (focus (intro wv hSw; (obtain ⟨qD, qC, qE, qG, qQ, qB⟩ := hSw);  go_simp; (try with_reducible rfl)))
                    try simp only [Act.put, List.getElem_toArray, List.getElem_cons_succ, List.getElem_cons_zero, List.setIfInBounds_toArray, List.set_cons_zero, List.set_cons_succ]
                    refine wpAnyH_take (i := 4) (oi := _) (v := ?_) rfl (by kernel_rfl) (by kernel_rfl) (by kernel_rfl) (fun _ _ _ h => h) (Or.inl ⟨by rfl, ?_⟩) (by assumption) ?_
                    (rotate_left); (focus (intro wv hSw; (obtain ⟨qD, qC, qE, qG, qQ, qB⟩ := hSw);  go_simp; (try with_reducible rfl)))
                    try simp only [Act.put, List.getElem_toArray, List.getElem_cons_succ, List.getElem_cons_zero, List.setIfInBounds_toArray, List.set_cons_zero, List.set_cons_succ]
                    refine wpAnyH_take (i := 5) (oi := _) (v := ?_) rfl (by kernel_rfl) (by kernel_rfl) (by kernel_rfl) (fun _ _ _ h => h) (Or.inl ⟨by rfl, ?_⟩) (by assumption) ?_
                    (rotate_left); (focus (intro wv hSw; (obtain ⟨qD, qC, qE, qG, qQ, qB⟩ := hSw);  go_simp; (try with_reducible rfl)))
                    try simp only [Act.put, List.getElem_toArray, List.getElem_cons_succ, List.getElem_cons_zero, List.setIfInBounds_toArray, List.set_cons_zero, List.set_cons_succ]
                    refine wpAnyH_take (i := 6) (oi := _) (v := ?_) rfl (by kernel_rfl) (by kernel_rfl) (by kernel_rfl) (fun _ _ _ h => h) (Or.inl ⟨by rfl, ?_⟩) (by assumption) ?_
                    (rotate_left); (focus (intro wv hSw; (obtain ⟨qD, qC, qE, qG, qQ, qB⟩ := hSw);  go_simp; (try with_reducible rfl)))
                    try simp only [Act.put, List.getElem_toArray, List.getElem_cons_succ, List.getElem_cons_zero, List.setIfInBounds_toArray, List.set_cons_zero, List.set_cons_succ]
                    refine wpAnyH_take (i := 7) (oi := _) (v := ?_) rfl (by kernel_rfl) (by kernel_rfl) (by kernel_rfl) (fun _ _ _ h => h) (Or.inl ⟨by rfl, ?_⟩) (by assumption) ?_
                    (rotate_left); (focus (intro wv hSw; (obtain ⟨qD, qC, qE, qG, qQ, qB⟩ := hSw);  go_simp; (try with_reducible rfl)))
                    try simp only [Act.put, List.getElem_toArray, List.getElem_cons_succ, List.getElem_cons_zero, List.setIfInBounds_toArray, List.set_cons_zero, List.set_cons_succ]
                    refine wpAnyH_take (i := 8) (oi := _) (v := ?_) rfl (by kernel_rfl) (by kernel_rfl) (by kernel_rfl) (fun _ _ _ h => h) (Or.inl ⟨by rfl, ?_⟩) (by assumption) ?_
                    (rotate_left); (focus (intro wv hSw; (obtain ⟨qD, qC, qE, qG, qQ, qB⟩ := hSw);  go_simp; (try with_reducible rfl)))
                    try simp only [Act.put, List.getElem_toArray, List.getElem_cons_succ, List.getElem_cons_zero, List.setIfInBounds_toArray, List.set_cons_zero, List.set_cons_succ]
                    refine wpAnyH_take (i := 9) (oi := _) (v := ?_) rfl (by kernel_rfl) (by kernel_rfl) (by kernel_rfl) (fun _ _ _ h => h) (Or.inl ⟨by rfl, ?_⟩) (by assumption) ?_
                    (rotate_left); (focus (intro wv hSw; (obtain ⟨qD, qC, qE, qG, qQ, qB⟩ := hSw);  go_simp; (try with_reducible rfl)))
                    try simp only [Act.put, List.getElem_toArray, List.getElem_cons_succ, List.getElem_cons_zero, List.setIfInBounds_toArray, List.set_cons_zero, List.set_cons_succ]
                    refine wpAnyH_take (i := 10) (oi := _) (v := ?_) rfl (by kernel_rfl) (by kernel_rfl) (by kernel_rfl) (fun _ _ _ h => h) (Or.inl ⟨by rfl, ?_⟩) (by assumption) ?_
                    (rotate_left); (focus (intro wv hSw; (obtain ⟨qD, qC, qE, qG, qQ, qB⟩ := hSw);  go_simp; (try with_reducible rfl)))
                    try simp only [Act.put, List.getElem_toArray, List.getElem_cons_succ, List.getElem_cons_zero, List.setIfInBounds_toArray, List.set_cons_zero, List.set_cons_succ]
                    refine wpAnyH_take (i := 11) (oi := _) (v := ?_) rfl (by kernel_rfl) (by kernel_rfl) (by kernel_rfl) (fun _ _ _ h => h) (Or.inl ⟨by rfl, ?_⟩) (by assumption) ?_
                    (rotate_left); (focus (intro wv hSw; (obtain ⟨qD, qC, qE, qG, qQ, qB⟩ := hSw);  go_simp; (try with_reducible rfl)))
                    try simp only [Act.put, List.getElem_toArray, List.getElem_cons_succ, List.getElem_cons_zero, List.setIfInBounds_toArray, List.set_cons_zero, List.set_cons_succ]
                    refine wpAnyH_take (i := 12) (oi := _) (v := ?_) rfl (by kernel_rfl) (by kernel_rfl) (by kernel_rfl) (fun _ _ _ h => h) (Or.inl ⟨by rfl, ?_⟩) (by assumption) ?_
                    (rotate_left); (focus (intro wv hSw; (obtain ⟨qD, qC, qE, qG, qQ, qB⟩ := hSw);  go_simp; (try with_reducible rfl)))
                    try simp only [Act.put, List.getElem_toArray, List.getElem_cons_succ, List.getElem_cons_zero, List.setIfInBounds_toArray, List.set_cons_zero, List.set_cons_succ]
                    refine wpAnyH_take (i := 13) (oi := _) (v := ?_) rfl (by kernel_rfl) (by kernel_rfl) (by kernel_rfl) (fun _ _ _ h => h) (Or.inl ⟨by rfl, ?_⟩) (by assumption) ?_
                    (rotate_left); (focus (intro wv hSw; (obtain ⟨qD, qC, qE, qG, qQ, qB⟩ := hSw);  go_simp; (try with_reducible rfl)))
                    try simp only [Act.put, List.getElem_toArray, List.getElem_cons_succ, List.getElem_cons_zero, List.setIfInBounds_toArray, List.set_cons_zero, List.set_cons_succ]
                    refine wpAnyH_take (i := 14) (oi := _) (v := ?_) rfl (by kernel_rfl) (by kernel_rfl) (by kernel_rfl) (fun _ _ _ h => h) (Or.inl ⟨by rfl, ?_⟩) (by assumption) ?_
                    (rotate_left); (focus (intro wv hSw; (obtain ⟨qD, qC, qE, qG, qQ, qB⟩ := hSw);  go_simp; (try with_reducible rfl)))
                    try simp only [Act.put, List.getElem_toArray, List.getElem_cons_succ, List.getElem_cons_zero, List.setIfInBounds_toArray, List.set_cons_zero, List.set_cons_succ]
                    refine wpAnyH_take (i := 15) (oi := _) (v := ?_) rfl (by kernel_rfl) (by kernel_rfl) (by kernel_rfl) (fun _ _ _ h => h) (Or.inl ⟨by rfl, ?_⟩) (by assumption) ?_
                    (rotate_left); (focus (intro wv hSw; (obtain ⟨qD, qC, qE, qG, qQ, qB⟩ := hSw);  go_simp; (try with_reducible rfl)))
                    try simp only [Act.put, List.getElem_toArray, List.getElem_cons_succ, List.getElem_cons_zero, List.setIfInBounds_toArray, List.set_cons_zero, List.set_cons_succ]
                    refine wpAnyH_take (i := 16) (oi := _) (v := ?_) rfl (by kernel_rfl) (by kernel_rfl) (by kernel_rfl) (fun _ _ _ h => h) (Or.inl ⟨by rfl, ?_⟩) (by assumption) ?_
                    (rotate_left); (focus (intro wv hSw; (obtain ⟨qD, qC, qE, qG, qQ, qB⟩ := hSw);  go_simp; (try with_reducible rfl)))
                    try simp only [Act.put, List.getElem_toArray, List.getElem_cons_succ, List.getElem_cons_zero, List.setIfInBounds_toArray, List.set_cons_zero, List.set_cons_succ]
                    refine wpAnyH_take (i := 17) (oi := _) (v := ?_) rfl (by kernel_rfl) (by kernel_rfl) (by kernel_rfl) (fun _ _ _ h => h) (Or.inl ⟨by rfl, ?_⟩) (by assumption) ?_
                    (rotate_left); (focus (intro wv hSw; (obtain ⟨qD, qC, qE, qG, qQ, qB⟩ := hSw);  go_simp; (try with_reducible rfl)))
                    try simp only [Act.put, List.getElem_toArray, List.getElem_cons_succ, List.getElem_cons_zero, List.setIfInBounds_toArray, List.set_cons_zero, List.set_cons_succ]
                    refine wpAnyH_take (i := 18) (oi := _) (v := ?_) rfl (by kernel_rfl) (by kernel_rfl) (by kernel_rfl) (fun _ _ _ h => h) (Or.inl ⟨by rfl, ?_⟩) (by assumption) ?_
                    (rotate_left); (focus (intro wv hSw; (obtain ⟨qD, qC, qE, qG, qQ, qB⟩ := hSw);  go_simp; (try with_reducible rfl)))
                    try simp only [Act.put, List.getElem_toArray, List.getElem_cons_succ, List.getElem_cons_zero, List.setIfInBounds_toArray, List.set_cons_zero, List.set_cons_succ]
                    refine wpAnyH_take (i := 19) (oi := _) (v := ?_) rfl (by kernel_rfl) (by kernel_rfl) (by kernel_rfl) (fun _ _ _ h => h) (Or.inl ⟨by rfl, ?_⟩) (by assumption) ?_
                    (rotate_left); (focus (intro wv hSw; (obtain ⟨qD, qC, qE, qG, qQ, qB⟩ := hSw);  go_simp; (try with_reducible rfl)))
                    try simp only [Act.put, List.getElem_toArray, List.getElem_cons_succ, List.getElem_cons_zero, List.setIfInBounds_toArray, List.set_cons_zero, List.set_cons_succ]
                    refine wpAnyH_take (i := 20) (oi := _) (v := ?_) rfl (by kernel_rfl) (by kernel_rfl) (by kernel_rfl) (fun _ _ _ h => h) (Or.inl ⟨by rfl, ?_⟩) (by assumption) ?_
                    (rotate_left); (focus (intro wv hSw; (obtain ⟨qD, qC, qE, qG, qQ, qB⟩ := hSw);  go_simp; (try with_reducible rfl)))
                    try simp only [Act.put, List.getElem_toArray, List.getElem_cons_succ, List.getElem_cons_zero, List.setIfInBounds_toArray, List.set_cons_zero, List.set_cons_succ]
                    refine wpAnyH_ready (rs := [21]) (by kernel_rfl) (by simp) ?_
                    refine AllReadyH.cons (o := _) rfl (fun K hK => ?_) AllReadyH.nil
                    go_simp
                    (go_at_call 59; refine (iIn7_bw _ HIV.out).mono ?_; rintro e x0c ⟨rfl, hw_0c⟩)
                    refine hK.out _ _ ⟨celS_next hD_0 hw_0c, celS_next hC_0 hw_0c, celS_next hE_0 hw_0c, hG_0.next hw_0c, hQ_0.next hw_0c, bel_next hB_0 hw_0c⟩ (fun hHeld => ?_)
                    clear hK K
                    try simp only [Act.put, List.getElem_toArray, List.getElem_cons_succ, List.getElem_cons_zero, List.setIfInBounds_toArray, List.set_cons_zero, List.set_cons_succ]
                    obtain ⟨hD_0c, hC_0c, hE_0c, hG_0c, hQ_0c, hB_0c⟩ := id hHeld
                    refine wpAnyH_take (i := 22) (oi := _) (v := ?_) rfl (by kernel_rfl) (by kernel_rfl) (by kernel_rfl) (fun _ _ _ h => h) (Or.inl ⟨by rfl, ?_⟩) (by assumption) ?_
                    (rotate_left); (focus (intro wv hSw; (obtain ⟨qD, qC, qE, qG, qQ, qB⟩ := hSw);  go_simp; (try with_reducible rfl)))
                    try simp only [Act.put, List.getElem_toArray, List.getElem_cons_succ, List.getElem_cons_zero, List.setIfInBounds_toArray, List.set_cons_zero, List.set_cons_succ]
                    refine wpAnyH_done (by kernel_rfl) ?_ _
                    go_wp2_with fail
                    go_roundw
                    case rel => exact ⟨p + 1, room, rfl, by go_num, by omega, room7, Lib.hid (by rw [HA.out HOK2.out]; exact HRM.out), by rw [HA.out HOK2.out]; exact hG_0c, hQ_0c, hB_0c⟩
                    case measure => simp [intOf]; omega
                  · have HOK2 : Hid (okH xs (hrun xs l k9 h9) (h9 : Int) i = true) := Lib.hid (by rw [hOK.out, hcur, hiv]; rfl)
                    have HIV := Lib.hid hiv
                    have HCE := Lib.hid hce
                    clear hcur hiv hce
                    go_wp2_with fail
                    refine wp_region_held_drew (S := (fun w' => w'.cell? ⟨G, i, none⟩ = some (.int .i64 cur) ∧ w'.cell? ⟨b, off + i * 2, none⟩ = some (.int .i64 g) ∧ w'.cell? ⟨b, off + i * 2 + 1, none⟩ = some (.int .i64 d) ∧ SBlk encNum w' G 3 (setL (hrun xs l k9 h9) (h9 : Int) ((cand xs (hrun xs l k9 h9) (h9 : Int) (l.take p)).take k9)) ∧ SBlk encNum w' Q 3 (natL l) ∧ Below w.heap.size w w')) (by kernel_rfl) ⟨d0, c0, c1, hG, hQ, hB.drew⟩ (fun hHeld => ?_)
                    obtain ⟨hD_0, hC_0, hE_0, hG_0, hQ_0, hB_0⟩ := id hHeld
                    refine wpAnyH_take (i := 0) (oi := _) (v := ?_) rfl (by kernel_rfl) (by kernel_rfl) (by kernel_rfl) (fun _ _ _ h => h) (Or.inl ⟨by rfl, ?_⟩) (by assumption) ?_
                    (rotate_left); (focus (intro wv hSw; (obtain ⟨qD, qC, qE, qG, qQ, qB⟩ := hSw);  go_simp; (try with_reducible rfl)))
                    try simp only [Act.put, List.getElem_toArray, List.getElem_cons_succ, List.getElem_cons_zero, List.setIfInBounds_toArray, List.set_cons_zero, List.set_cons_succ]
                    refine wpAnyH_take (i := 1) (oi := _) (v := ?_) rfl (by kernel_rfl) (by kernel_rfl) (by kernel_rfl) (fun _ _ _ h => h) (Or.inl ⟨by rfl, ?_⟩) (by assumption) ?_
                    (rotate_left); (focus (intro wv hSw; (obtain ⟨qD, qC, qE, qG, qQ, qB⟩ := hSw);  go_simp; (try with_reducible rfl)))
                    try simp only [Act.put, List.getElem_toArray, List.getElem_cons_succ, List.getElem_cons_zero, List.setIfInBounds_toArray, List.set_cons_zero, List.set_cons_succ]
                    refine wpAnyH_take (i := 2) (oi := _) (v := ?_) rfl (by kernel_rfl) (by kernel_rfl) (by kernel_rfl) (fun _ _ _ h => h) (Or.inl ⟨by rfl, ?_⟩) (by assumption) ?_
                    (rotate_left); (focus (intro wv hSw; (obtain ⟨qD, qC, qE, qG, qQ, qB⟩ := hSw);  go_simp; (try with_reducible rfl)))
                    try simp only [Act.put, List.getElem_toArray, List.getElem_cons_succ, List.getElem_cons_zero, List.setIfInBounds_toArray, List.set_cons_zero, List.set_cons_succ]
                    refine wpAnyH_take (i := 3) (oi := _) (v := ?_) rfl (by kernel_rfl) (by kernel_rfl) (by kernel_rfl) (fun _ _ _ h => h) (Or.inl ⟨by rfl, ?_⟩) (by assumption) ?_
                    (rotate_left); (focus (intro wv hSw; (obtain ⟨qD, qC, qE, qG, qQ, qB⟩ := hSw);  go_simp; (try with_reducible rfl)))
                    try simp only [Act.put, List.getElem_toArray, List.getElem_cons_succ, List.getElem_cons_zero, List.setIfInBounds_toArray, List.set_cons_zero, List.set_cons_succ]
                    refine wpAnyH_take (i := 4) (oi := _) (v := ?_) rfl (by kernel_rfl) (by kernel_rfl) (by kernel_rfl) (fun _ _ _ h => h) (Or.inl ⟨by rfl, ?_⟩) (by assumption) ?_
                    (rotate_left); (focus (intro wv hSw; (obtain ⟨qD, qC, qE, qG, qQ, qB⟩ := hSw);  go_simp; (try with_reducible rfl)))
                    try simp only [Act.put, List.getElem_toArray, List.getElem_cons_succ, List.getElem_cons_zero, List.setIfInBounds_toArray, List.set_cons_zero, List.set_cons_succ]
                    refine wpAnyH_take (i := 5) (oi := _) (v := ?_) rfl (by kernel_rfl) (by kernel_rfl) (by kernel_rfl) (fun _ _ _ h => h) (Or.inl ⟨by rfl, ?_⟩) (by assumption) ?_
                    (rotate_left); (focus (intro wv hSw; (obtain ⟨qD, qC, qE, qG, qQ, qB⟩ := hSw);  go_simp; (try with_reducible rfl)))
                    try simp only [Act.put, List.getElem_toArray, List.getElem_cons_succ, List.getElem_cons_zero, List.setIfInBounds_toArray, List.set_cons_zero, List.set_cons_succ]
                    refine wpAnyH_take (i := 6) (oi := _) (v := ?_) rfl (by kernel_rfl) (by kernel_rfl) (by kernel_rfl) (fun _ _ _ h => h) (Or.inl ⟨by rfl, ?_⟩) (by assumption) ?_
                    (rotate_left); (focus (intro wv hSw; (obtain ⟨qD, qC, qE, qG, qQ, qB⟩ := hSw);  go_simp; (try with_reducible rfl)))
                    try simp only [Act.put, List.getElem_toArray, List.getElem_cons_succ, List.getElem_cons_zero, List.setIfInBounds_toArray, List.set_cons_zero, List.set_cons_succ]
                    refine wpAnyH_take (i := 7) (oi := _) (v := ?_) rfl (by kernel_rfl) (by kernel_rfl) (by kernel_rfl) (fun _ _ _ h => h) (Or.inl ⟨by rfl, ?_⟩) (by assumption) ?_
                    (rotate_left); (focus (intro wv hSw; (obtain ⟨qD, qC, qE, qG, qQ, qB⟩ := hSw);  go_simp; (try with_reducible rfl)))
                    try simp only [Act.put, List.getElem_toArray, List.getElem_cons_succ, List.getElem_cons_zero, List.setIfInBounds_toArray, List.set_cons_zero, List.set_cons_succ]
                    refine wpAnyH_take (i := 8) (oi := _) (v := ?_) rfl (by kernel_rfl) (by kernel_rfl) (by kernel_rfl) (fun _ _ _ h => h) (Or.inl ⟨by rfl, ?_⟩) (by assumption) ?_
                    (rotate_left); (focus (intro wv hSw; (obtain ⟨qD, qC, qE, qG, qQ, qB⟩ := hSw);  go_simp; (try with_reducible rfl)))
                    try simp only [Act.put, List.getElem_toArray, List.getElem_cons_succ, List.getElem_cons_zero, List.setIfInBounds_toArray, List.set_cons_zero, List.set_cons_succ]
                    refine wpAnyH_take (i := 9) (oi := _) (v := ?_) rfl (by kernel_rfl) (by kernel_rfl) (by kernel_rfl) (fun _ _ _ h => h) (Or.inl ⟨by rfl, ?_⟩) (by assumption) ?_
                    (rotate_left); (focus (intro wv hSw; (obtain ⟨qD, qC, qE, qG, qQ, qB⟩ := hSw);  go_simp; (try with_reducible rfl)))
                    try simp only [Act.put, List.getElem_toArray, List.getElem_cons_succ, List.getElem_cons_zero, List.setIfInBounds_toArray, List.set_cons_zero, List.set_cons_succ]
                    refine wpAnyH_take (i := 10) (oi := _) (v := ?_) rfl (by kernel_rfl) (by kernel_rfl) (by kernel_rfl) (fun _ _ _ h => h) (Or.inl ⟨by rfl, ?_⟩) (by assumption) ?_
                    (rotate_left); (focus (intro wv hSw; (obtain ⟨qD, qC, qE, qG, qQ, qB⟩ := hSw);  go_simp; (try with_reducible rfl)))
                    try simp only [Act.put, List.getElem_toArray, List.getElem_cons_succ, List.getElem_cons_zero, List.setIfInBounds_toArray, List.set_cons_zero, List.set_cons_succ]
                    refine wpAnyH_take (i := 11) (oi := _) (v := ?_) rfl (by kernel_rfl) (by kernel_rfl) (by kernel_rfl) (fun _ _ _ h => h) (Or.inl ⟨by rfl, ?_⟩) (by assumption) ?_
                    (rotate_left); (focus (intro wv hSw; (obtain ⟨qD, qC, qE, qG, qQ, qB⟩ := hSw);  go_simp; (try with_reducible rfl)))
                    try simp only [Act.put, List.getElem_toArray, List.getElem_cons_succ, List.getElem_cons_zero, List.setIfInBounds_toArray, List.set_cons_zero, List.set_cons_succ]
                    refine wpAnyH_take (i := 12) (oi := _) (v := ?_) rfl (by kernel_rfl) (by kernel_rfl) (by kernel_rfl) (fun _ _ _ h => h) (Or.inl ⟨by rfl, ?_⟩) (by assumption) ?_
                    (rotate_left); (focus (intro wv hSw; (obtain ⟨qD, qC, qE, qG, qQ, qB⟩ := hSw);  go_simp; (try with_reducible rfl)))
                    try simp only [Act.put, List.getElem_toArray, List.getElem_cons_succ, List.getElem_cons_zero, List.setIfInBounds_toArray, List.set_cons_zero, List.set_cons_succ]
                    refine wpAnyH_take (i := 13) (oi := _) (v := ?_) rfl (by kernel_rfl) (by kernel_rfl) (by kernel_rfl) (fun _ _ _ h => h) (Or.inl ⟨by rfl, ?_⟩) (by assumption) ?_
                    (rotate_left); (focus (intro wv hSw; (obtain ⟨qD, qC, qE, qG, qQ, qB⟩ := hSw);  go_simp; (try with_reducible rfl)))
                    try simp only [Act.put, List.getElem_toArray, List.getElem_cons_succ, List.getElem_cons_zero, List.setIfInBounds_toArray, List.set_cons_zero, List.set_cons_succ]
                    refine wpAnyH_take (i := 14) (oi := _) (v := ?_) rfl (by kernel_rfl) (by kernel_rfl) (by kernel_rfl) (fun _ _ _ h => h) (Or.inl ⟨by rfl, ?_⟩) (by assumption) ?_
                    (rotate_left); (focus (intro wv hSw; (obtain ⟨qD, qC, qE, qG, qQ, qB⟩ := hSw);  go_simp; (try with_reducible rfl)))
                    try simp only [Act.put, List.getElem_toArray, List.getElem_cons_succ, List.getElem_cons_zero, List.setIfInBounds_toArray, List.set_cons_zero, List.set_cons_succ]
                    refine wpAnyH_take (i := 15) (oi := _) (v := ?_) rfl (by kernel_rfl) (by kernel_rfl) (by kernel_rfl) (fun _ _ _ h => h) (Or.inl ⟨by rfl, ?_⟩) (by assumption) ?_
                    (rotate_left); (focus (intro wv hSw; (obtain ⟨qD, qC, qE, qG, qQ, qB⟩ := hSw);  go_simp; (try with_reducible rfl)))
                    try simp only [Act.put, List.getElem_toArray, List.getElem_cons_succ, List.getElem_cons_zero, List.setIfInBounds_toArray, List.set_cons_zero, List.set_cons_succ]
                    refine wpAnyH_take (i := 16) (oi := _) (v := ?_) rfl (by kernel_rfl) (by kernel_rfl) (by kernel_rfl) (fun _ _ _ h => h) (Or.inl ⟨by rfl, ?_⟩) (by assumption) ?_
                    (rotate_left); (focus (intro wv hSw; (obtain ⟨qD, qC, qE, qG, qQ, qB⟩ := hSw);  go_simp; (try with_reducible rfl)))
                    try simp only [Act.put, List.getElem_toArray, List.getElem_cons_succ, List.getElem_cons_zero, List.setIfInBounds_toArray, List.set_cons_zero, List.set_cons_succ]
                    refine wpAnyH_take (i := 17) (oi := _) (v := ?_) rfl (by kernel_rfl) (by kernel_rfl) (by kernel_rfl) (fun _ _ _ h => h) (Or.inl ⟨by rfl, ?_⟩) (by assumption) ?_
                    (rotate_left); (focus (intro wv hSw; (obtain ⟨qD, qC, qE, qG, qQ, qB⟩ := hSw);  go_simp; (try with_reducible rfl)))
                    try simp only [Act.put, List.getElem_toArray, List.getElem_cons_succ, List.getElem_cons_zero, List.setIfInBounds_toArray, List.set_cons_zero, List.set_cons_succ]
                    refine wpAnyH_take (i := 18) (oi := _) (v := ?_) rfl (by kernel_rfl) (by kernel_rfl) (by kernel_rfl) (fun _ _ _ h => h) (Or.inl ⟨by rfl, ?_⟩) (by assumption) ?_
                    (rotate_left); (focus (intro wv hSw; (obtain ⟨qD, qC, qE, qG, qQ, qB⟩ := hSw);  go_simp; (try with_reducible rfl)))
                    try simp only [Act.put, List.getElem_toArray, List.getElem_cons_succ, List.getElem_cons_zero, List.setIfInBounds_toArray, List.set_cons_zero, List.set_cons_succ]
                    refine wpAnyH_take (i := 19) (oi := _) (v := ?_) rfl (by kernel_rfl) (by kernel_rfl) (by kernel_rfl) (fun _ _ _ h => h) (Or.inl ⟨by rfl, ?_⟩) (by assumption) ?_
                    (rotate_left); (focus (intro wv hSw; (obtain ⟨qD, qC, qE, qG, qQ, qB⟩ := hSw);  go_simp; (try with_reducible rfl)))
                    try simp only [Act.put, List.getElem_toArray, List.getElem_cons_succ, List.getElem_cons_zero, List.setIfInBounds_toArray, List.set_cons_zero, List.set_cons_succ]
                    refine wpAnyH_take (i := 20) (oi := _) (v := ?_) rfl (by kernel_rfl) (by kernel_rfl) (by kernel_rfl) (fun _ _ _ h => h) (Or.inl ⟨by rfl, ?_⟩) (by assumption) ?_
                    (rotate_left); (focus (intro wv hSw; (obtain ⟨qD, qC, qE, qG, qQ, qB⟩ := hSw);  go_simp; (try with_reducible rfl)))
                    try simp only [Act.put, List.getElem_toArray, List.getElem_cons_succ, List.getElem_cons_zero, List.setIfInBounds_toArray, List.set_cons_zero, List.set_cons_succ]
                    refine wpAnyH_ready (rs := [21]) (by kernel_rfl) (by simp) ?_
                    refine AllReadyH.cons (o := _) rfl (fun K hK => ?_) AllReadyH.nil
                    go_simp
                    (go_at_call 59; refine (iIn7_bw _ HIV.out).mono ?_; rintro e x0c ⟨rfl, hw_0c⟩)
                    refine hK.out _ _ ⟨celS_next hD_0 hw_0c, celS_next hC_0 hw_0c, celS_next hE_0 hw_0c, hG_0.next hw_0c, hQ_0.next hw_0c, bel_next hB_0 hw_0c⟩ (fun hHeld => ?_)
                    clear hK K
                    try simp only [Act.put, List.getElem_toArray, List.getElem_cons_succ, List.getElem_cons_zero, List.setIfInBounds_toArray, List.set_cons_zero, List.set_cons_succ]
                    obtain ⟨hD_0c, hC_0c, hE_0c, hG_0c, hQ_0c, hB_0c⟩ := id hHeld
                    refine wpAnyH_take (i := 22) (oi := _) (v := ?_) rfl (by kernel_rfl) (by kernel_rfl) (by kernel_rfl) (fun _ _ _ h => h) (Or.inl ⟨by rfl, ?_⟩) (by assumption) ?_
                    (rotate_left); (focus (intro wv hSw; (obtain ⟨qD, qC, qE, qG, qQ, qB⟩ := hSw);  go_simp; (try with_reducible rfl)))
                    try simp only [Act.put, List.getElem_toArray, List.getElem_cons_succ, List.getElem_cons_zero, List.setIfInBounds_toArray, List.set_cons_zero, List.set_cons_succ]
                    refine wpAnyH_done (by kernel_rfl) ?_ _
                    have HC9 := HC.out HOK2.out (by have := HRM.out; omega)
                    have HC1 := Lib.hid HC9.1
                    have HC2 := Lib.hid HC9.2
                    clear HC9
                    have hGn := hG_0c
                    have hQn := hQ_0c
                    have hBn := hB_0c
                    have hDn := hD_0c
                    have fn := hGn.frozen i
                    clear hG_0 hQ_0 hB_0 hD_0 hC_0 hE_0 hG hQ hB d0 c0 c1 f0
                    go_wp2_with fail
                    go_roundw
                    case rel =>
                      refine ⟨p + 1, room - 1, by go_num, by go_num, by omega, by omega, Lib.hid (by have := HRM.out; have := HC2.out; omega), ?_, ?_, ?_⟩
                      · rw [HC1.out]; exact setNumB hGn i HST.out (h9 : Int)
                      · unfold SBlk; rw [Below.heap_setCell _ _ _ _ (show Q ≠ G by omega)]; exact hQn
                      · exact hBn.setCell (p := ⟨G, i, none⟩) hGw _
                    case measure => simp [intOf]; omega
            · obtain rfl : p = n := by omega
              have hki : ¬ (p : Int) < (p : Int) := by omega
              have htk : l.take p = l := List.take_of_length_le (by rw [HO.out.2.2]; omega)
              rw [htk] at hG
              clear htk
              go_wp2_with fail
              go_roundw
              case rel => exact ⟨h9 + 1, by go_num, by omega, hG, hQ, hB⟩
              case measure => simp [intOf]; omega
        · obtain rfl : h9 = 10 := by omega
          have hall : Hid ((hrun xs l k9 10).contains (-1) = !b9) := Lib.hid (by have := HLB.out; rw [HO.out.2.1] at this; unfold allH at this; rw [this]; simp)
          go_wp2_with fail
          refine (hasN9 (some ⟨G, 0, none⟩) _ (hrun xs l k9 10) (-1) _ (HHL.out 10) hG.row (by omega) hall.out).mono ?_; rintro E w6 ⟨rfl, hw6⟩
          have hB6 := bel_next hB hw6
          have hG6 := hG.next hw6
          cases b9
          · have HLN2 := Lib.hid (HLN.out rfl)
            go_wp2
            go_ret2
            exact ⟨none, 0, ret_lw (by rw [HLN2.out]; rfl) rfl, by rw [HLN2.out]; exact SOwn.nil _ _ _, hB6⟩
          · have HLL2 : Hid (l9 = hrun xs l k9 10) := Lib.hid (by rw [HLL.out rfl, HO.out.2.1])
            go_wp2
            go_ret2
            exact ⟨some ⟨G, 0, none⟩, n, ret_lw (by rw [HLL2.out, HHL.out]) rfl, by rw [HLL2.out]; exact SOwn.of_blk hG6 hGw (HHL.out 10) (by unfold maxLen; omega), hB6⟩
end Go.Proofs.Ytibpaojhjgpdaaa
