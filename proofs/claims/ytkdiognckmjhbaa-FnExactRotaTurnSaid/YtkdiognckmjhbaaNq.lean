/- Marks in rows of rows of the call's own. -/
import Derived.Test.YtkdiognckmjhbaaNp
import Derived.Test.YtkdiognckmjhbaaNn
namespace Go.Proofs.Ytkdiognckmjhbaa
open Go Go.ChangeShapes Go.WideShapes Go.ChangeAt Go.RowKit
set_option linter.unusedSimpArgs false
set_option linter.unusedVariables false

/-- How many numbers the first rows have. -/
def pfN (rows : List (List Int)) : Nat → Nat
  | 0 => 0
  | k + 1 => pfN rows k + (rwK rows k).length
def mkTo (rows : List (List Int)) (k : Nat) : List (List Int) := (List.range rows.length).map (fun i => if i < k then markS (mkNum (1 + pfN rows i)) (rwK rows i).length else rwK rows i)
theorem mkTo_len (rows : List (List Int)) (k : Nat) : (mkTo rows k).length = rows.length := by simp [mkTo]
theorem mkTo_zero (rows : List (List Int)) : mkTo rows 0 = rows := by
  refine List.ext_getElem (by simp [mkTo]) (fun i h1 h2 => ?_)
  simp [mkTo, rwK, h2]
theorem mkTo_at {rows : List (List Int)} {k i : Nat} (h : i < (mkTo rows k).length) : (mkTo rows k)[i] = if i < k then markS (mkNum (1 + pfN rows i)) (rwK rows i).length else rwK rows i := by simp [mkTo]
theorem mkTo_set {rows : List (List Int)} {k : Nat} (hk : k < rows.length) : (mkTo rows k).set k (markS (mkNum (1 + pfN rows k)) (rwK rows k).length) = mkTo rows (k + 1) := by
  refine List.ext_getElem (by simp [mkTo]) (fun i h1 h2 => ?_)
  simp only [mkTo, List.getElem_set, List.getElem_map, List.getElem_range]
  by_cases c : k = i
  · subst c; simp
  · rw [if_neg c]
    by_cases d : i < k
    · rw [if_pos d, if_pos (by omega)]
    · rw [if_neg d, if_neg (by omega)]
theorem pf_bd {rows : List (List Int)} (h : ∀ j, (rwK rows j).length ≤ 100) : ∀ k, pfN rows k ≤ 100 * k
  | 0 => by simp [pfN]
  | k + 1 => by have := pf_bd h k; have := h k; simp only [pfN]; omega
def MkRet (rows : List (List Int)) (n base : Nat) (A : Option Addr) (cap : Nat) (hs : List VH) (w : World) (e : Ending) (w' : World) : Prop := e = .returned (.int .i64 ((1 + pfN rows n : Nat) : Int)) ∧ NO w' base A cap hs (mkTo rows n) ∧ Below base w w'
set_option maxRecDepth 100000 in
set_option maxHeartbeats 4000000 in
theorem markNN_any (base : Nat) (A : Option Addr) (cap : Nat) (hs : List VH) (rows : List (List Int)) {n : Nat} (w : World) (hn : rows.length = n) (h : NO w base A cap hs rows) (hb : base ≤ w.heap.size) (h100 : n ≤ 100) (hj : ∀ j, (rwK rows j).length ≤ 100) :
    Calls Try.prog 18 #[.slice A n cap, .int .i64 1] w fun E w' => MkRet rows n base A cap hs w E w' := by
  have HP := Lib.hid (pf_bd hj)
  have HJ := Lib.hid hj
  have HN := Lib.hid hn
  have HL := Lib.hid h.len
  clear hn hj
  go_enter Try.func18, Try.ntmps18
  go_wp2_with fail
  go_loopw [1, 5] (fun kv i wr => ∃ (k q : Nat), k ≤ n ∧ i = .int .i64 k ∧ kv = .int .i64 q ∧ Hid (q = 1 + pfN rows k) ∧ q ≤ 10001 ∧ 1 ≤ q ∧ NO wr base A cap hs (mkTo rows k) ∧ Below base w wr) (fun _ i _ => (n - intOf i).toNat)
  case atStart => exact ⟨0, 1, by omega, rfl, rfl, (by show _ = _; rfl), by omega, by omega, by rw [mkTo_zero]; exact h, Below.refl _ _⟩
  case round =>
    clear h
    obtain ⟨k, q, k1, rfl, rfl, HQ, q1, q0, hN, hB⟩ := hrel
    by_cases hlt : k < n
    · have hki : (k : Int) < (n : Int) := by omega
      have hk : k < rows.length := by rw [HN.out]; exact hlt
      have hkh : k < hs.length := by rw [HL.out]; exact hk
      have hkm : k < (mkTo rows k).length := by rw [mkTo_len]; exact hk
      obtain ⟨g, rfl⟩ := own_some hN.hd (by omega)
      obtain ⟨⟨V, m, cv⟩, hv⟩ : ∃ x, hs[k] = x := ⟨_, rfl⟩
      obtain ⟨hd, hfz⟩ := hN.head hkh
      have hro := hN.row k hkh hkm
      rw [mkTo_at, if_neg (Nat.lt_irrefl k), hv] at hro
      rw [hv] at hd
      simp only at hd
      obtain ⟨hro, hq⟩ := hro
      simp only at hro hq
      have hm := HJ.out k
      rw [← hq] at hm
      have HV := Lib.hid hv
      have HM := Lib.hid hq.symm
      clear hv hq
      have hpk := HP.out (k + 1)
      go_wp2_with fail
      refine (markNumS_any base V cv (rwK rows k) q HM.out hro (by omega) q0 (by omega)).mono ?_; rintro e w1 ⟨rfl, hO1, hG1⟩
      have hge := hN.row k hkh hkm
      have hat : (mkTo rows k)[k].length = m := by rw [mkTo_at, if_neg (Nat.lt_irrefl k), HM.out]
      have hN1 := hN.renew hkh hkm (ys := markS (mkNum q) m) (by rw [markS_len, hat]) (by rw [HV.out, hat]; exact hG1) (by rw [HV.out]; exact hO1)
      have hse : (mkTo rows k).set k (markS (mkNum q) m) = mkTo rows (k + 1) := by rw [HQ.out, ← HM.out]; exact mkTo_set hk
      rw [hse] at hN1
      have hB1 : Below base w w1 := hB.grown hG1 (by have := hB.size; omega) (fun r hr => (own_row hro hr).2.1)
      have HQ2 : Hid (q + m = 1 + pfN rows (k + 1)) := Lib.hid (by rw [HQ.out, pfN, HM.out]; omega)
      have hq2 : q + m ≤ 10001 := by have := HQ2.out; omega
      clear hse hat hge hpk
      go_wp2_with fail
      go_roundw
      case rel => exact ⟨k + 1, q + m, by omega, by go_num, by go_num, HQ2, hq2, by omega, hN1, hB1⟩
      case measure => simp [intOf]; omega
    · have hki : ¬ (k : Int) < (n : Int) := by omega
      obtain rfl : k = n := by omega
      go_wp2_with fail
      go_ret
      exact ⟨ret_int (by rw [HQ.out]), hN, hB⟩
set_option maxRecDepth 100000 in
set_option maxHeartbeats 4000000 in
theorem heldNN_any (A : Option Addr) (cap : Nat) (hs : List VH) (rows : List (List Int)) {n : Nat} (w : World) (hn : rows.length = n) (h : NRow w A hs (mkTo rows n)) (h100 : n ≤ 100) (hj : ∀ j, (rwK rows j).length ≤ 100) {t : Nat} (ht : 1 + pfN rows n = t) :
    Calls Try.prog 19 #[.slice A n cap, .int .i64 1] w fun E w' => E = .returned (.int .i64 t) ∧ Below w.heap.size w w' := by
  have HT := Lib.hid ht
  clear ht
  have HP := Lib.hid (pf_bd hj)
  have HJ := Lib.hid hj
  have HN := Lib.hid hn
  clear hn hj
  go_enter Try.func19, Try.ntmps19
  go_wp2_with fail
  go_loopw [1, 5] (fun kv i wr => ∃ (k q : Nat), k ≤ n ∧ i = .int .i64 k ∧ kv = .int .i64 q ∧ Hid (q = 1 + pfN rows k) ∧ q ≤ 10001 ∧ 1 ≤ q ∧ Below w.heap.size w wr) (fun _ i _ => (n - intOf i).toNat)
  case atStart => exact ⟨0, 1, by omega, rfl, rfl, (by show _ = _; rfl), by omega, by omega, Below.refl _ _⟩
  case round =>
    obtain ⟨k, q, k1, rfl, rfl, HQ, q1, q0, hB⟩ := hrel
    by_cases hlt : k < n
    · have hki : (k : Int) < (n : Int) := by omega
      have hk : k < (mkTo rows n).length := by rw [mkTo_len, HN.out]; exact hlt
      obtain ⟨b, off, rfl, hb, hget⟩ := (h.next hB).get hk
      obtain ⟨V, m, cv, hq, d, hrow⟩ := hget k hk
      rw [mkTo_at, if_pos hlt, markS_len] at hq
      rw [mkTo_at, if_pos hlt, hq, ← HQ.out] at hrow
      have hm := HJ.out k
      rw [hq] at hm
      have HM := Lib.hid hq
      clear hq hget
      have hpk := HP.out (k + 1)
      have HQ2 : Hid (q + m = 1 + pfN rows (k + 1)) := Lib.hid (by rw [HQ.out, pfN, HM.out]; omega)
      have hq2 : q + m ≤ 10001 := by have := HQ2.out; omega
      clear hpk
      go_wp2_with fail
      refine (heldNumS_any V cv q hrow (by omega) q0 (by omega)).mono ?_; rintro e w1 ⟨rfl, hw1⟩
      have hB1 := bel_next hB hw1
      have hnn : ¬ (q : Int) + (m : Int) < 0 := by omega
      go_wp2_with fail
      go_roundw
      case rel => exact ⟨k + 1, q + m, by omega, by go_num, by go_num, HQ2, hq2, by omega, hB1⟩
      case measure => simp [intOf]; omega
    · have hki : ¬ (k : Int) < (n : Int) := by omega
      obtain rfl : k = n := by omega
      go_wp2_with fail
      go_ret
      exact ⟨ret_int (by rw [HQ.out, HT.out]), hB⟩
theorem rtP_row {Y F j : Nat} : (rwK (rtL Y F) j).length ≤ F := by
  unfold rwK
  by_cases h : j < (rtL Y F).length
  · rw [List.getD_eq_getElem?_getD, List.getElem?_eq_getElem h]
    simp [rtL, rtP]
  · rw [List.getD_eq_getElem?_getD, List.getElem?_eq_none (by omega)]; simp
theorem rtI_bd (y f : Int) : (rtI y f).length ≤ 8 ∧ ∀ j, (rwK (rtI y f) j).length ≤ 6 := by
  unfold rtI
  split
  · rename_i h
    have h1 := inV_iff.1 h.1; have h2 := inV_iff.1 h.2
    refine ⟨by rw [rtL_len]; omega, fun j => ?_⟩
    have := rtP_row (Y := y.toNat) (F := f.toNat) (j := j); omega
  · exact ⟨by simp, fun j => by simp [rwK]⟩
def RtRetN (rows : List (List Int)) (n : Nat) (w : World) (e : Ending) (w' : World) : Prop := ∃ (A : Option Addr) (cap : Nat) (hs : List VH), e = .returned (.slice A n cap) ∧ NO w' w.heap.size A cap hs rows ∧ Below w.heap.size w w'
theorem iRt_is {y f : Int} {rows : List (List Int)} {n : Nat} (w : World) (hr : rtI y f = rows) (hn : rows.length = n) : Calls Try.prog 17 #[.int .i64 y, .int .i64 f] w fun E w' => RtRetN rows n w E w' := by subst hr; subst hn; exact iRt_any y f w
theorem sRt_is {y f : Int} {rows : List (List Int)} {n : Nat} (w : World) (hr : rtI y f = rows) (hn : rows.length = n) : Calls Try.prog 16 #[.int .i64 y, .int .i64 f] w fun E w' => RtRetN rows n w E w' := by subst hr; subst hn; exact sRt_any y f w
end Go.Proofs.Ytkdiognckmjhbaa
