/- Marks in rows of rows of the call's own. -/
import Derived.Test.YtoklehmoeollfaaNp
import Derived.Test.YtoklehmoeollfaaNn
namespace Go.Proofs.Ytoklehmoeollfaa
open Go Go.ChangeShapes Go.WideShapes Go.ChangeAt Go.RowKit
set_option linter.unusedSimpArgs false
set_option linter.unusedVariables false

/-- How many numbers the first rows have. -/
def pfN (rows : List (List Int)) : Nat → Nat
  | 0 => 0
  | k + 1 => pfN rows k + (rwK rows k).length
def mkTo (rows : List (List Int)) (k : Nat) : List (List Int) := (List.range rows.length).map (fun i => if i < k then markS (mkNum (1 + pfN rows i)) (rwK rows i).length else rwK rows i)
theorem mkTo_len (rows : List (List Int)) (k : Nat) : (mkTo rows k).length = rows.length := by simp [mkTo]
theorem mkTo_zero (rows : List (List Int)) : mkTo rows 0 = rows := by
  refine List.ext_getElem (by simp [mkTo]) (fun i h1 h2 => ?_)
  simp [mkTo, rwK, h2]
theorem mkTo_at {rows : List (List Int)} {k i : Nat} (h : i < (mkTo rows k).length) : (mkTo rows k)[i] = if i < k then markS (mkNum (1 + pfN rows i)) (rwK rows i).length else rwK rows i := by simp [mkTo]
theorem mkTo_set {rows : List (List Int)} {k : Nat} (hk : k < rows.length) : (mkTo rows k).set k (markS (mkNum (1 + pfN rows k)) (rwK rows k).length) = mkTo rows (k + 1) := by
  refine List.ext_getElem (by simp [mkTo]) (fun i h1 h2 => ?_)
  simp only [mkTo, List.getElem_set, List.getElem_map, List.getElem_range]
  by_cases c : k = i
  · subst c; simp
  · rw [if_neg c]
    by_cases d : i < k
    · rw [if_pos d, if_pos (by omega)]
    · rw [if_neg d, if_neg (by omega)]
theorem pf_bd {rows : List (List Int)} (h : ∀ j, (rwK rows j).length ≤ 100) : ∀ k, pfN rows k ≤ 100 * k
  | 0 => by simp [pfN]
  | k + 1 => by have := pf_bd h k; have := h k; simp only [pfN]; omega
def MkRet (rows : List (List Int)) (n base : Nat) (A : Option Addr) (cap : Nat) (hs : List VH) (w : World) (e : Ending) (w' : World) : Prop := e = .returned (.int .i64 ((1 + pfN rows n : Nat) : Int)) ∧ NO w' base A cap hs (mkTo rows n) ∧ Below base w w'
theorem rtP_row {Y F j : Nat} : (rwK (rtL Y F) j).length ≤ F := by
  unfold rwK
  by_cases h : j < (rtL Y F).length
  · rw [List.getD_eq_getElem?_getD, List.getElem?_eq_getElem h]
    simp [rtL, rtP]
  · rw [List.getD_eq_getElem?_getD, List.getElem?_eq_none (by omega)]; simp
theorem rtI_bd (y f : Int) : (rtI y f).length ≤ 8 ∧ ∀ j, (rwK (rtI y f) j).length ≤ 6 := by
  unfold rtI
  split
  · rename_i h
    have h1 := inV_iff.1 h.1; have h2 := inV_iff.1 h.2
    refine ⟨by rw [rtL_len]; omega, fun j => ?_⟩
    have := rtP_row (Y := y.toNat) (F := f.toNat) (j := j); omega
  · exact ⟨by simp, fun j => by simp [rwK]⟩
def RtRetN (rows : List (List Int)) (n : Nat) (w : World) (e : Ending) (w' : World) : Prop := ∃ (A : Option Addr) (cap : Nat) (hs : List VH), e = .returned (.slice A n cap) ∧ NO w' w.heap.size A cap hs rows ∧ Below w.heap.size w w'
theorem iRt_is {y f : Int} {rows : List (List Int)} {n : Nat} (w : World) (hr : rtI y f = rows) (hn : rows.length = n) : Calls Try.prog 18 #[.int .i64 y, .int .i64 f] w fun E w' => RtRetN rows n w E w' := by subst hr; subst hn; exact iRt_any y f w
theorem sRt_is {y f : Int} {rows : List (List Int)} {n : Nat} (w : World) (hr : rtI y f = rows) (hn : rows.length = n) : Calls Try.prog 20 #[.int .i64 y, .int .i64 f] w fun E w' => RtRetN rows n w E w' := by subst hr; subst hn; exact sRt_any y f w
end Go.Proofs.Ytoklehmoeollfaa
