/- What holds at a minute: mathematics, and the contracts of EntryAt. -/
import Derived.Test.YtpmbjdfecbmgoabBt
namespace Go.Proofs.Ytpmbjdfecbmgoab
open Go Go.ChangeShapes Go.WideShapes Go.ChangeAt Go.RowKit
set_option linter.unusedSimpArgs false
set_option linter.unusedVariables false

/-- The text of the last entry whose minute is not greater. -/
def eaF (m : Int) : ByteArray → List (Int × ByteArray) → ByteArray
  | t, [] => t
  | t, x :: xs => eaF m (if x.1 ≤ m then x.2 else t) xs
def eaT (xs : List (Int × ByteArray)) (m : Int) : ByteArray :=
  if enB xs && inV m 0 1439 then (match xs.getLast? with | none => ByteArray.empty | some l => eaF m l.2 xs) else ByteArray.empty
theorem eaF_cat (m : Int) : ∀ (a : List (Int × ByteArray)) (x : Int × ByteArray) (t : ByteArray), eaF m t (a ++ [x]) = if x.1 ≤ m then x.2 else eaF m t a
  | [], x, t => rfl
  | y :: a, x, t => by simp only [List.cons_append, eaF]; exact eaF_cat m a x _
theorem eaF_step {xs : List (Int × ByteArray)} {k : Nat} (hk : k < xs.length) (m : Int) (t : ByteArray) : eaF m t (xs.take (k + 1)) = if xs[k].1 ≤ m then xs[k].2 else eaF m t (xs.take k) := by
  rw [List.take_succ_eq_append_getElem hk, eaF_cat]
theorem eaT_no1 {xs : List (Int × ByteArray)} {m : Int} (h : enB xs = false) : eaT xs m = ByteArray.empty := by unfold eaT; rw [h]; rfl
theorem eaT_no2 {xs : List (Int × ByteArray)} {m : Int} (h : inV m 0 1439 = false) : eaT xs m = ByteArray.empty := by unfold eaT; rw [h, Bool.and_false]; rfl
theorem eaT_nil {xs : List (Int × ByteArray)} {m : Int} (h : xs.length = 0) : eaT xs m = ByteArray.empty := by
  obtain rfl := List.eq_nil_of_length_eq_zero h
  unfold eaT; split <;> rfl
theorem eaT_yes {xs : List (Int × ByteArray)} {m : Int} {j : Nat} (hj : j < xs.length) (e : j + 1 = xs.length) (h : enB xs = true) (hi : inV m 0 1439 = true) : eaT xs m = eaF m xs[j].2 xs := by
  unfold eaT; rw [h, hi, List.getLast?_eq_getElem?, show xs.length - 1 = j by omega, List.getElem?_eq_getElem hj]; rfl
theorem ret_s {a t : ByteArray} (h : a = t) : Ending.returned (.string a) = .returned (.string t) := by rw [h]
theorem ret_e {t : ByteArray} (h : t = ByteArray.empty) : Ending.returned (.string ⟨#[]⟩) = .returned (.string t) := by subst h; rfl
set_option maxRecDepth 100000 in
set_option maxHeartbeats 4000000 in
theorem iEa_is (A : Option Addr) (cap : Nat) (xs : List VEntry) {n : Nat} (m : Int) {t : ByteArray} (w : World) (hn : xs.length = n) (h : SRow encEntry w A xs) (hq : ∀ v ∈ xs, v.2.size ≤ maxLen) (hl : n ≤ 2000000) (hr : eaT xs m = t) :
    Calls Try.prog 23 #[.slice A n cap, .int .i64 m] w fun E w' => E = .returned (.string t) ∧ Below w.heap.size w w' := by
  have HN := Lib.hid hn
  have HQ := Lib.hid hq
  have HR := Lib.hid hr
  clear hn hq hr
  by_cases h0 : n = 0
  · have HF := Lib.hid (HR.out.symm.trans (eaT_nil (by rw [HN.out]; exact h0)))
    subst h0
    have hB1 := Below.refl w.heap.size w
    have hu : undef = Value.tuple #[] := rfl
    go_enter Try.func23, Try.ntmps23
    go_wp2
    go_ret
    exact ⟨ret_e HF.out, hB1⟩
  · have hz : ¬ (n : Int) = 0 := by omega
    cases he : enB xs
    · have HF := Lib.hid (HR.out.symm.trans (eaT_no1 he))
      have HE := Lib.hid he
      clear he
      have hu : undef = Value.tuple #[] := rfl
      go_enter Try.func23, Try.ntmps23
      go_wp2_with fail
      refine (iEn_is A cap xs _ HN.out h HQ.out hl HE.out).mono ?_; rintro E w1 ⟨rfl, hB1⟩
      go_wp2
      go_ret
      exact ⟨ret_e HF.out, hB1⟩
    · have HE := Lib.hid he
      clear he
      cases hi : inV m 0 1439
      · have HF := Lib.hid (HR.out.symm.trans (eaT_no2 hi))
        have HI := Lib.hid hi
        clear hi
        go_enter Try.func23, Try.ntmps23
        go_wp2_with fail
        refine (iEn_is A cap xs _ HN.out h HQ.out hl HE.out).mono ?_; rintro E w1 ⟨rfl, hB1⟩
        go_wp2_with fail
        refine (iMv_is _ HI.out).mono ?_; rintro E w' ⟨rfl, rfl⟩
        go_wp2
        go_ret
        exact ⟨ret_e HF.out, hB1⟩
      · have HI := Lib.hid hi
        clear hi
        go_enter Try.func23, Try.ntmps23
        go_wp2_with fail
        refine (iEn_is A cap xs _ HN.out h HQ.out hl HE.out).mono ?_; rintro E w1 ⟨rfl, hB1⟩
        go_wp2_with fail
        refine (iMv_is _ HI.out).mono ?_; rintro E w' ⟨rfl, rfl⟩
        obtain ⟨j, hj⟩ : ∃ j : Nat, n = j + 1 := ⟨n - 1, by omega⟩
        have hjl : j < xs.length := by rw [HN.out]; omega
        have HF : Hid (eaF m xs[j].2 xs = t) := Lib.hid ((eaT_yes hjl (by rw [HN.out]; omega) HE.out HI.out).symm.trans HR.out)
        obtain ⟨b, off, rfl, hb, c0, c1⟩ := rowEntry (h.next hB1) hjl
        generalize xs[j].1 = l0 at c0
        generalize xs[j].2 = l1 at c1 HF
        have hjw : IntKind.i64.wrap ((n : Int) - 1) = (j : Int) := by rw [IntWalk.i64_in _ (by omega)]; omega
        have hjv : (n : Int) - 1 = (j : Int) := by omega
        have hju : IntKind.i64.wrap (j : Int) = (j : Int) := by rw [IntWalk.i64_in _ (by omega)]
        have hjn : (j : Int) < (n : Int) := by omega
        have hjm : j < n := by omega
        clear hj
        have hz1 := hB1.size
        go_wp2_with fail
        go_loopw [29] (fun iv wr => ∃ (k : Nat) (h1 : Int) (ht : ByteArray), iv = .int .i64 k ∧ k ≤ n ∧ Hid (eaF m l1 (xs.take k) = ht) ∧ wr.heap[w1.heap.size]? = some (.cells #[.int .i64 h1, .string ht] 40) ∧ Below w.heap.size w wr) (fun iv _ => (n - intOf iv).toNat)
        case atStart => exact ⟨0, l0, l1, rfl, by omega, (by show _ = _; rfl), blk_new w1 _, hB1.alloc hB1.size _⟩
        case round =>
          obtain ⟨k, h1, ht, rfl, k1, HA, hP, hB⟩ := hrel
          obtain ⟨p0, p1, _, _, zp⟩ := blk2 hP
          clear c0 c1
          by_cases hlt : k < n
          · have hk : k < xs.length := by rw [HN.out]; exact hlt
            have hki : (k : Int) < (n : Int) := by omega
            have hs1 := eaF_step hk m l1
            rw [HA.out] at hs1
            obtain ⟨_, _, e, _, c0, c1⟩ := rowEntry (h.next hB) hk
            simp only [Option.some.injEq, Addr.mk.injEq, and_true] at e
            obtain ⟨rfl, rfl⟩ := e
            generalize xs[k].1 = mt at c0 hs1
            generalize xs[k].2 = tx at c1 hs1
            have hPa := blk_old hP (.cells #[.int .i64 mt, .string tx] 40)
            obtain ⟨pa0, pa1, _, _, zpa⟩ := blk2 hPa
            by_cases hm : mt ≤ m
            · rw [if_pos hm] at hs1
              have H1 := Lib.hid hs1
              clear hs1
              go_wp2_with fail
              go_roundw
              case rel => exact ⟨k + 1, mt, tx, by go_num, by omega, H1, blk_old (blk2_set hP) _, (store2_bel hB hz1 _ _).alloc (store2_bel hB hz1 _ _).size _⟩
              case measure => simp [intOf]; omega
            · rw [if_neg hm] at hs1
              have H1 := Lib.hid hs1
              clear hs1
              go_wp2_with fail
              go_roundw
              case rel => exact ⟨k + 1, h1, ht, by go_num, by omega, H1, hPa, hB.alloc hB.size _⟩
              case measure => simp [intOf]; omega
          · have hki : ¬ (k : Int) < (n : Int) := by omega
            have hx : ht = t := by rw [← HF.out, ← HA.out, List.take_of_length_le (by rw [HN.out]; omega)]
            have HX := Lib.hid hx
            clear hx
            go_wp2_with fail
            go_ret
            exact ⟨ret_s HX.out, hB⟩
set_option maxRecDepth 100000 in
set_option maxHeartbeats 4000000 in
theorem sEa_is (A : Option Addr) (cap : Nat) (xs : List VEntry) {n : Nat} (m : Int) {t : ByteArray} (w : World) (hn : xs.length = n) (h : SRow encEntry w A xs) (hq : ∀ v ∈ xs, v.2.size ≤ maxLen) (hl : n ≤ 2000000) (hr : eaT xs m = t) :
    Calls Try.prog 24 #[.slice A n cap, .int .i64 m] w fun E w' => E = .returned (.string t) ∧ Below w.heap.size w w' := by
  have HN := Lib.hid hn
  have HQ := Lib.hid hq
  have HR := Lib.hid hr
  clear hn hq hr
  cases he : enB xs
  · have HF := Lib.hid (HR.out.symm.trans (eaT_no1 he))
    have HE := Lib.hid he
    clear he
    have hu : undef = Value.tuple #[] := rfl
    go_enter Try.func24, Try.ntmps24
    go_wp2_with fail
    refine (sEn_is A cap xs _ HN.out h HQ.out hl HE.out).mono ?_; rintro E w1 ⟨rfl, hB1⟩
    go_wp2
    go_ret
    exact ⟨ret_e HF.out, hB1⟩
  · have HE := Lib.hid he
    clear he
    cases hi : inV m 0 1439
    · have HF := Lib.hid (HR.out.symm.trans (eaT_no2 hi))
      have HI := Lib.hid hi
      clear hi
      have hu : undef = Value.tuple #[] := rfl
      go_enter Try.func24, Try.ntmps24
      go_wp2_with fail
      refine (sEn_is A cap xs _ HN.out h HQ.out hl HE.out).mono ?_; rintro E w1 ⟨rfl, hB1⟩
      go_wp2_with fail
      refine (sIn7_is _ HI.out).mono ?_; rintro E w' ⟨rfl, rfl⟩
      go_wp2
      go_ret
      exact ⟨ret_e HF.out, hB1⟩
    · have HI := Lib.hid hi
      clear hi
      by_cases h0 : n = 0
      · have HF := Lib.hid (HR.out.symm.trans (eaT_nil (by rw [HN.out]; exact h0)))
        subst h0
        go_enter Try.func24, Try.ntmps24
        go_wp2_with fail
        refine (sEn_is A cap xs _ HN.out h HQ.out hl HE.out).mono ?_; rintro E w1 ⟨rfl, hB1⟩
        go_wp2_with fail
        refine (sIn7_is _ HI.out).mono ?_; rintro E w' ⟨rfl, rfl⟩
        go_wp2
        go_ret
        exact ⟨ret_e HF.out, hB1⟩
      · have hz : ¬ (n : Int) = 0 := by omega
        go_enter Try.func24, Try.ntmps24
        go_wp2_with fail
        refine (sEn_is A cap xs _ HN.out h HQ.out hl HE.out).mono ?_; rintro E w1 ⟨rfl, hB1⟩
        go_wp2_with fail
        refine (sIn7_is _ HI.out).mono ?_; rintro E w' ⟨rfl, rfl⟩
        obtain ⟨j, hj⟩ : ∃ j : Nat, n = j + 1 := ⟨n - 1, by omega⟩
        have hjl : j < xs.length := by rw [HN.out]; omega
        have HF : Hid (eaF m xs[j].2 xs = t) := Lib.hid ((eaT_yes hjl (by rw [HN.out]; omega) HE.out HI.out).symm.trans HR.out)
        obtain ⟨b, off, rfl, hb, c0, c1⟩ := rowEntry (h.next hB1) hjl
        generalize xs[j].1 = l0 at c0
        generalize xs[j].2 = l1 at c1 HF
        have hjw : IntKind.i64.wrap ((n : Int) - 1) = (j : Int) := by rw [IntWalk.i64_in _ (by omega)]; omega
        have hjv : (n : Int) - 1 = (j : Int) := by omega
        have hju : IntKind.i64.wrap (j : Int) = (j : Int) := by rw [IntWalk.i64_in _ (by omega)]
        have hjn : (j : Int) < (n : Int) := by omega
        have hjm : j < n := by omega
        clear hj
        go_wp2_with fail
        go_loopw [5, 6] (fun tv iv wr => ∃ (k : Nat) (ht : ByteArray), iv = .int .i64 k ∧ k ≤ n ∧ tv = .string ht ∧ Hid (eaF m l1 (xs.take k) = ht) ∧ wr = w1) (fun _ iv _ => (n - intOf iv).toNat)
        case atStart => exact ⟨0, l1, rfl, by omega, rfl, (by show _ = _; rfl), rfl⟩
        case round =>
          obtain ⟨k, ht, rfl, k1, rfl, HA, rfl⟩ := hrel
          clear c0 c1
          by_cases hlt : k < n
          · have hk : k < xs.length := by rw [HN.out]; exact hlt
            have hki : (k : Int) < (n : Int) := by omega
            have hs1 := eaF_step hk m l1
            rw [HA.out] at hs1
            obtain ⟨_, _, e, _, c0, c1⟩ := rowEntry (h.next hB1) hk
            simp only [Option.some.injEq, Addr.mk.injEq, and_true] at e
            obtain ⟨rfl, rfl⟩ := e
            generalize xs[k].1 = mt at c0 hs1
            generalize xs[k].2 = tx at c1 hs1
            by_cases hm : mt ≤ m
            · rw [if_pos hm] at hs1
              have H1 := Lib.hid hs1
              clear hs1
              go_wp2_with fail
              go_roundw
              case rel => exact ⟨k + 1, tx, by go_num, by omega, rfl, H1, trivial⟩
              case measure => simp [intOf]; omega
            · rw [if_neg hm] at hs1
              have H1 := Lib.hid hs1
              clear hs1
              go_wp2_with fail
              go_roundw
              case rel => exact ⟨k + 1, ht, by go_num, by omega, rfl, H1, trivial⟩
              case measure => simp [intOf]; omega
          · have hki : ¬ (k : Int) < (n : Int) := by omega
            have hx : ht = t := by rw [← HF.out, ← HA.out, List.take_of_length_le (by rw [HN.out]; omega)]
            have HX := Lib.hid hx
            clear hx
            go_wp2_with fail
            go_ret
            exact ⟨ret_s HX.out, hB1⟩
end Go.Proofs.Ytpmbjdfecbmgoab
