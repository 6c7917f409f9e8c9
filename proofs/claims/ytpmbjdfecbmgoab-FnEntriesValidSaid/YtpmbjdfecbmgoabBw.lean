/- When the next entry comes: mathematics, and the contracts of EntryNext. -/
import Derived.Test.YtpmbjdfecbmgoabBv
import Derived.Test.YtpmbjdfecbmgoabSm
namespace Go.Proofs.Ytpmbjdfecbmgoab
open Go Go.ChangeShapes Go.WideShapes Go.ChangeAt Go.RowKit
set_option linter.unusedSimpArgs false
set_option linter.unusedVariables false

/-- In how many minutes an entry comes. -/
def enW (m : Int) (x : Int × ByteArray) : Int := (x.1 - m - 1) % 1440 + 1
def nxF (m : Int) : Int → List (Int × ByteArray) → Int
  | a, [] => a
  | a, x :: xs => nxF m (if enW m x < a then enW m x else a) xs
def nxN (xs : List (Int × ByteArray)) (m : Int) : Int := if enB xs && inV m 0 1439 && !xs.isEmpty then nxF m 1440 xs else -1
theorem nxF_cat (m : Int) : ∀ (a : List (Int × ByteArray)) (x : Int × ByteArray) (t : Int), nxF m t (a ++ [x]) = if enW m x < nxF m t a then enW m x else nxF m t a
  | [], x, t => rfl
  | y :: a, x, t => by simp only [List.cons_append, nxF]; exact nxF_cat m a x _
theorem nxF_step {xs : List (Int × ByteArray)} {k : Nat} (hk : k < xs.length) (m : Int) (t : Int) : nxF m t (xs.take (k + 1)) = if enW m xs[k] < nxF m t (xs.take k) then enW m xs[k] else nxF m t (xs.take k) := by
  rw [List.take_succ_eq_append_getElem hk, nxF_cat]
theorem nxF_le (m : Int) : ∀ (xs : List (Int × ByteArray)) (a : Int), nxF m a xs ≤ a ∧ ∀ x ∈ xs, nxF m a xs ≤ enW m x
  | [], a => ⟨Int.le_refl _, by simp⟩
  | y :: xs, a => by
    have h := nxF_le m xs (if enW m y < a then enW m y else a)
    simp only [nxF, List.mem_cons]
    refine ⟨?_, ?_⟩
    · have := h.1; split at this <;> omega
    · rintro x (rfl | hx)
      · have := h.1; split at this <;> omega
      · exact h.2 x hx
theorem nxF_ge (m L : Int) : ∀ (xs : List (Int × ByteArray)) (a : Int), L ≤ a → (∀ x ∈ xs, L ≤ enW m x) → L ≤ nxF m a xs
  | [], a, h, _ => h
  | y :: xs, a, h, h2 => by
    simp only [nxF]
    refine nxF_ge m L xs _ ?_ fun x hx => h2 x (List.mem_cons_of_mem _ hx)
    have := h2 y (List.mem_cons_self ..)
    split <;> omega
theorem nx_hit {m v : Int} {xs : List (Int × ByteArray)} (hv : v ≤ 1440) (h : ∀ x ∈ xs, v ≤ enW m x) {k : Nat} (hk : k < xs.length) (e : enW m xs[k] = v) : nxF m 1440 xs = v := by
  have h1 := (nxF_le m xs 1440).2 xs[k] (List.getElem_mem hk)
  have h2 := nxF_ge m v xs 1440 hv h
  omega
theorem nx_end {m : Int} {xs : List (Int × ByteArray)} (h : ∀ x ∈ xs, 1440 ≤ enW m x) : nxF m 1440 xs = 1440 := by
  have h1 := (nxF_le m xs 1440).1
  have h2 := nxF_ge m 1440 xs 1440 (Int.le_refl _) h
  omega
theorem enR_rng : ∀ (xs : List (Int × ByteArray)) (p : Int), enR p xs = true → ∀ x ∈ xs, 0 ≤ x.1 ∧ x.1 ≤ 1439
  | [], p, _, x, hx => by simp at hx
  | y :: xs, p, h, x, hx => by
    simp only [enR, enV, inV, Bool.and_eq_true, decide_eq_true_eq] at h
    rcases List.mem_cons.1 hx with rfl | hx
    · exact ⟨by omega, by omega⟩
    · exact enR_rng xs _ h.2 x hx
theorem enB_rng {xs : List (Int × ByteArray)} (h : enB xs = true) {k : Nat} (hk : k < xs.length) : 0 ≤ xs[k].1 ∧ xs[k].1 ≤ 1439 := enR_rng xs _ (enB_iff.1 h).2 _ (List.getElem_mem hk)
theorem enW_bd (m : Int) (x : Int × ByteArray) : 1 ≤ enW m x ∧ enW m x ≤ 1440 := by unfold enW; omega
theorem enW_iff {m v : Int} {x : Int × ByteArray} (h0 : 0 ≤ x.1) (h1 : x.1 ≤ 1439) (m0 : 0 ≤ m) (m1 : m ≤ 1439) (v0 : 1 ≤ v) (v1 : v ≤ 1440) : x.1 = (m + v) % 1440 ↔ enW m x = v := by unfold enW; omega
theorem nxN_no1 {xs : List (Int × ByteArray)} {m : Int} (h : enB xs = false) : nxN xs m = -1 := by unfold nxN; rw [h]; rfl
theorem nxN_no2 {xs : List (Int × ByteArray)} {m : Int} (h : inV m 0 1439 = false) : nxN xs m = -1 := by unfold nxN; rw [h, Bool.and_false]; rfl
theorem nxN_nil {xs : List (Int × ByteArray)} {m : Int} (h : xs.length = 0) : nxN xs m = -1 := by
  obtain rfl := List.eq_nil_of_length_eq_zero h
  unfold nxN; rw [if_neg (by simp)]
theorem nxN_yes {xs : List (Int × ByteArray)} {m : Int} (e : xs.length ≠ 0) (h : enB xs = true) (hi : inV m 0 1439 = true) : nxN xs m = nxF m 1440 xs := by
  unfold nxN; rw [h, hi, if_pos (by cases xs <;> simp_all)]
theorem ret_n {a t : Int} (h : a = t) : Ending.returned (.int .i64 a) = .returned (.int .i64 t) := by rw [h]
theorem ret_m {t : Int} (h : t = -1) : Ending.returned (.int .i64 (-1)) = .returned (.int .i64 t) := by rw [h]
set_option maxRecDepth 100000 in
set_option maxHeartbeats 4000000 in
theorem iEx_is (A : Option Addr) (cap : Nat) (xs : List VEntry) {n : Nat} (m : Int) {t : Int} (w : World) (hn : xs.length = n) (h : SRow encEntry w A xs) (hq : ∀ v ∈ xs, v.2.size ≤ maxLen) (hl : n ≤ 2000000) (hr : nxN xs m = t) :
    Calls Try.prog 25 #[.slice A n cap, .int .i64 m] w fun E w' => E = .returned (.int .i64 t) ∧ Below w.heap.size w w' := by
  have HN := Lib.hid hn
  have HQ := Lib.hid hq
  have HR := Lib.hid hr
  clear hn hq hr
  by_cases h0 : n = 0
  · have HF := Lib.hid (HR.out.symm.trans (nxN_nil (by rw [HN.out]; exact h0)))
    subst h0
    have hB1 := Below.refl w.heap.size w
    have hu : undef = Value.tuple #[] := rfl
    go_enter Try.func25, Try.ntmps25
    go_wp2
    go_ret
    exact ⟨ret_m HF.out, hB1⟩
  · have hz : ¬ (n : Int) = 0 := by omega
    have hzb : ((n : Int) == 0) = false := by simpa using hz
    cases he : enB xs
    · have HF := Lib.hid (HR.out.symm.trans (nxN_no1 he))
      have HE := Lib.hid he
      clear he
      have hu : undef = Value.tuple #[] := rfl
      go_enter Try.func25, Try.ntmps25
      go_wp2_with fail
      refine (iEn_is A cap xs _ HN.out h HQ.out hl HE.out).mono ?_; rintro E w1 ⟨rfl, hB1⟩
      go_wp2
      go_ret
      exact ⟨ret_m HF.out, hB1⟩
    · have HE := Lib.hid he
      clear he
      cases hi : inV m 0 1439
      · have HF := Lib.hid (HR.out.symm.trans (nxN_no2 hi))
        have HI := Lib.hid hi
        clear hi
        go_enter Try.func25, Try.ntmps25
        go_wp2_with fail
        refine (iEn_is A cap xs _ HN.out h HQ.out hl HE.out).mono ?_; rintro E w1 ⟨rfl, hB1⟩
        go_wp2_with fail
        refine (iMv_is _ HI.out).mono ?_; rintro E w' ⟨rfl, rfl⟩
        go_wp2
        go_ret
        exact ⟨ret_m HF.out, hB1⟩
      · have HI := Lib.hid hi
        clear hi
        go_enter Try.func25, Try.ntmps25
        go_wp2_with fail
        refine (iEn_is A cap xs _ HN.out h HQ.out hl HE.out).mono ?_; rintro E w1 ⟨rfl, hB1⟩
        go_wp2_with fail
        refine (iMv_is _ HI.out).mono ?_; rintro E w' ⟨rfl, rfl⟩
        have HF : Hid (nxF m 1440 xs = t) := Lib.hid ((nxN_yes (by rw [HN.out]; exact h0) HE.out HI.out).symm.trans HR.out)
        have hmb : 0 ≤ m ∧ m ≤ 1439 := by have := HI.out; unfold inV at this; simpa using this
        obtain ⟨m0, m1⟩ := hmb
        go_wp2_with fail
        go_loopw [5, 23] (fun av iv wr => ∃ (k : Nat) (a : Int), iv = .int .i64 k ∧ k ≤ n ∧ av = .int .i64 a ∧ (-1500 ≤ a ∧ a ≤ 1440) ∧ Hid (nxF m 1440 (xs.take k) = a) ∧ Below w.heap.size w wr) (fun _ iv _ => (n - intOf iv).toNat)
        case atStart => exact ⟨0, 1440, rfl, by omega, rfl, by omega, (by show _ = _; rfl), hB1⟩
        case round =>
          obtain ⟨k, a, rfl, k1, rfl, ⟨a0, a1⟩, HA, hB⟩ := hrel
          by_cases hlt : k < n
          · have hk : k < xs.length := by rw [HN.out]; exact hlt
            have hki : (k : Int) < (n : Int) := by omega
            obtain ⟨x0, x1⟩ := enB_rng HE.out hk
            obtain ⟨b, off, rfl, hb, c0, c1⟩ := rowEntry (h.next hB) hk
            have hs1 := nxF_step hk m 1440
            rw [HA.out] at hs1
            unfold enW at hs1
            generalize xs[k].1 = mt at c0 hs1 x0 x1
            generalize xs[k].2 = tx at c1
            have z1 : IntKind.i64.wrap (mt - m) = mt - m := IntWalk.i64_in _ (by omega)
            have z2 : IntKind.i64.wrap (mt - m - 1) = mt - m - 1 := IntWalk.i64_in _ (by omega)
            have z3 : IntKind.i64.wrap ((mt - m - 1) % 1440 + 1) = (mt - m - 1) % 1440 + 1 := IntWalk.i64_in _ (by omega)
            by_cases hm : (mt - m - 1) % 1440 + 1 < a
            · rw [if_pos hm] at hs1
              have H1 := Lib.hid hs1
              clear hs1
              go_wp2_with fail
              refine (mod_any _ _ (by omega) (by omega)).mono ?_; rintro E w' ⟨rfl, rfl⟩
              go_wp2_with fail
              go_roundw
              case rel => exact ⟨k + 1, ((mt - m - 1) % 1440 + 1), by go_num, by omega, rfl, by omega, H1, hB.alloc hB.size _⟩
              case measure => simp [intOf]; omega
            · rw [if_neg hm] at hs1
              have H1 := Lib.hid hs1
              clear hs1
              have hm2 : a ≤ (mt - m - 1) % 1440 + 1 := by omega
              go_wp2_with fail
              refine (mod_any _ _ (by omega) (by omega)).mono ?_; rintro E w' ⟨rfl, rfl⟩
              go_wp2_with fail
              go_roundw
              case rel => exact ⟨k + 1, a, by go_num, by omega, rfl, by omega, H1, hB.alloc hB.size _⟩
              case measure => simp [intOf]; omega
          · have hki : ¬ (k : Int) < (n : Int) := by omega
            have hx : a = t := by rw [← HF.out, ← HA.out, List.take_of_length_le (by rw [HN.out]; omega)]
            have HX := Lib.hid hx
            clear hx
            go_wp2_with fail
            go_ret
            exact ⟨ret_n HX.out, hB⟩
set_option maxRecDepth 100000 in
set_option maxHeartbeats 4000000 in
theorem sEx_is (A : Option Addr) (cap : Nat) (xs : List VEntry) {n : Nat} (m : Int) {t : Int} (w : World) (hn : xs.length = n) (h : SRow encEntry w A xs) (hq : ∀ v ∈ xs, v.2.size ≤ maxLen) (hl : n ≤ 2000000) (hr : nxN xs m = t) :
    Calls Try.prog 27 #[.slice A n cap, .int .i64 m] w fun E w' => E = .returned (.int .i64 t) ∧ Below w.heap.size w w' := by
  have HN := Lib.hid hn
  have HQ := Lib.hid hq
  have HR := Lib.hid hr
  clear hn hq hr
  cases he : enB xs
  · have HF := Lib.hid (HR.out.symm.trans (nxN_no1 he))
    have HE := Lib.hid he
    clear he
    have hu : undef = Value.tuple #[] := rfl
    go_enter Try.func27, Try.ntmps27
    go_wp2_with fail
    refine (sEn_is A cap xs _ HN.out h HQ.out hl HE.out).mono ?_; rintro E w1 ⟨rfl, hB1⟩
    go_wp2
    go_ret
    exact ⟨ret_m HF.out, hB1⟩
  · have HE := Lib.hid he
    clear he
    cases hi : inV m 0 1439
    · have HF := Lib.hid (HR.out.symm.trans (nxN_no2 hi))
      have HI := Lib.hid hi
      clear hi
      have hu : undef = Value.tuple #[] := rfl
      go_enter Try.func27, Try.ntmps27
      go_wp2_with fail
      refine (sEn_is A cap xs _ HN.out h HQ.out hl HE.out).mono ?_; rintro E w1 ⟨rfl, hB1⟩
      go_wp2_with fail
      refine (sIn7_is _ HI.out).mono ?_; rintro E w' ⟨rfl, rfl⟩
      go_wp2
      go_ret
      exact ⟨ret_m HF.out, hB1⟩
    · have HI := Lib.hid hi
      clear hi
      by_cases h0 : n = 0
      · have HF := Lib.hid (HR.out.symm.trans (nxN_nil (by rw [HN.out]; exact h0)))
        subst h0
        go_enter Try.func27, Try.ntmps27
        go_wp2_with fail
        refine (sEn_is A cap xs _ HN.out h HQ.out hl HE.out).mono ?_; rintro E w1 ⟨rfl, hB1⟩
        go_wp2_with fail
        refine (sIn7_is _ HI.out).mono ?_; rintro E w' ⟨rfl, rfl⟩
        go_wp2
        go_ret
        exact ⟨ret_m HF.out, hB1⟩
      · have hz : ¬ (n : Int) = 0 := by omega
        go_enter Try.func27, Try.ntmps27
        go_wp2_with fail
        refine (sEn_is A cap xs _ HN.out h HQ.out hl HE.out).mono ?_; rintro E w1 ⟨rfl, hB1⟩
        go_wp2_with fail
        refine (sIn7_is _ HI.out).mono ?_; rintro E w' ⟨rfl, rfl⟩
        have HF : Hid (nxF m 1440 xs = t) := Lib.hid ((nxN_yes (by rw [HN.out]; exact h0) HE.out HI.out).symm.trans HR.out)
        have hmb : 0 ≤ m ∧ m ≤ 1439 := by have := HI.out; unfold inV at this; simpa using this
        obtain ⟨m0, m1⟩ := hmb
        go_wp2_with fail
        go_loopw [5] (fun vv wr => ∃ v : Nat, vv = .int .i64 v ∧ 1 ≤ v ∧ v ≤ 1440 ∧ Hid (∀ x ∈ xs, (v : Int) ≤ enW m x) ∧ wr = w1) (fun vv _ => (1440 - intOf vv).toNat)
        case atStart => exact ⟨1, rfl, by omega, by omega, Lib.hid (fun x _ => (enW_bd m x).1), rfl⟩
        case round =>
          obtain ⟨v, rfl, v0, v1, HV, rfl⟩ := hrel
          by_cases hvl : v < 1440
          · have hvi : (v : Int) < 1440 := by omega
            have z1 : IntKind.i64.wrap (m + (v : Int)) = m + (v : Int) := IntWalk.i64_in _ (by omega)
            have z2 : (m + (v : Int)).tmod 1440 = (m + (v : Int)) % 1440 := Int.tmod_eq_emod_of_nonneg (by omega)
            have z3 : IntKind.i64.wrap ((m + (v : Int)) % 1440) = (m + (v : Int)) % 1440 := IntWalk.i64_in _ (by omega)
            go_wp2_with fail
            go_loopw [6] (fun iv wr2 => ∃ k : Nat, iv = .int .i64 k ∧ k ≤ n ∧ Hid (∀ (i : Nat) (h : i < xs.length), i < k → (v : Int) + 1 ≤ enW m xs[i]) ∧ wr2 = wr) (fun iv _ => (n - intOf iv).toNat)
            case atStart => exact ⟨0, rfl, by omega, Lib.hid (fun i _ hi => absurd hi (by omega)), rfl⟩
            case round =>
              obtain ⟨k, rfl, k1, HK, rfl⟩ := hrel
              by_cases hlt : k < n
              · have hk : k < xs.length := by rw [HN.out]; exact hlt
                have hki : (k : Int) < (n : Int) := by omega
                obtain ⟨x0, x1⟩ := enB_rng HE.out hk
                obtain ⟨b, off, rfl, hb, c0, c1⟩ := rowEntry (h.next hB1) hk
                have hlo := HV.out xs[k] (List.getElem_mem hk)
                have hif := enW_iff (v := (v : Int)) x0 x1 m0 m1 (by omega) (by omega)
                by_cases hm : xs[k].1 = (m + (v : Int)) % 1440
                · have HX : Hid ((v : Int) = t) := Lib.hid ((nx_hit (by omega) HV.out hk (hif.1 hm)).symm.trans HF.out)
                  clear hlo hif
                  generalize xs[k].1 = mt at c0 hm
                  generalize xs[k].2 = tx at c1
                  go_wp2_with fail
                  go_ret
                  exact ⟨ret_n HX.out, hB1⟩
                · have hne : (v : Int) + 1 ≤ enW m xs[k] := by have h9 : enW m xs[k] ≠ (v : Int) := fun e => hm (hif.2 e); omega
                  have H1 : Hid (∀ (i : Nat) (h : i < xs.length), i < k + 1 → (v : Int) + 1 ≤ enW m xs[i]) := Lib.hid (fun i hi h9 => by rcases Nat.lt_succ_iff_lt_or_eq.1 h9 with h8 | rfl; exact HK.out i hi h8; exact hne)
                  clear hlo hif hne
                  generalize xs[k].1 = mt at c0 hm
                  generalize xs[k].2 = tx at c1
                  go_wp2_with fail
                  go_roundw
                  case rel => exact ⟨k + 1, by go_num, by omega, H1, trivial⟩
                  case measure => simp [intOf]; omega
              · have hki : ¬ (k : Int) < (n : Int) := by omega
                have H1 : Hid (∀ x ∈ xs, ((v + 1 : Nat) : Int) ≤ enW m x) := Lib.hid (fun x hx => by obtain ⟨i, hi, rfl⟩ := List.mem_iff_getElem.1 hx; have := HK.out i hi (by have := HN.out; omega); omega)
                go_wp2_with fail
                go_roundw
                case rel => exact ⟨v + 1, by go_num, by omega, by omega, H1, trivial⟩
                case measure => simp [intOf]; omega
          · have hvi : ¬ (v : Int) < 1440 := by omega
            have hx : (1440 : Int) = t := by rw [← HF.out]; exact (nx_end fun x hx => by have := HV.out x hx; omega).symm
            have HX := Lib.hid hx
            clear hx
            go_wp2_with fail
            go_ret
            exact ⟨ret_n HX.out, hB1⟩
end Go.Proofs.Ytpmbjdfecbmgoab
