/- The draws of the laws of plans, and what these laws say. -/
import Derived.Test.YtpmbjdfecbmgoabBy
import Derived.Test.YtpmbjdfecbmgoabBg
import Derived.Test.YtpmbjdfecbmgoabBw
namespace Go.Proofs.Ytpmbjdfecbmgoab
open Go Go.ChangeShapes Go.WideShapes Go.ChangeAt Go.RowKit
set_option linter.unusedSimpArgs false
set_option linter.unusedVariables false

def DrewEntries (w : World) (e : Ending) (w' : World) : Prop := ∃ (xs : List VEntry) (A : Option Addr) (cap : Nat), e = .returned (.slice A xs.length cap) ∧ xs.length ≤ 9 ∧ enSm xs ∧ SOwn encEntry w' w.heap.size 40 A cap xs ∧ Below w.heap.size w w'
def DrewPlan (w : World) (e : Ending) (w' : World) : Prop := ∃ (xs : List VEntry) (A : Option Addr) (cap : Nat) (m : Int), e = .returned (.tuple #[.slice A xs.length cap, .int .i64 m]) ∧ xs.length ≤ 9 ∧ enSm xs ∧ (-1500 ≤ m ∧ m ≤ 2879) ∧ SOwn encEntry w' w.heap.size 40 A cap xs ∧ Below w.heap.size w w'
theorem enSm.q {xs : List VEntry} (h : enSm xs) : ∀ v ∈ xs, v.2.size ≤ maxLen := fun v hv => by have := h v hv; unfold maxLen; omega
theorem nx_att (m : Int) : ∀ (xs : List (Int × ByteArray)) (a : Int), (∃ x ∈ xs, enW m x = nxF m a xs) ∨ nxF m a xs = a
  | [], a => Or.inr rfl
  | y :: xs, a => by
    simp only [nxF]
    rcases nx_att m xs (if enW m y < a then enW m y else a) with ⟨x, hx, e⟩ | e
    · exact Or.inl ⟨x, List.mem_cons_of_mem _ hx, e⟩
    · by_cases h : enW m y < a
      · rw [if_pos h] at e ⊢; exact Or.inl ⟨y, List.mem_cons_self .., e.symm⟩
      · rw [if_neg h] at e ⊢; exact Or.inr e
theorem nx_some {m : Int} {xs : List (Int × ByteArray)} (h : xs.length ≠ 0) : ∃ x ∈ xs, enW m x = nxF m 1440 xs := by
  rcases nx_att m xs 1440 with h9 | h9
  · exact h9
  · cases xs with
    | nil => simp at h
    | cons y ys =>
      have h1 := (nxF_le m (y :: ys) 1440).2 y (List.mem_cons_self ..)
      have h2 := (enW_bd m y).2
      exact ⟨y, List.mem_cons_self .., by omega⟩
theorem nx_bd (m : Int) (xs : List (Int × ByteArray)) : 1 ≤ nxF m 1440 xs ∧ nxF m 1440 xs ≤ 1440 := ⟨nxF_ge m 1 xs 1440 (by omega) fun x _ => (enW_bd m x).1, (nxF_le m xs 1440).1⟩
theorem enW_next {m : Int} {x : Int × ByteArray} (h : 2 ≤ enW m x) : enW ((m + 1) % 1440) x = enW m x - 1 := by unfold enW at *; omega
theorem nx_next {m v : Int} {xs : List (Int × ByteArray)} (hl : xs.length ≠ 0) (hv : nxF m 1440 xs = v) (h1 : v ≠ 1) : nxF ((m + 1) % 1440) 1440 xs = v - 1 := by
  have hb := nx_bd m xs
  have hle := (nxF_le m xs 1440).2
  obtain ⟨x, hx, e⟩ := nx_some (m := m) hl
  obtain ⟨k, hk, rfl⟩ := List.mem_iff_getElem.1 hx
  refine nx_hit (by omega) (fun y hy => ?_) hk ?_
  · have := hle y hy; rw [enW_next (by omega)]; omega
  · rw [enW_next (by omega)]; omega
theorem nxN_ok {xs : List (Int × ByteArray)} {m : Int} (h : (enB xs && inV m 0 1439 && !xs.isEmpty) = true) : nxN xs m = nxF m 1440 xs := by unfold nxN; rw [if_pos h]
theorem nxN_no {xs : List (Int × ByteArray)} {m : Int} (h : (enB xs && inV m 0 1439 && !xs.isEmpty) = false) : nxN xs m = -1 := by unfold nxN; rw [h]; rfl
theorem any_step {α : Type} {p : α → Bool} {xs : List α} {k : Nat} (hk : k < xs.length) : (xs.take (k + 1)).any p = ((xs.take k).any p || p xs[k]) := by
  rw [List.take_succ_eq_append_getElem hk, List.any_append]; simp
set_option maxHeartbeats 4000000 in
theorem drEntriesValid_any (a : Option Addr) (len cap : Nat) (w : World) (h : CodeOk w a len cap) : Calls Try.prog 19 #[.slice a len cap] w (DrewEntries w) := by
  go_enter Try.func19, Try.ntmps19
  go_wp2_with fail
  refine (open_any _ _ _ _ h).mono ?_; rintro e w1 ⟨B, rfl, hB, h1, hb1⟩
  go_wp2_with fail
  refine (entries_any B 0 2 _ h1 (by omega) (by omega) (by omega)).mono ?_; rintro e w2 ⟨xs, A, cp, rfl, hx6, hs, hO, _, hx⟩
  have hB2 := hb1.trans (hx.below (N := w.heap.size) (by omega) hb1.size)
  have hO2 := hO.mono hb1.size
  go_wp2_with fail
  go_ret
  exact ⟨xs, A, cp, rfl, hx6, hs, hO2, hB2⟩
set_option maxHeartbeats 4000000 in
theorem drEntryAt_any (a : Option Addr) (len cap : Nat) (w : World) (h : CodeOk w a len cap) : Calls Try.prog 22 #[.slice a len cap] w (DrewPlan w) := by
  go_enter Try.func22, Try.ntmps22
  go_wp2_with fail
  refine (open_any _ _ _ _ h).mono ?_; rintro e w1 ⟨B, rfl, hB, h1, hb1⟩
  go_wp2_with fail
  refine (entries_any B 0 9 _ h1 (by omega) (by omega) (by omega)).mono ?_; rintro e w2 ⟨xs, A, cp, rfl, hx6, hs, hO, h2, hx⟩
  obtain ⟨n, hn⟩ : ∃ n, xs.length = n := ⟨_, rfl⟩
  rw [hn] at hx6 ⊢
  have HN := Lib.hid hn
  clear hn
  go_wp2_with fail
  refine (minute_any B _ _ h2 (by omega)).mono ?_; rintro e w3 ⟨v, rfl, v0, v1, h3, hx3⟩
  have hO3 := (hO.extK hx3 h1.lt).mono hb1.size
  have hX := hx.trans hx3
  have hB2 := hb1.trans (hX.below (N := w.heap.size) (by omega) hb1.size)
  go_wp2_with fail
  go_ret2
  exact ⟨xs, A, cp, v, (by rw [HN.out]; rfl), (by rw [HN.out]; exact hx6), hs, ⟨v0, v1⟩, hO3, hB2⟩
set_option maxHeartbeats 4000000 in
theorem drEntryNext_any (a : Option Addr) (len cap : Nat) (w : World) (h : CodeOk w a len cap) : Calls Try.prog 26 #[.slice a len cap] w (DrewPlan w) := by
  go_enter Try.func26, Try.ntmps26
  go_wp2_with fail
  refine (drEntryAt_any _ _ _ _ h).mono ?_; rintro e w1 ⟨xs, A, cp, v, rfl, hx6, hs, hv, hO, hB⟩
  obtain ⟨n, hn⟩ : ∃ n, xs.length = n := ⟨_, rfl⟩
  rw [hn] at hx6 ⊢
  have HN := Lib.hid hn
  clear hn
  go_wp2_with fail
  go_ret2
  exact ⟨xs, A, cp, v, (by rw [HN.out]; rfl), (by rw [HN.out]; exact hx6), hs, hv, hO, hB⟩
end Go.Proofs.Ytpmbjdfecbmgoab
