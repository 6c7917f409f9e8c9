/- The plate with a further mark: the marks up to its place, the mark, the rest. slices.Insert at marks, at the end. -/
import Derived.Test.YtidppabconifkabPe
import Derived.Test.YtidppabconifkabPu
namespace Go.Proofs.Ytidppabconifkab
open Go Go.ChangeShapes Go.WideShapes Go.ChangeAt Go.RowKit
set_option linter.unusedSimpArgs false
set_option linter.unusedVariables false

theorem putS_done (m : VMark) : ∀ (xs l : List VMark), xs.foldl (putStep m) (l, true) = (l ++ xs, true)
  | [], l => by simp
  | v :: xs, l => by
    rw [List.foldl_cons]
    have e : putStep m (l, true) v = (l ++ [v], true) := by simp [putStep]
    rw [e, putS_done m xs]; simp
theorem muN_none {a b : Int} {v : VMark} {xs : List VMark} (h : rlB a b v.1 v.2.1 = true) : muN a b (v :: xs) = 0 := by simp [muN, okP, h]
theorem muN_one {a b : Int} {v : VMark} {xs : List VMark} (h : rlB a b v.1 v.2.1 = false) : muN a b (v :: xs) = muN a b xs + 1 := by simp [muN, okP, h]
theorem putS_any (m : VMark) : ∀ (xs l : List VMark), xs.foldl (putStep m) (l, false) = if muN m.1 m.2.1 xs < xs.length then (l ++ xs.take (muN m.1 m.2.1 xs) ++ [m] ++ xs.drop (muN m.1 m.2.1 xs), true) else (l ++ xs, false)
  | [], l => by simp [muN]
  | v :: xs, l => by
    rw [List.foldl_cons]
    cases h : rlB m.1 m.2.1 v.1 v.2.1
    · have e : putStep m (l, false) v = (l ++ [v], false) := by simp [putStep, h]
      rw [e, putS_any m xs, muN_one h]
      by_cases c : muN m.1 m.2.1 xs < xs.length
      · rw [if_pos c, if_pos (by simp; omega)]; simp
      · rw [if_neg c, if_neg (by simp; omega)]; simp
    · have e : putStep m (l, false) v = (l ++ [m] ++ [v], true) := by simp [putStep, h]
      rw [e, putS_done m xs, muN_none h, if_pos (by simp)]; simp
/-- The mark goes to its place. -/
theorem putL_is (m : VMark) (xs : List VMark) : putL m xs = xs.take (muN m.1 m.2.1 xs) ++ [m] ++ xs.drop (muN m.1 m.2.1 xs) := by
  have hl := muN_le m.1 m.2.1 xs
  unfold putL putO
  rw [putS_any]
  by_cases c : muN m.1 m.2.1 xs < xs.length
  · rw [if_pos c]; simp
  · have e : muN m.1 m.2.1 xs = xs.length := by omega
    rw [if_neg c, e]; simp
/-- A row of the call's own may be taken longer, up to its capacity: what lies behind is some list. -/
theorem own_more {w : World} {base size n i g cap : Nat} {T : TypeId} {M : List Value} (h : w.ownsRow base T size (.slice (some ⟨g, 0, none⟩) n cap) n M) (hi : n ≤ i) (hc : i ≤ cap) :
    ∃ R, w.ownsRow base T size (.slice (some ⟨g, 0, none⟩) i cap) i (M ++ R) ∧ R.length = (i - n) * size := by
  obtain ⟨hl, h⟩ := h
  rcases h with ⟨e, _⟩ | ⟨g', cap', cur, e, hb, hg, h1, h2, h3, h4⟩
  · cases e
  · cases e
    have h5 : cur.toList.length = cap * size := by rw [Array.length_toList]; exact h3
    have hni : n * size ≤ i * size := Nat.mul_le_mul_right _ hi
    have hic : i * size ≤ cap * size := Nat.mul_le_mul_right _ hc
    have e1 : cur.toList.take (i * size) = M ++ (cur.toList.take (i * size)).drop (n * size) := by
      have e2 : M = (cur.toList.take (i * size)).take (n * size) := by rw [List.take_take, Nat.min_eq_left hni, h4]
      rw [e2, List.take_append_drop]
    refine ⟨(cur.toList.take (i * size)).drop (n * size), ⟨?_, .inr ⟨g, cap, cur, rfl, hb, hg, hc, h2, h3, e1⟩⟩, ?_⟩
    · rw [← e1, List.length_take, h5]; omega
    · rw [List.length_drop, List.length_take, h5, Nat.sub_mul]; omega
def InsRet (base g : Nat) (ys : List VMark) (w : World) (e : Ending) (w' : World) : Prop :=
  ∃ g' cp' : Nat, e = .returned (.slice (some ⟨g', 0, none⟩) ys.length cp') ∧ SOwn encMark w' base 40 (some ⟨g', 0, none⟩) cp' ys ∧ w.grownBy w' (some g)
set_option maxHeartbeats 2000000 in
theorem insEnd_any (base g cp vb : Nat) (xs : List VMark) (x : VMark) {n : Nat} (w : World) (hn : xs.length = n) (hO : SOwn encMark w base 40 (some ⟨g, 0, none⟩) cp xs)
    (hv : w.heap[vb]? = some (.cells (encMark.enc x).toArray 40)) (hl : n ≤ 2000000) (hb : base ≤ w.heap.size) :
    Calls Try.prog 53 #[.slice (some ⟨g, 0, none⟩) n cp, .int .i64 n, .slice (some ⟨vb, 0, none⟩) 1 1] w (InsRet base g (xs ++ [x]) w) := by
  obtain ⟨i0, hi0, hz0, hz1, hz2⟩ := info_parts infoMark
  have HI := Lib.hid (And.intro hi0 (And.intro hz0 (And.intro hz1 hz2)))
  clear hi0 hz0 hz1 hz2
  obtain ⟨hcap, hcm⟩ := hO.cap
  rw [hn] at hcap
  unfold maxLen at hcm
  have HN := Lib.hid hn
  have hO' := hO
  unfold SOwn at hO'
  rw [hn] at hO'
  have HO := Lib.hid hO'
  clear hn hO hO'
  have n0 : (0 : Int) ≤ (n : Int) := by omega
  go_enter Try.func53, Try.ntmps53
  go_wp2_with (at_builtin; refine wpList_append_lies _ rfl (.tmp 23) (.tmp 24) _ rfl base 40 i0 _ 3 32 Try.underlying37 HI.out.1 HI.out.2.1 HI.out.2.2.1 HI.out.2.2.2 rfl (by omega) (.slice (some ⟨g, 0, none⟩) n cp) n (encMark.flat xs) rfl HO.out ⟨vb, 0, none⟩ 1 1 (encMark.enc x) rfl rfl (World.news_of_block (cs := (encMark.enc x).toArray) hv) (encMark.one _) (by omega) (by simp only [maxLen]; omega) (by omega) hb _ rfl ?_; intro g5 cap5 w5 hown5 hgr5 hat5 hlt5)
  all_goals go_ret
  all_goals
    have e : (xs ++ [x]).length = n + 1 := by simp [HN.out]
    exact ⟨g5, cap5, by rw [e]; rfl, SOwn.of_raw (E := encMark) (ys := xs ++ [x]) hown5 (by rw [encMark.flat_snoc]) e, hgr5⟩
end Go.Proofs.Ytidppabconifkab
