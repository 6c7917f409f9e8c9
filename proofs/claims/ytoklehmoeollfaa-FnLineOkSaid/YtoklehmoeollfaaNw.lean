/- Lines that are drawn. -/
import Derived.Laws.AppendOwn
import Derived.Test.YtoklehmoeollfaaNh
import Derived.Test.YtoklehmoeollfaaQg
import Derived.Test.YtoklehmoeollfaaBi
namespace Go.Proofs.Ytoklehmoeollfaa
open Go Go.ChangeShapes Go.WideShapes Go.ChangeAt Go.RowKit
set_option linter.unusedSimpArgs false
set_option linter.unusedVariables false

/-- The first places of a row of the call's own. -/
theorem SOwn.pre {α : Type} {E : Enc α} {w : World} {base g cap : Nat} {T : TypeId} {xs : List α} (h : SOwn E w base T (some ⟨g, 0, none⟩) cap xs) (k : Nat) (hk : k ≤ xs.length) : w.ownsRow base T E.k (.slice (some ⟨g, 0, none⟩) k cap) k (E.flat (xs.take k)) := by
  have hc := h.cap
  rcases h.2 with ⟨e, _⟩ | ⟨g2, cap2, cur, e, hb, hg, h1, h2, h3, h4⟩
  · simp at e
  · simp only [Value.slice.injEq, Option.some.injEq, Addr.mk.injEq] at e
    obtain ⟨⟨rfl, _⟩, _, rfl⟩ := e
    refine ⟨by rw [E.flat_len, List.length_take]; congr 1; omega, .inr ⟨g, cap, cur, rfl, hb, hg, by omega, hc.2, h3, ?_⟩⟩
    have hf : E.flat xs = E.flat (xs.take k) ++ E.flat (xs.drop k) := by rw [E.flat_app, List.take_append_drop]
    have hl : (E.flat (xs.take k)).length = k * E.k := by rw [E.flat_len, List.length_take, Nat.min_eq_left hk]
    have hle : k * E.k ≤ xs.length * E.k := Nat.mul_le_mul_right _ hk
    have e1 : (cur.toList.take (xs.length * E.k)).take (k * E.k) = cur.toList.take (k * E.k) := by rw [List.take_take, Nat.min_eq_left hle]
    rw [← e1, h4, hf, List.take_append_of_le_length (by omega), List.take_of_length_le (by omega)]
theorem own_conv {w : World} {base size n : Nat} {T : TypeId} {v : Value} {xs : List Value} (h : w.ownsRow base T size v n xs) (hv : v ≠ .slice none 0 0) : ∃ g cp : Nat, v = .slice (some ⟨g, 0, none⟩) n cp := by
  rcases h.2 with ⟨e, _⟩ | ⟨g, cap9, cur, e, _⟩
  · exact absurd e hv
  · exact ⟨g, cap9, e⟩
theorem own_ge {α : Type} {E : Enc α} {w : World} {base g cap : Nat} {T : TypeId} {xs : List α} (h : SOwn E w base T (some ⟨g, 0, none⟩) cap xs) : base ≤ g := by
  rcases h.form with ⟨e, _⟩ | ⟨g1, e, h9, _⟩
  · cases e
  · cases e; exact h9
theorem own_lt {α : Type} {E : Enc α} {w : World} {base g cap : Nat} {T : TypeId} {xs : List α} (h : SOwn E w base T (some ⟨g, 0, none⟩) cap xs) : base < w.heap.size := by
  rcases h.form with ⟨e, _⟩ | ⟨g1, e, h9, h8⟩
  · cases e
  · omega
theorem take_snoc_len {ys : List Int} {t : Nat} {v : Int} (h : t ≤ ys.length) : (ys.take t ++ [v]).length = t + 1 := by rw [List.length_append, List.length_take]; simp; omega
theorem SOwn.raw {α : Type} {E : Enc α} {w : World} {base cap n : Nat} {T : TypeId} {A : Option Addr} {xs : List α} (h : SOwn E w base T A cap xs) (hn : xs.length = n) : w.ownsRow base T E.k (.slice A n cap) n (E.flat xs) := by unfold SOwn at h; rw [hn] at h; exact h
def DrewLine (w : World) (e : Ending) (w' : World) : Prop := ∃ (A C : Option Addr) (ca cc : Nat) (xs us : List Int), e = .returned (.tuple #[.slice A xs.length ca, .slice C us.length cc]) ∧ xs.length ≤ 7 ∧ us.length ≤ 8 ∧ SOwn encNum w' w.heap.size 3 A ca xs ∧ SOwn encNum w' w.heap.size 3 C cc us ∧ us.length ≤ cc ∧ Below w.heap.size w w'
theorem ret_two9 {A C : Option Addr} {n n' m m' a c : Nat} (h : n = n') (k : m = m') : Ending.returned (.tuple #[.slice A n a, .slice C m c]) = .returned (.tuple #[.slice A n' a, .slice C m' c]) := by rw [h, k]
theorem dropAt {w : World} {gv cv t q : Nat} {ys : List Int} {ad : Addr} (h : SRow encNum w (some ⟨gv, 0, none⟩) ys) (ht : t ≤ q) (hy : ys.length = q) (had : (if cv = t then (⟨gv, 0, none⟩ : Addr) else ⟨gv, t, none⟩) = ad) (hc : q ≤ cv := by omega) : SRow encNum w (some ad) (ys.drop t) := by
  by_cases e : cv = t
  · have : ys.drop t = [] := List.drop_eq_nil_of_le (by omega)
    rw [this]; exact SRow.nil w _
  · rw [if_neg e] at had
    subst had
    exact h.dropN t
set_option maxRecDepth 100000 in
set_option maxHeartbeats 8000000 in
theorem drLineOk_any (a : Option Addr) (len cap : Nat) (w : World) (h : CodeOk w a len cap) : Calls Try.prog 25 #[.slice a len cap] w (DrewLine w) := by
  obtain ⟨i0, hi0, hz0, hz1, hz2⟩ := info_parts infoNum
  have HI := Lib.hid (And.intro hi0 (And.intro hz0 (And.intro hz1 hz2)))
  clear hi0 hz0 hz1 hz2
  go_enter Try.func25, Try.ntmps25
  go_wp2_with fail
  refine (open_any _ _ _ _ h).mono ?_; rintro e w1 ⟨B, rfl, hB, h1, hb1⟩
  go_wp2_with fail
  refine (friends_any B 0 12 _ h1 (by omega) (by omega) (by omega)).mono ?_; rintro e w2 ⟨xs, A, cp, rfl, hx7, hO, h2, hx2⟩
  have hBw := h1.lt
  have hzw := hb1.size
  obtain ⟨m, hm⟩ : ∃ m, xs.length = m := ⟨_, rfl⟩
  rw [hm] at hx7 ⊢
  have HM := Lib.hid hm
  clear hm
  obtain ⟨l, hl⟩ : ∃ l, lfL xs = l := ⟨_, rfl⟩
  obtain ⟨ok, hok⟩ : ∃ b, lfB xs = b := ⟨_, rfl⟩
  have hlen : l.length ≤ m := by rw [← hl, ← HM.out]; exact lfL_le xs
  have HL := Lib.hid hl
  have HOK := Lib.hid hok
  clear hl hok
  obtain ⟨q9, hq9⟩ : ∃ q, l.length = q := ⟨_, rfl⟩
  rw [hq9] at hlen
  have HQ9 := Lib.hid hq9
  clear hq9
  go_wp2_with fail
  refine (sLf9_is A cp xs _ HM.out hO.row (by omega) HL.out HOK.out).mono ?_; rintro e w3 ⟨V9, c9, rfl, hV, hw3⟩
  rw [HQ9.out]
  have h3 := h2.next hw3
  have hX3 := hx2.of_below hw3
  have hO3 := hO.next hw3
  have hz3 := hX3.size
  have hV9x := hV
  have hV := hV.mono hx2.size
  have hz12 := hx2.size
  have hcv := hV.cap.1
  rw [HQ9.out] at hcv
  have hAlt : ∀ g, A = some ⟨g, 0, none⟩ → g < w2.heap.size := fun g hg => by rcases hO.form with ⟨e, _⟩ | ⟨g1, e, _, h9⟩; rw [e] at hg; cases hg; rw [e] at hg; cases hg; exact h9
  have HAL := Lib.hid hAlt
  clear hAlt hO
  have hz23 := hw3.size
  cases ok
  · have hzW := hX3.size
    go_wp2_with fail
    go_loopw [6, 8] (fun ov kv wr => ∃ (k q gv cv : Nat) (ys : List Int), k ≤ m ∧ q = k ∧ kv = .int .i64 k ∧ ov = .slice (some ⟨gv, 0, none⟩) q cv ∧ Hid (ys.length = q) ∧ SOwn encNum wr w2.heap.size 3 (some ⟨gv, 0, none⟩) cv ys ∧ SOwn encNum wr w1.heap.size 3 A cp xs ∧ RdU B (101 + k) wr ∧ Ext B w1 wr) (fun _ kv _ => (m - intOf kv).toNat)
    case atStart => exact ⟨0, 0, _, 0, [], by omega, rfl, rfl, rfl, (by show _ = _; rfl), SOwn.empty (blk_new w3 _) (by omega), hO3.alloc _, (h3.alloc _).mono (by omega), hX3.alloc _⟩
    case round =>
      obtain ⟨k, q, gv, cv, ys, k1, qk, rfl, rfl, HY, hO, hF, hR, hX⟩ := hrel
      have QK := Lib.hid qk
      have hq7 : q ≤ 7 := by omega
      by_cases hlt : k < m
      · have hki : (k : Int) < (m : Int) := by omega
        go_wp2_with fail
        refine (pick_any B _ _ _ hR (by omega) (by omega) (by omega)).mono ?_; rintro e w5 ⟨av, rfl, a0, a1, h5, hx5⟩
        have hX5 := hX.trans hx5
        have hO5 := hO.extK hx5 (by omega)
        have hF5 := hF.extK hx5 hBw
        have hz5 := hX5.size
        obtain ⟨t, rfl⟩ : ∃ t : Nat, av = t := ⟨av.toNat, by omega⟩
        have htq : t ≤ q := by omega
        clear qk
        have hcap := hO5.cap
        rw [HY.out] at hcap
        obtain ⟨hc1, hc2⟩ := hcap
        have hti : (t : Int) ≤ (q : Int) := by omega
        have htc : (t : Int) ≤ (cv : Int) := by omega
        have htn : t ≤ cv := by omega
        have HYD : Hid ((ys.drop t).length = q - t) := Lib.hid (by rw [List.length_drop, HY.out])
        have hgv : gv < w5.heap.size := by rcases hO5.form with ⟨e, _⟩ | ⟨g1, e, _, h9⟩; cases e; cases e; exact h9
        have hgw : w2.heap.size ≤ gv := by rcases hO5.form with ⟨e, _⟩ | ⟨g1, e, h9, _⟩; cases e; cases e; exact h9
        have hOA := hO5.alloc (.cells #[] 3)
        have hFA := hF5.alloc (.cells #[] 3)
        have hRA := h5.alloc (.cells #[] 3)
        have hXA := hX5.alloc (.cells #[] 3)
        have hEE := SOwn.empty (E := encNum) (base := w5.heap.size) (blk_new w5 (.cells #[] 3)) (Nat.le_refl _)
        obtain ⟨ad, had⟩ : ∃ ad : Addr, (if cv = t then (⟨gv, 0, none⟩ : Addr) else ⟨gv, t, none⟩) = ad := ⟨_, rfl⟩
        have hsrc : ∀ j u, (encNum.flat (ys.drop t))[j]? = some u → (w5.alloc (.cells #[] 3)).cell? (ad.add j) = some u := SRow.newsK (dropAt hOA.row (by omega) HY.out had)
        by_cases hct : cv = t
        · rw [if_pos hct] at had
          subst had
          obtain rfl : t = cv := hct.symm
          obtain rfl : t = q := by omega
          have HYD0 : Hid ((ys.drop t).length = 0) := Lib.hid (by rw [HYD.out]; omega)
          go_wp2_with (first | ((at_builtin); (have _ := hO7r); (refine wpList_append_own _ rfl (.tmp 48) (.tmp 49) _ rfl w2.heap.size 3 i0 _ 1 8 Try.underlying29 HI.out.1 HI.out.2.1 HI.out.2.2.1 HI.out.2.2.2 rfl (by omega) (.slice (some ⟨g7, 0, none⟩) (t + 1) cap7) (t + 1) (encNum.flat (ys.take t ++ [(k : Int)])) rfl hO7r ⟨gx, 0, none⟩ 0 cx (encNum.flat (ys.drop t)) rfl (by rw [encNum.flat_len]; rw [HYD0.out]; rfl) hsrc7 (encNum.flat_one _) (by simp only [maxLen]; omega) (by omega) (by omega) ?_); (intro v9 w8 hown9 hgr9 hnil9)) | ((at_builtin); (have _ := hP); (refine wpList_append_lies _ rfl (.tmp 45) (.tmp 47) _ rfl w2.heap.size 3 i0 _ 1 8 Try.underlying29 HI.out.1 HI.out.2.1 HI.out.2.2.1 HI.out.2.2.2 rfl (by omega) (.slice (some ⟨gv, 0, none⟩) t t) t (encNum.flat (ys.take t)) rfl hP ⟨w6.heap.size, 0, none⟩ 1 1 (encNum.enc (k : Int)) rfl rfl (new_enc (E := encNum) w6 (k : Int) _) (encNum.one _) (by omega) (by simp only [maxLen]; omega) (by omega) (by simp; omega) _ rfl ?_); (intro g7 cap7 w7 hown7 hgr7 hat7 hlt7); (have HYT : Hid ((ys.take t ++ [(k : Int)]).length = t + 1) := Lib.hid (take_snoc_len (by rw [HY.out]; exact htq))); (have hO7 : SOwn encNum w7 w2.heap.size 3 (some ⟨g7, 0, none⟩) cap7 (ys.take t ++ [(k : Int)]) := SOwn.of_raw hown7 (encNum.flat_snoc _ _) HYT.out); (have hRest7 := hRa.grown_far hgr7 (fun g hg e => by cases hg; simp [Value.ownBlock] at e; omega)); (have hF7 := hFa.grown_far hgr7 (fun g hg e => by have h8 := HAL.out g hg; simp [Value.ownBlock] at e; omega)); (have hR7 := (hR6.alloc (.cells (encNum.enc (k : Int)).toArray 3)).farK hgr7 (fun j hj => by simp [Value.ownBlock] at hj; omega)); (have hX7 := (hX6.alloc (.cells (encNum.enc (k : Int)).toArray 3)).far_grownK hgr7 (fun j hj => by simp [Value.ownBlock] at hj; omega)); (have hz7 := hX7.size); (have hsrc7 := SRow.newsK hRest7.row); (have hz67 := hgr7.size); (simp at hz67); (have hO7r : w7.ownsRow w2.heap.size 3 encNum.k (.slice (some ⟨g7, 0, none⟩) (t + 1) cap7) (t + 1) (encNum.flat (ys.take t ++ [(k : Int)])) := hO7.raw HYT.out)) | ((at_builtin); (refine wpList_append_own _ rfl (.tmp 38) (.tmp 41) _ rfl w5.heap.size 3 i0 _ 1 8 Try.underlying29 HI.out.1 HI.out.2.1 HI.out.2.2.1 HI.out.2.2.2 rfl (by omega) (.slice (some ⟨w5.heap.size, 0, none⟩) 0 0) 0 ([]) rfl hEE ⟨gv, 0, none⟩ 0 0 (encNum.flat (ys.drop t)) rfl (by rw [encNum.flat_len]; rw [HYD0.out]; rfl) hsrc (encNum.flat_one _) (by simp only [maxLen]; omega) (by omega) (by simp) ?_); (intro v9 w6 hown9 hgr9 hnil9); (have hn9 : 0 + 0 = 0 := by omega); (rw [hn9] at hown9); (have hv9 : v9 ≠ .slice none 0 0 := (fun e => absurd (hnil9.1 e).1 (by simp))); (obtain ⟨gx, cx, rfl⟩ := own_conv hown9 hv9); (clear hnil9 hv9 hsrc); (have hRest : SOwn encNum w6 w5.heap.size 3 (some ⟨gx, 0, none⟩) cx (ys.drop t) := SOwn.of_raw hown9 (by simp) HYD0.out); (have hge : ∀ j, Value.ownBlock (.slice (some ⟨w5.heap.size, 0, none⟩) 0 0) = some j → w5.heap.size ≤ j := (fun j hj => SOwn.ge_baseK hEE j hj)); (have hO6 := hOA.grown_far hgr9 (fun g hg e => by have := hge g e; cases hg; omega)); (have hF6 := hFA.grown_far hgr9 (fun g hg e => by have := hge g e; have := HAL.out g hg; omega)); (have hR6 := hRA.farK hgr9 (fun j hj => by have := hge j hj; omega)); (have hX6 := hXA.far_grownK hgr9 (fun j hj => by have := hge j hj; omega)); (have hz6 := hX6.size); (have hgx := own_ge hRest); (have hz56 := hgr9.size); (simp at hz56); (clear hown9 hgr9 hge hEE hn9); (have hP := (hO6.alloc (.cells (encNum.enc (k : Int)).toArray 3)).pre t (by rw [HY.out]; exact htq)); (have hQa := hO6.alloc (.cells (encNum.enc (k : Int)).toArray 3)); (have hRa := hRest.alloc (.cells (encNum.enc (k : Int)).toArray 3)); (have hFa := hF6.alloc (.cells (encNum.enc (k : Int)).toArray 3))))
          have hn9 : t + 1 + 0 = t + 1 := by omega
          rw [hn9] at hown9
          have hv9 : v9 ≠ .slice none 0 0 := fun e => by have := (hnil9.1 e).1; simp at this
          obtain ⟨gx_1, cx_1, rfl⟩ := own_conv hown9 hv9
          clear hnil9 hv9
          have HYN : Hid (((ys.take t ++ [(k : Int)]) ++ ys.drop t).length = t + 1) := Lib.hid (by rw [List.length_append, HYT.out, HYD0.out] <;> omega)
          have hO8 : SOwn encNum w8 w2.heap.size 3 (some ⟨gx_1, 0, none⟩) cx_1 ((ys.take t ++ [(k : Int)]) ++ ys.drop t) := SOwn.of_raw hown9 (encNum.flat_app _ _) HYN.out
          have hge9 : ∀ j, Value.ownBlock (.slice (some ⟨g7, 0, none⟩) (t + 1) cap7) = some j → w2.heap.size ≤ j := fun j hj => SOwn.ge_baseK hO7 j hj
          have hF8 := hF7.grown_far hgr9 (fun g hg e => by have h8 := HAL.out g hg; have := hge9 g e; omega)
          have hR8 := hR7.farK hgr9 (fun j hj => by have := hge9 j hj; omega)
          have hX8 := hX7.far_grownK hgr9 (fun j hj => by have := hge9 j hj; omega)
          go_wp2_with fail
          go_roundw
          case rel => exact ⟨k + 1, t + 1, gx_1, cx_1, _, by omega, by rw [QK.out], by go_num, rfl, HYN, hO8, hF8, hR8.mono (by push_cast; omega), hX8⟩
          case measure => simp [intOf]; omega
        · rw [if_neg hct] at had
          subst had
          have hcc : ¬ cv = t := hct
          go_wp2_with (first | ((at_builtin); (have _ := hO7r); (refine wpList_append_own _ rfl (.tmp 48) (.tmp 49) _ rfl w2.heap.size 3 i0 _ 1 8 Try.underlying29 HI.out.1 HI.out.2.1 HI.out.2.2.1 HI.out.2.2.2 rfl (by omega) (.slice (some ⟨g7, 0, none⟩) (t + 1) cap7) (t + 1) (encNum.flat (ys.take t ++ [(k : Int)])) rfl hO7r ⟨gx, 0, none⟩ (q - t) cx (encNum.flat (ys.drop t)) rfl (by rw [encNum.flat_len]; rw [HYD.out]; rfl) hsrc7 (encNum.flat_one _) (by simp only [maxLen]; omega) (by omega) (by omega) ?_); (intro v9 w8 hown9 hgr9 hnil9)) | ((at_builtin); (have _ := hP); (refine wpList_append_lies _ rfl (.tmp 45) (.tmp 47) _ rfl w2.heap.size 3 i0 _ 1 8 Try.underlying29 HI.out.1 HI.out.2.1 HI.out.2.2.1 HI.out.2.2.2 rfl (by omega) (.slice (some ⟨gv, 0, none⟩) t cv) t (encNum.flat (ys.take t)) rfl hP ⟨w6.heap.size, 0, none⟩ 1 1 (encNum.enc (k : Int)) rfl rfl (new_enc (E := encNum) w6 (k : Int) _) (encNum.one _) (by omega) (by simp only [maxLen]; omega) (by omega) (by simp; omega) _ rfl ?_); (intro g7 cap7 w7 hown7 hgr7 hat7 hlt7); (have HYT : Hid ((ys.take t ++ [(k : Int)]).length = t + 1) := Lib.hid (take_snoc_len (by rw [HY.out]; exact htq))); (have hO7 : SOwn encNum w7 w2.heap.size 3 (some ⟨g7, 0, none⟩) cap7 (ys.take t ++ [(k : Int)]) := SOwn.of_raw hown7 (encNum.flat_snoc _ _) HYT.out); (have hRest7 := hRa.grown_far hgr7 (fun g hg e => by cases hg; simp [Value.ownBlock] at e; omega)); (have hF7 := hFa.grown_far hgr7 (fun g hg e => by have h8 := HAL.out g hg; simp [Value.ownBlock] at e; omega)); (have hR7 := (hR6.alloc (.cells (encNum.enc (k : Int)).toArray 3)).farK hgr7 (fun j hj => by simp [Value.ownBlock] at hj; omega)); (have hX7 := (hX6.alloc (.cells (encNum.enc (k : Int)).toArray 3)).far_grownK hgr7 (fun j hj => by simp [Value.ownBlock] at hj; omega)); (have hz7 := hX7.size); (have hsrc7 := SRow.newsK hRest7.row); (have hz67 := hgr7.size); (simp at hz67); (have hO7r : w7.ownsRow w2.heap.size 3 encNum.k (.slice (some ⟨g7, 0, none⟩) (t + 1) cap7) (t + 1) (encNum.flat (ys.take t ++ [(k : Int)])) := hO7.raw HYT.out)) | ((at_builtin); (refine wpList_append_own _ rfl (.tmp 38) (.tmp 41) _ rfl w5.heap.size 3 i0 _ 1 8 Try.underlying29 HI.out.1 HI.out.2.1 HI.out.2.2.1 HI.out.2.2.2 rfl (by omega) (.slice (some ⟨w5.heap.size, 0, none⟩) 0 0) 0 ([]) rfl hEE ⟨gv, t, none⟩ (q - t) (cv - t) (encNum.flat (ys.drop t)) rfl (by rw [encNum.flat_len]; rw [HYD.out]; rfl) hsrc (encNum.flat_one _) (by simp only [maxLen]; omega) (by omega) (by simp) ?_); (intro v9 w6 hown9 hgr9 hnil9); (have hn9 : 0 + (q - t) = q - t := by omega); (rw [hn9] at hown9); (have hv9 : v9 ≠ .slice none 0 0 := (fun e => absurd (hnil9.1 e).1 (by simp))); (obtain ⟨gx, cx, rfl⟩ := own_conv hown9 hv9); (clear hnil9 hv9 hsrc); (have hRest : SOwn encNum w6 w5.heap.size 3 (some ⟨gx, 0, none⟩) cx (ys.drop t) := SOwn.of_raw hown9 (by simp) HYD.out); (have hge : ∀ j, Value.ownBlock (.slice (some ⟨w5.heap.size, 0, none⟩) 0 0) = some j → w5.heap.size ≤ j := (fun j hj => SOwn.ge_baseK hEE j hj)); (have hO6 := hOA.grown_far hgr9 (fun g hg e => by have := hge g e; cases hg; omega)); (have hF6 := hFA.grown_far hgr9 (fun g hg e => by have := hge g e; have := HAL.out g hg; omega)); (have hR6 := hRA.farK hgr9 (fun j hj => by have := hge j hj; omega)); (have hX6 := hXA.far_grownK hgr9 (fun j hj => by have := hge j hj; omega)); (have hz6 := hX6.size); (have hgx := own_ge hRest); (have hz56 := hgr9.size); (simp at hz56); (clear hown9 hgr9 hge hEE hn9); (have hP := (hO6.alloc (.cells (encNum.enc (k : Int)).toArray 3)).pre t (by rw [HY.out]; exact htq)); (have hQa := hO6.alloc (.cells (encNum.enc (k : Int)).toArray 3)); (have hRa := hRest.alloc (.cells (encNum.enc (k : Int)).toArray 3)); (have hFa := hF6.alloc (.cells (encNum.enc (k : Int)).toArray 3))))
          have hn9 : t + 1 + (q - t) = q + 1 := by omega
          rw [hn9] at hown9
          have hv9 : v9 ≠ .slice none 0 0 := fun e => by have := (hnil9.1 e).1; simp at this
          obtain ⟨gx_1, cx_1, rfl⟩ := own_conv hown9 hv9
          clear hnil9 hv9
          have HYN : Hid (((ys.take t ++ [(k : Int)]) ++ ys.drop t).length = q + 1) := Lib.hid (by rw [List.length_append, HYT.out, HYD.out] <;> omega)
          have hO8 : SOwn encNum w8 w2.heap.size 3 (some ⟨gx_1, 0, none⟩) cx_1 ((ys.take t ++ [(k : Int)]) ++ ys.drop t) := SOwn.of_raw hown9 (encNum.flat_app _ _) HYN.out
          have hge9 : ∀ j, Value.ownBlock (.slice (some ⟨g7, 0, none⟩) (t + 1) cap7) = some j → w2.heap.size ≤ j := fun j hj => SOwn.ge_baseK hO7 j hj
          have hF8 := hF7.grown_far hgr9 (fun g hg e => by have h8 := HAL.out g hg; have := hge9 g e; omega)
          have hR8 := hR7.farK hgr9 (fun j hj => by have := hge9 j hj; omega)
          have hX8 := hX7.far_grownK hgr9 (fun j hj => by have := hge9 j hj; omega)
          go_wp2_with fail
          go_roundw
          case rel => exact ⟨k + 1, q + 1, gx_1, cx_1, _, by omega, by rw [QK.out], by go_num, rfl, HYN, hO8, hF8, hR8.mono (by push_cast; omega), hX8⟩
          case measure => simp [intOf]; omega
      · have hki : ¬ (k : Int) < (m : Int) := by omega
        have hzX := hX.size
        have HAV : Hid (∀ g, A = some ⟨g, 0, none⟩ → Value.ownBlock (.slice (some ⟨gv, 0, none⟩) q cv) ≠ some g) := Lib.hid (fun g hg e => by have h8 := SOwn.ge_baseK hO g e; have := HAL.out g hg; omega)
        have hOm := hO.mono (show w1.heap.size ≤ w2.heap.size by exact hx2.size)
        clear qk
        go_wp2_with fail
        refine (odd_any B _ 14 _ hR (by omega) (by omega) (by omega)).mono ?_; rintro e wo ⟨bb, rfl, ho, hxo⟩
        have hXo := hX.trans hxo
        have hVo := hOm.extK hxo hBw
        have hFo := hF.extK hxo hBw
        have hzo := hXo.size
        have hBo := hb1.trans (hXo.below (N := w.heap.size) (by omega) hb1.size)
        cases bb
        · go_wp2_with fail
          go_ret2
          exact ⟨A, (some ⟨gv, 0, none⟩), cp, cv, xs, ys, ret_two9 HM.out.symm HY.out.symm, by rw [HM.out]; omega, by rw [HY.out]; omega, hFo.mono hb1.size, hVo.mono hb1.size, hVo.cap.1, hBo⟩
        · have hOa := hVo.alloc (.cells (encNum.enc (0 : Int)).toArray 3)
          have hcp := hBo.size
          go_wp2_with (at_builtin; refine wpList_append_lies _ rfl (.tmp 53) (.tmp 54) _ rfl w1.heap.size 3 i0 _ 1 8 Try.underlying29 HI.out.1 HI.out.2.1 HI.out.2.2.1 HI.out.2.2.2 rfl (by omega) (.slice (some ⟨gv, 0, none⟩) q cv) q (encNum.flat ys) rfl (by unfold SOwn at hOa; rw [HY.out] at hOa; exact hOa) ⟨wo.heap.size, 0, none⟩ 1 1 (encNum.enc (0 : Int)) rfl rfl (new_enc (E := encNum) wo (0 : Int) _) (encNum.one _) (by omega) (by simp only [maxLen]; omega) (by omega) (by simp; omega) _ rfl ?_; intro g5 cap5 w5 hown5 hgr5 hat5 hlt5)
          have hge5 : ∀ j, Value.ownBlock (.slice (some ⟨gv, 0, none⟩) q cv) = some j → w1.heap.size ≤ j := fun j hj => SOwn.ge_baseK hOa j hj
          have hB5 := (hBo.alloc hBo.size (.cells (encNum.enc (0 : Int)).toArray 3)).grown hgr5 (by simp; omega) (fun j hj => by have := hge5 j hj; omega)
          have hsn := SOwn.snoc (E := encNum) (xs := ys) (x := (0 : Int)) (by rw [HY.out]; exact hown5)
          have hF5 := (hFo.alloc (.cells (encNum.enc (0 : Int)).toArray 3)).grown_far hgr5 (fun g hg e => HAV.out g hg e)
          go_wp2_with fail
          go_ret2
          exact ⟨A, some ⟨g5, 0, none⟩, cp, cap5, xs, ys ++ [0], ret_two9 HM.out.symm (by rw [List.length_append, HY.out]; rfl), by rw [HM.out]; omega, by rw [List.length_append, HY.out]; simp; omega, hF5.mono hb1.size, hsn.mono hb1.size, hsn.cap.1, hB5⟩
  · go_wp2_with fail
    refine (pick_any B _ 3 _ h3 (by omega) (by omega) (by omega)).mono ?_; rintro e w4 ⟨pv, rfl, p0, p1, h4, hx4⟩
    have hz34 := hx4.size
    have hX4 := hX3.trans hx4
    have hO4 := hO3.extK hx4 hBw
    have hV4 := hV.extK hx4 (by have := hx2.size; omega)
    by_cases hp : pv = 0
    · subst hp
      have hzW := hX4.size
      go_wp2_with fail
      go_loopw [6, 8] (fun ov kv wr => ∃ (k q gv cv : Nat) (ys : List Int), k ≤ m ∧ q = k ∧ kv = .int .i64 k ∧ ov = .slice (some ⟨gv, 0, none⟩) q cv ∧ Hid (ys.length = q) ∧ SOwn encNum wr w2.heap.size 3 (some ⟨gv, 0, none⟩) cv ys ∧ SOwn encNum wr w1.heap.size 3 A cp xs ∧ RdU B (101 + k) wr ∧ Ext B w1 wr) (fun _ kv _ => (m - intOf kv).toNat)
      case atStart => exact ⟨0, 0, _, 0, [], by omega, rfl, rfl, rfl, (by show _ = _; rfl), SOwn.empty (blk_new w4 _) (by omega), hO4.alloc _, (h4.alloc _).mono (by omega), hX4.alloc _⟩
      case round =>
        obtain ⟨k, q, gv, cv, ys, k1, qk, rfl, rfl, HY, hO, hF, hR, hX⟩ := hrel
        have QK := Lib.hid qk
        have hq7 : q ≤ 7 := by omega
        by_cases hlt : k < m
        · have hki : (k : Int) < (m : Int) := by omega
          go_wp2_with fail
          refine (pick_any B _ _ _ hR (by omega) (by omega) (by omega)).mono ?_; rintro e w5 ⟨av, rfl, a0, a1, h5, hx5⟩
          have hX5 := hX.trans hx5
          have hO5 := hO.extK hx5 (by omega)
          have hF5 := hF.extK hx5 hBw
          have hz5 := hX5.size
          obtain ⟨t, rfl⟩ : ∃ t : Nat, av = t := ⟨av.toNat, by omega⟩
          have htq : t ≤ q := by omega
          clear qk
          have hcap := hO5.cap
          rw [HY.out] at hcap
          obtain ⟨hc1, hc2⟩ := hcap
          have hti : (t : Int) ≤ (q : Int) := by omega
          have htc : (t : Int) ≤ (cv : Int) := by omega
          have htn : t ≤ cv := by omega
          have HYD : Hid ((ys.drop t).length = q - t) := Lib.hid (by rw [List.length_drop, HY.out])
          have hgv : gv < w5.heap.size := by rcases hO5.form with ⟨e, _⟩ | ⟨g1, e, _, h9⟩; cases e; cases e; exact h9
          have hgw : w2.heap.size ≤ gv := by rcases hO5.form with ⟨e, _⟩ | ⟨g1, e, h9, _⟩; cases e; cases e; exact h9
          have hOA := hO5.alloc (.cells #[] 3)
          have hFA := hF5.alloc (.cells #[] 3)
          have hRA := h5.alloc (.cells #[] 3)
          have hXA := hX5.alloc (.cells #[] 3)
          have hEE := SOwn.empty (E := encNum) (base := w5.heap.size) (blk_new w5 (.cells #[] 3)) (Nat.le_refl _)
          obtain ⟨ad, had⟩ : ∃ ad : Addr, (if cv = t then (⟨gv, 0, none⟩ : Addr) else ⟨gv, t, none⟩) = ad := ⟨_, rfl⟩
          have hsrc : ∀ j u, (encNum.flat (ys.drop t))[j]? = some u → (w5.alloc (.cells #[] 3)).cell? (ad.add j) = some u := SRow.newsK (dropAt hOA.row (by omega) HY.out had)
          by_cases hct : cv = t
          · rw [if_pos hct] at had
            subst had
            obtain rfl : t = cv := hct.symm
            obtain rfl : t = q := by omega
            have HYD0 : Hid ((ys.drop t).length = 0) := Lib.hid (by rw [HYD.out]; omega)
            go_wp2_with (first | ((at_builtin); (have _ := hO7r); (refine wpList_append_own _ rfl (.tmp 48) (.tmp 49) _ rfl w2.heap.size 3 i0 _ 1 8 Try.underlying29 HI.out.1 HI.out.2.1 HI.out.2.2.1 HI.out.2.2.2 rfl (by omega) (.slice (some ⟨g7, 0, none⟩) (t + 1) cap7) (t + 1) (encNum.flat (ys.take t ++ [(k : Int)])) rfl hO7r ⟨gx, 0, none⟩ 0 cx (encNum.flat (ys.drop t)) rfl (by rw [encNum.flat_len]; rw [HYD0.out]; rfl) hsrc7 (encNum.flat_one _) (by simp only [maxLen]; omega) (by omega) (by omega) ?_); (intro v9 w8 hown9 hgr9 hnil9)) | ((at_builtin); (have _ := hP); (refine wpList_append_lies _ rfl (.tmp 45) (.tmp 47) _ rfl w2.heap.size 3 i0 _ 1 8 Try.underlying29 HI.out.1 HI.out.2.1 HI.out.2.2.1 HI.out.2.2.2 rfl (by omega) (.slice (some ⟨gv, 0, none⟩) t t) t (encNum.flat (ys.take t)) rfl hP ⟨w6.heap.size, 0, none⟩ 1 1 (encNum.enc (k : Int)) rfl rfl (new_enc (E := encNum) w6 (k : Int) _) (encNum.one _) (by omega) (by simp only [maxLen]; omega) (by omega) (by simp; omega) _ rfl ?_); (intro g7 cap7 w7 hown7 hgr7 hat7 hlt7); (have HYT : Hid ((ys.take t ++ [(k : Int)]).length = t + 1) := Lib.hid (take_snoc_len (by rw [HY.out]; exact htq))); (have hO7 : SOwn encNum w7 w2.heap.size 3 (some ⟨g7, 0, none⟩) cap7 (ys.take t ++ [(k : Int)]) := SOwn.of_raw hown7 (encNum.flat_snoc _ _) HYT.out); (have hRest7 := hRa.grown_far hgr7 (fun g hg e => by cases hg; simp [Value.ownBlock] at e; omega)); (have hF7 := hFa.grown_far hgr7 (fun g hg e => by have h8 := HAL.out g hg; simp [Value.ownBlock] at e; omega)); (have hR7 := (hR6.alloc (.cells (encNum.enc (k : Int)).toArray 3)).farK hgr7 (fun j hj => by simp [Value.ownBlock] at hj; omega)); (have hX7 := (hX6.alloc (.cells (encNum.enc (k : Int)).toArray 3)).far_grownK hgr7 (fun j hj => by simp [Value.ownBlock] at hj; omega)); (have hz7 := hX7.size); (have hsrc7 := SRow.newsK hRest7.row); (have hz67 := hgr7.size); (simp at hz67); (have hO7r : w7.ownsRow w2.heap.size 3 encNum.k (.slice (some ⟨g7, 0, none⟩) (t + 1) cap7) (t + 1) (encNum.flat (ys.take t ++ [(k : Int)])) := hO7.raw HYT.out)) | ((at_builtin); (refine wpList_append_own _ rfl (.tmp 38) (.tmp 41) _ rfl w5.heap.size 3 i0 _ 1 8 Try.underlying29 HI.out.1 HI.out.2.1 HI.out.2.2.1 HI.out.2.2.2 rfl (by omega) (.slice (some ⟨w5.heap.size, 0, none⟩) 0 0) 0 ([]) rfl hEE ⟨gv, 0, none⟩ 0 0 (encNum.flat (ys.drop t)) rfl (by rw [encNum.flat_len]; rw [HYD0.out]; rfl) hsrc (encNum.flat_one _) (by simp only [maxLen]; omega) (by omega) (by simp) ?_); (intro v9 w6 hown9 hgr9 hnil9); (have hn9 : 0 + 0 = 0 := by omega); (rw [hn9] at hown9); (have hv9 : v9 ≠ .slice none 0 0 := (fun e => absurd (hnil9.1 e).1 (by simp))); (obtain ⟨gx, cx, rfl⟩ := own_conv hown9 hv9); (clear hnil9 hv9 hsrc); (have hRest : SOwn encNum w6 w5.heap.size 3 (some ⟨gx, 0, none⟩) cx (ys.drop t) := SOwn.of_raw hown9 (by simp) HYD0.out); (have hge : ∀ j, Value.ownBlock (.slice (some ⟨w5.heap.size, 0, none⟩) 0 0) = some j → w5.heap.size ≤ j := (fun j hj => SOwn.ge_baseK hEE j hj)); (have hO6 := hOA.grown_far hgr9 (fun g hg e => by have := hge g e; cases hg; omega)); (have hF6 := hFA.grown_far hgr9 (fun g hg e => by have := hge g e; have := HAL.out g hg; omega)); (have hR6 := hRA.farK hgr9 (fun j hj => by have := hge j hj; omega)); (have hX6 := hXA.far_grownK hgr9 (fun j hj => by have := hge j hj; omega)); (have hz6 := hX6.size); (have hgx := own_ge hRest); (have hz56 := hgr9.size); (simp at hz56); (clear hown9 hgr9 hge hEE hn9); (have hP := (hO6.alloc (.cells (encNum.enc (k : Int)).toArray 3)).pre t (by rw [HY.out]; exact htq)); (have hQa := hO6.alloc (.cells (encNum.enc (k : Int)).toArray 3)); (have hRa := hRest.alloc (.cells (encNum.enc (k : Int)).toArray 3)); (have hFa := hF6.alloc (.cells (encNum.enc (k : Int)).toArray 3))))
            have hn9 : t + 1 + 0 = t + 1 := by omega
            rw [hn9] at hown9
            have hv9 : v9 ≠ .slice none 0 0 := fun e => by have := (hnil9.1 e).1; simp at this
            obtain ⟨gx_1, cx_1, rfl⟩ := own_conv hown9 hv9
            clear hnil9 hv9
            have HYN : Hid (((ys.take t ++ [(k : Int)]) ++ ys.drop t).length = t + 1) := Lib.hid (by rw [List.length_append, HYT.out, HYD0.out] <;> omega)
            have hO8 : SOwn encNum w8 w2.heap.size 3 (some ⟨gx_1, 0, none⟩) cx_1 ((ys.take t ++ [(k : Int)]) ++ ys.drop t) := SOwn.of_raw hown9 (encNum.flat_app _ _) HYN.out
            have hge9 : ∀ j, Value.ownBlock (.slice (some ⟨g7, 0, none⟩) (t + 1) cap7) = some j → w2.heap.size ≤ j := fun j hj => SOwn.ge_baseK hO7 j hj
            have hF8 := hF7.grown_far hgr9 (fun g hg e => by have h8 := HAL.out g hg; have := hge9 g e; omega)
            have hR8 := hR7.farK hgr9 (fun j hj => by have := hge9 j hj; omega)
            have hX8 := hX7.far_grownK hgr9 (fun j hj => by have := hge9 j hj; omega)
            go_wp2_with fail
            go_roundw
            case rel => exact ⟨k + 1, t + 1, gx_1, cx_1, _, by omega, by rw [QK.out], by go_num, rfl, HYN, hO8, hF8, hR8.mono (by push_cast; omega), hX8⟩
            case measure => simp [intOf]; omega
          · rw [if_neg hct] at had
            subst had
            have hcc : ¬ cv = t := hct
            go_wp2_with (first | ((at_builtin); (have _ := hO7r); (refine wpList_append_own _ rfl (.tmp 48) (.tmp 49) _ rfl w2.heap.size 3 i0 _ 1 8 Try.underlying29 HI.out.1 HI.out.2.1 HI.out.2.2.1 HI.out.2.2.2 rfl (by omega) (.slice (some ⟨g7, 0, none⟩) (t + 1) cap7) (t + 1) (encNum.flat (ys.take t ++ [(k : Int)])) rfl hO7r ⟨gx, 0, none⟩ (q - t) cx (encNum.flat (ys.drop t)) rfl (by rw [encNum.flat_len]; rw [HYD.out]; rfl) hsrc7 (encNum.flat_one _) (by simp only [maxLen]; omega) (by omega) (by omega) ?_); (intro v9 w8 hown9 hgr9 hnil9)) | ((at_builtin); (have _ := hP); (refine wpList_append_lies _ rfl (.tmp 45) (.tmp 47) _ rfl w2.heap.size 3 i0 _ 1 8 Try.underlying29 HI.out.1 HI.out.2.1 HI.out.2.2.1 HI.out.2.2.2 rfl (by omega) (.slice (some ⟨gv, 0, none⟩) t cv) t (encNum.flat (ys.take t)) rfl hP ⟨w6.heap.size, 0, none⟩ 1 1 (encNum.enc (k : Int)) rfl rfl (new_enc (E := encNum) w6 (k : Int) _) (encNum.one _) (by omega) (by simp only [maxLen]; omega) (by omega) (by simp; omega) _ rfl ?_); (intro g7 cap7 w7 hown7 hgr7 hat7 hlt7); (have HYT : Hid ((ys.take t ++ [(k : Int)]).length = t + 1) := Lib.hid (take_snoc_len (by rw [HY.out]; exact htq))); (have hO7 : SOwn encNum w7 w2.heap.size 3 (some ⟨g7, 0, none⟩) cap7 (ys.take t ++ [(k : Int)]) := SOwn.of_raw hown7 (encNum.flat_snoc _ _) HYT.out); (have hRest7 := hRa.grown_far hgr7 (fun g hg e => by cases hg; simp [Value.ownBlock] at e; omega)); (have hF7 := hFa.grown_far hgr7 (fun g hg e => by have h8 := HAL.out g hg; simp [Value.ownBlock] at e; omega)); (have hR7 := (hR6.alloc (.cells (encNum.enc (k : Int)).toArray 3)).farK hgr7 (fun j hj => by simp [Value.ownBlock] at hj; omega)); (have hX7 := (hX6.alloc (.cells (encNum.enc (k : Int)).toArray 3)).far_grownK hgr7 (fun j hj => by simp [Value.ownBlock] at hj; omega)); (have hz7 := hX7.size); (have hsrc7 := SRow.newsK hRest7.row); (have hz67 := hgr7.size); (simp at hz67); (have hO7r : w7.ownsRow w2.heap.size 3 encNum.k (.slice (some ⟨g7, 0, none⟩) (t + 1) cap7) (t + 1) (encNum.flat (ys.take t ++ [(k : Int)])) := hO7.raw HYT.out)) | ((at_builtin); (refine wpList_append_own _ rfl (.tmp 38) (.tmp 41) _ rfl w5.heap.size 3 i0 _ 1 8 Try.underlying29 HI.out.1 HI.out.2.1 HI.out.2.2.1 HI.out.2.2.2 rfl (by omega) (.slice (some ⟨w5.heap.size, 0, none⟩) 0 0) 0 ([]) rfl hEE ⟨gv, t, none⟩ (q - t) (cv - t) (encNum.flat (ys.drop t)) rfl (by rw [encNum.flat_len]; rw [HYD.out]; rfl) hsrc (encNum.flat_one _) (by simp only [maxLen]; omega) (by omega) (by simp) ?_); (intro v9 w6 hown9 hgr9 hnil9); (have hn9 : 0 + (q - t) = q - t := by omega); (rw [hn9] at hown9); (have hv9 : v9 ≠ .slice none 0 0 := (fun e => absurd (hnil9.1 e).1 (by simp))); (obtain ⟨gx, cx, rfl⟩ := own_conv hown9 hv9); (clear hnil9 hv9 hsrc); (have hRest : SOwn encNum w6 w5.heap.size 3 (some ⟨gx, 0, none⟩) cx (ys.drop t) := SOwn.of_raw hown9 (by simp) HYD.out); (have hge : ∀ j, Value.ownBlock (.slice (some ⟨w5.heap.size, 0, none⟩) 0 0) = some j → w5.heap.size ≤ j := (fun j hj => SOwn.ge_baseK hEE j hj)); (have hO6 := hOA.grown_far hgr9 (fun g hg e => by have := hge g e; cases hg; omega)); (have hF6 := hFA.grown_far hgr9 (fun g hg e => by have := hge g e; have := HAL.out g hg; omega)); (have hR6 := hRA.farK hgr9 (fun j hj => by have := hge j hj; omega)); (have hX6 := hXA.far_grownK hgr9 (fun j hj => by have := hge j hj; omega)); (have hz6 := hX6.size); (have hgx := own_ge hRest); (have hz56 := hgr9.size); (simp at hz56); (clear hown9 hgr9 hge hEE hn9); (have hP := (hO6.alloc (.cells (encNum.enc (k : Int)).toArray 3)).pre t (by rw [HY.out]; exact htq)); (have hQa := hO6.alloc (.cells (encNum.enc (k : Int)).toArray 3)); (have hRa := hRest.alloc (.cells (encNum.enc (k : Int)).toArray 3)); (have hFa := hF6.alloc (.cells (encNum.enc (k : Int)).toArray 3))))
            have hn9 : t + 1 + (q - t) = q + 1 := by omega
            rw [hn9] at hown9
            have hv9 : v9 ≠ .slice none 0 0 := fun e => by have := (hnil9.1 e).1; simp at this
            obtain ⟨gx_1, cx_1, rfl⟩ := own_conv hown9 hv9
            clear hnil9 hv9
            have HYN : Hid (((ys.take t ++ [(k : Int)]) ++ ys.drop t).length = q + 1) := Lib.hid (by rw [List.length_append, HYT.out, HYD.out] <;> omega)
            have hO8 : SOwn encNum w8 w2.heap.size 3 (some ⟨gx_1, 0, none⟩) cx_1 ((ys.take t ++ [(k : Int)]) ++ ys.drop t) := SOwn.of_raw hown9 (encNum.flat_app _ _) HYN.out
            have hge9 : ∀ j, Value.ownBlock (.slice (some ⟨g7, 0, none⟩) (t + 1) cap7) = some j → w2.heap.size ≤ j := fun j hj => SOwn.ge_baseK hO7 j hj
            have hF8 := hF7.grown_far hgr9 (fun g hg e => by have h8 := HAL.out g hg; have := hge9 g e; omega)
            have hR8 := hR7.farK hgr9 (fun j hj => by have := hge9 j hj; omega)
            have hX8 := hX7.far_grownK hgr9 (fun j hj => by have := hge9 j hj; omega)
            go_wp2_with fail
            go_roundw
            case rel => exact ⟨k + 1, q + 1, gx_1, cx_1, _, by omega, by rw [QK.out], by go_num, rfl, HYN, hO8, hF8, hR8.mono (by push_cast; omega), hX8⟩
            case measure => simp [intOf]; omega
        · have hki : ¬ (k : Int) < (m : Int) := by omega
          have hzX := hX.size
          have HAV : Hid (∀ g, A = some ⟨g, 0, none⟩ → Value.ownBlock (.slice (some ⟨gv, 0, none⟩) q cv) ≠ some g) := Lib.hid (fun g hg e => by have h8 := SOwn.ge_baseK hO g e; have := HAL.out g hg; omega)
          have hOm := hO.mono (show w1.heap.size ≤ w2.heap.size by exact hx2.size)
          clear qk
          go_wp2_with fail
          refine (odd_any B _ 14 _ hR (by omega) (by omega) (by omega)).mono ?_; rintro e wo ⟨bb, rfl, ho, hxo⟩
          have hXo := hX.trans hxo
          have hVo := hOm.extK hxo hBw
          have hFo := hF.extK hxo hBw
          have hzo := hXo.size
          have hBo := hb1.trans (hXo.below (N := w.heap.size) (by omega) hb1.size)
          cases bb
          · go_wp2_with fail
            go_ret2
            exact ⟨A, (some ⟨gv, 0, none⟩), cp, cv, xs, ys, ret_two9 HM.out.symm HY.out.symm, by rw [HM.out]; omega, by rw [HY.out]; omega, hFo.mono hb1.size, hVo.mono hb1.size, hVo.cap.1, hBo⟩
          · have hOa := hVo.alloc (.cells (encNum.enc (0 : Int)).toArray 3)
            have hcp := hBo.size
            go_wp2_with (at_builtin; refine wpList_append_lies _ rfl (.tmp 53) (.tmp 54) _ rfl w1.heap.size 3 i0 _ 1 8 Try.underlying29 HI.out.1 HI.out.2.1 HI.out.2.2.1 HI.out.2.2.2 rfl (by omega) (.slice (some ⟨gv, 0, none⟩) q cv) q (encNum.flat ys) rfl (by unfold SOwn at hOa; rw [HY.out] at hOa; exact hOa) ⟨wo.heap.size, 0, none⟩ 1 1 (encNum.enc (0 : Int)) rfl rfl (new_enc (E := encNum) wo (0 : Int) _) (encNum.one _) (by omega) (by simp only [maxLen]; omega) (by omega) (by simp; omega) _ rfl ?_; intro g5 cap5 w5 hown5 hgr5 hat5 hlt5)
            have hge5 : ∀ j, Value.ownBlock (.slice (some ⟨gv, 0, none⟩) q cv) = some j → w1.heap.size ≤ j := fun j hj => SOwn.ge_baseK hOa j hj
            have hB5 := (hBo.alloc hBo.size (.cells (encNum.enc (0 : Int)).toArray 3)).grown hgr5 (by simp; omega) (fun j hj => by have := hge5 j hj; omega)
            have hsn := SOwn.snoc (E := encNum) (xs := ys) (x := (0 : Int)) (by rw [HY.out]; exact hown5)
            have hF5 := (hFo.alloc (.cells (encNum.enc (0 : Int)).toArray 3)).grown_far hgr5 (fun g hg e => HAV.out g hg e)
            go_wp2_with fail
            go_ret2
            exact ⟨A, some ⟨g5, 0, none⟩, cp, cap5, xs, ys ++ [0], ret_two9 HM.out.symm (by rw [List.length_append, HY.out]; rfl), by rw [HM.out]; omega, by rw [List.length_append, HY.out]; simp; omega, hF5.mono hb1.size, hsn.mono hb1.size, hsn.cap.1, hB5⟩
    · have hpb : (pv == 0) = false := by rw [beq_eq_false_iff_ne]; exact hp
      have HAV : Hid (∀ g, A = some ⟨g, 0, none⟩ → Value.ownBlock (.slice V9 q9 c9) ≠ some g) := Lib.hid (fun g hg e => by have h8 := SOwn.ge_baseK hV9x g e; have := HAL.out g hg; omega)
      go_wp2_with fail
      refine (odd_any B _ 14 _ h4 (by omega) (by omega) (by omega)).mono ?_; rintro e wo ⟨bb, rfl, ho, hxo⟩
      have hXo := hX4.trans hxo
      have hVo := hV4.extK hxo hBw
      have hFo := hO4.extK hxo hBw
      have hzo := hXo.size
      have hBo := hb1.trans (hXo.below (N := w.heap.size) (by omega) hb1.size)
      cases bb
      · go_wp2_with fail
        go_ret2
        exact ⟨A, V9, cp, c9, xs, l, ret_two9 HM.out.symm HQ9.out.symm, by rw [HM.out]; omega, by rw [HQ9.out]; omega, hFo.mono hb1.size, hVo.mono hb1.size, hVo.cap.1, hBo⟩
      · have hOa := hVo.alloc (.cells (encNum.enc (0 : Int)).toArray 3)
        have hcp := hBo.size
        go_wp2_with (at_builtin; refine wpList_append_lies _ rfl (.tmp 53) (.tmp 54) _ rfl w1.heap.size 3 i0 _ 1 8 Try.underlying29 HI.out.1 HI.out.2.1 HI.out.2.2.1 HI.out.2.2.2 rfl (by omega) (.slice V9 q9 c9) q9 (encNum.flat l) rfl (by unfold SOwn at hOa; rw [HQ9.out] at hOa; exact hOa) ⟨wo.heap.size, 0, none⟩ 1 1 (encNum.enc (0 : Int)) rfl rfl (new_enc (E := encNum) wo (0 : Int) _) (encNum.one _) (by omega) (by simp only [maxLen]; omega) (by omega) (by simp; omega) _ rfl ?_; intro g5 cap5 w5 hown5 hgr5 hat5 hlt5)
        have hge5 : ∀ j, Value.ownBlock (.slice V9 q9 c9) = some j → w1.heap.size ≤ j := fun j hj => SOwn.ge_baseK hOa j hj
        have hB5 := (hBo.alloc hBo.size (.cells (encNum.enc (0 : Int)).toArray 3)).grown hgr5 (by simp; omega) (fun j hj => by have := hge5 j hj; omega)
        have hsn := SOwn.snoc (E := encNum) (xs := l) (x := (0 : Int)) (by rw [HQ9.out]; exact hown5)
        have hF5 := (hFo.alloc (.cells (encNum.enc (0 : Int)).toArray 3)).grown_far hgr5 (fun g hg e => HAV.out g hg e)
        go_wp2_with fail
        go_ret2
        exact ⟨A, some ⟨g5, 0, none⟩, cp, cap5, xs, l ++ [0], ret_two9 HM.out.symm (by rw [List.length_append, HQ9.out]; rfl), by rw [HM.out]; omega, by rw [List.length_append, HQ9.out]; simp; omega, hF5.mono hb1.size, hsn.mono hb1.size, hsn.cap.1, hB5⟩
end Go.Proofs.Ytoklehmoeollfaa
