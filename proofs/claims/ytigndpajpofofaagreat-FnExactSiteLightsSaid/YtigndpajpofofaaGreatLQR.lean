/- QR: texts joined. -/
import Derived.Laws.Rows
import Derived.Test.YtigndpajpofofaaGreatLQL
import Derived.Test.YtigndpajpofofaaGreatLQC
import Derived.Laws.Tables
import Derived.Test.YtigndpajpofofaaGreatLQM
import Derived.Test.YtigndpajpofofaaGreatLQH
namespace Go.Proofs.YtigndpajpofofaaGreat
open Go Go.Deep Go.ChangeShapes Go.WideShapes Go.ChangeAt Go.RowKit
set_option linter.unusedSimpArgs false
set_option linter.unusedVariables false
theorem own_geE {α : Type} {E : Enc α} {w : World} {base n : Nat} {T : TypeId} {A : Option Addr} {cap : Nat} {xs : List α} (h : SOwn E w base T A cap xs) : ∀ j, Value.ownBlock (.slice A n cap) = some j → base ≤ j := fun j hj => by
  rcases h.form with ⟨e2, _⟩ | ⟨g2, e2, h2, _⟩
  · rw [e2] at hj; simp [Value.ownBlock] at hj
  · rw [e2] at hj; simp [Value.ownBlock] at hj; omega
theorem Keeps.own {α : Type} {E : Enc α} {w w' : World} {b base cap : Nat} {T : TypeId} {A : Option Addr} {xs : List α} (h : Keeps w b w') (hO : SOwn E w base T A cap xs) (hb : b < base) : SOwn E w' base T A cap xs :=
  h (fun u => SOwn E u base T A cap xs) (fun u k => k.drew) (fun u o k => k.alloc o) (fun u v hv k => k.next hv) (fun u i x k => k.grown_far (row := some b) (setAll_grown [x] i ⟨rfl, rfl, rfl, Nat.le_refl _, fun _ _ _ => rfl⟩) (fun g hg e => by
    rcases k.form with ⟨e2, _⟩ | ⟨g2, e2, h2, _⟩
    · rw [e2] at hg; cases hg
    · rw [e2] at hg; simp at hg e; omega)) hO
/-- The lights of the next quarters. -/
def siL (la dy mi e1 n1 fe fn fu ho ha ne lo hi st : Int) (up : Bool) (xs : List VBlock) (many : Int) : List Int := if siB la dy mi e1 n1 fe fn fu ho ha ne lo hi st xs && inV many 0 96 then tkL la e1 n1 fe fn fu ho ne lo hi xs many.toNat (dy, mi, ha, up, st) else []
theorem siL_no {la dy mi e1 n1 fe fn fu ho ha ne lo hi st : Int} {up : Bool} {xs : List VBlock} {many : Int} (h : siB la dy mi e1 n1 fe fn fu ho ha ne lo hi st xs = false ∨ inV many 0 96 = false) : siL la dy mi e1 n1 fe fn fu ho ha ne lo hi st up xs many = [] := by
  unfold siL
  rcases h with h | h <;> rw [h] <;> simp
theorem siL_yes {la dy mi e1 n1 fe fn fu ho ha ne lo hi st : Int} {up : Bool} {xs : List VBlock} {M : Nat} (h : siB la dy mi e1 n1 fe fn fu ho ha ne lo hi st xs = true) (hM : M ≤ 96) : siL la dy mi e1 n1 fe fn fu ho ha ne lo hi st up xs M = tkL la e1 n1 fe fn fu ho ne lo hi xs M (dy, mi, ha, up, st) := by
  have h2 : inV (M : Int) 0 96 = true := by simp only [inV, decide_eq_true_eq]; omega
  unfold siL
  rw [h, h2]
  simp only [Bool.and_self, if_true, Int.toNat_natCast]
theorem siL_len {la dy mi e1 n1 fe fn fu ho ha ne lo hi st : Int} {up : Bool} {xs : List VBlock} {many : Int} : (siL la dy mi e1 n1 fe fn fu ho ha ne lo hi st up xs many).length ≤ 96 := by
  unfold siL
  split
  · rename_i h
    simp only [Bool.and_eq_true, inV, decide_eq_true_eq] at h
    rw [tkL_len]; omega
  · simp
def IntsB (l : List Int) (w : World) (e : Ending) (w' : World) : Prop := ∃ (A : Option Addr) (cp : Nat), e = .returned (.slice A l.length cp) ∧ SOwn encNum w' w.heap.size 3 A cp l ∧ Below w.heap.size w w'
set_option maxRecDepth 100000 in
set_option maxHeartbeats 4000000 in
theorem iSLs_bad1 (la dy mi e1 n1 fe fn fu ho ha ne lo hi st : Int) (up : Bool) (A : Option Addr) (cap : Nat) (xs : List VBlock) {many : Int} {n : Nat} (w : World) (hn : xs.length = n) (h : SRow encBlock w A xs) (hl : n ≤ 2000000) (hb : siB la dy mi e1 n1 fe fn fu ho ha ne lo hi st xs = false) :
    Calls Tryz.prog 18 #[.agg #[.int .i64 la, .int .i64 dy, .int .i64 mi, .slice A n cap, .int .i64 e1, .int .i64 n1, .int .i64 fe, .int .i64 fn, .int .i64 fu, .int .i64 ho, .int .i64 ha, .int .i64 ne, .int .i64 lo, .int .i64 hi, .bool up, .int .i64 st], .int .i64 many] w (IntsB [] w) := by
  have HB := Lib.hid hb
  clear hb
  have HN := Lib.hid hn
  have h0 := h
  clear hn h
  have hP0 := blk_new w (.cells #[.int .i64 la, .int .i64 dy, .int .i64 mi, .slice A n cap, .int .i64 e1, .int .i64 n1, .int .i64 fe, .int .i64 fn, .int .i64 fu, .int .i64 ho, .int .i64 ha, .int .i64 ne, .int .i64 lo, .int .i64 hi, .bool up, .int .i64 st] 40 (0, 0))
  have hB0 := bel1 w (.cells #[.int .i64 la, .int .i64 dy, .int .i64 mi, .slice A n cap, .int .i64 e1, .int .i64 n1, .int .i64 fe, .int .i64 fn, .int .i64 fu, .int .i64 ho, .int .i64 ha, .int .i64 ne, .int .i64 lo, .int .i64 hi, .bool up, .int .i64 st] 40 (0, 0))
  have hA0 := h0.next hB0
  go_enter Tryz.func18, Tryz.ntmps18
  go_wp2_with (refine wpList_load_row rfl 40 _ rfl _ rfl _ _ (0, 0) _ hP0 Tryz.underlying40 rfl (by kernel_rfl) ?_)
  refine (iSV_is la dy mi e1 n1 fe fn fu ho ha ne lo hi st up A cap xs _ HN.out hA0 hl HB.out).mono ?_; rintro E w1 ⟨rfl, hw1⟩
  have hP1 := blk_next hP0 hw1
  have hB1 := bel_next hB0 hw1
  have hA1 := h0.next hB1
  clear hP0 hA0
  go_wp2_with fail
  go_ret
  exact ⟨none, 0, rfl, SOwn.nil _ _ _, hB1⟩
set_option maxRecDepth 100000 in
set_option maxHeartbeats 4000000 in
theorem iSLs_bad2 (la dy mi e1 n1 fe fn fu ho ha ne lo hi st : Int) (up : Bool) (A : Option Addr) (cap : Nat) (xs : List VBlock) {many : Int} {n : Nat} (w : World) (hn : xs.length = n) (h : SRow encBlock w A xs) (hl : n ≤ 2000000) (hb : siB la dy mi e1 n1 fe fn fu ho ha ne lo hi st xs = true) (hq : inV many 0 96 = false) :
    Calls Tryz.prog 18 #[.agg #[.int .i64 la, .int .i64 dy, .int .i64 mi, .slice A n cap, .int .i64 e1, .int .i64 n1, .int .i64 fe, .int .i64 fn, .int .i64 fu, .int .i64 ho, .int .i64 ha, .int .i64 ne, .int .i64 lo, .int .i64 hi, .bool up, .int .i64 st], .int .i64 many] w (IntsB [] w) := by
  have HB := Lib.hid hb
  have HQ := Lib.hid hq
  clear hq
  clear hb
  have HN := Lib.hid hn
  have h0 := h
  clear hn h
  have hP0 := blk_new w (.cells #[.int .i64 la, .int .i64 dy, .int .i64 mi, .slice A n cap, .int .i64 e1, .int .i64 n1, .int .i64 fe, .int .i64 fn, .int .i64 fu, .int .i64 ho, .int .i64 ha, .int .i64 ne, .int .i64 lo, .int .i64 hi, .bool up, .int .i64 st] 40 (0, 0))
  have hB0 := bel1 w (.cells #[.int .i64 la, .int .i64 dy, .int .i64 mi, .slice A n cap, .int .i64 e1, .int .i64 n1, .int .i64 fe, .int .i64 fn, .int .i64 fu, .int .i64 ho, .int .i64 ha, .int .i64 ne, .int .i64 lo, .int .i64 hi, .bool up, .int .i64 st] 40 (0, 0))
  have hA0 := h0.next hB0
  go_enter Tryz.func18, Tryz.ntmps18
  go_wp2_with (refine wpList_load_row rfl 40 _ rfl _ rfl _ _ (0, 0) _ hP0 Tryz.underlying40 rfl (by kernel_rfl) ?_)
  refine (iSV_is la dy mi e1 n1 fe fn fu ho ha ne lo hi st up A cap xs _ HN.out hA0 hl HB.out).mono ?_; rintro E w1 ⟨rfl, hw1⟩
  have hP1 := blk_next hP0 hw1
  have hB1 := bel_next hB0 hw1
  have hA1 := h0.next hB1
  clear hP0 hA0
  go_wp2_with fail
  refine (iQv_is _ HQ.out).mono ?_; rintro E w' ⟨rfl, rfl⟩
  go_wp2_with fail
  go_ret
  exact ⟨none, 0, rfl, SOwn.nil _ _ _, hB1⟩
set_option maxRecDepth 100000 in
set_option maxHeartbeats 4000000 in
theorem iSLs_yes (la dy mi e1 n1 fe fn fu ho ha ne lo hi st : Int) (up : Bool) (A : Option Addr) (cap : Nat) (xs : List VBlock) {M : Nat} {l : List Int} {n : Nat} (w : World) (hn : xs.length = n) (h : SRow encBlock w A xs) (hl : n ≤ 2000000) (hM : M ≤ 96) (hb : siB la dy mi e1 n1 fe fn fu ho ha ne lo hi st xs = true) (hl0 : tkL la e1 n1 fe fn fu ho ne lo hi xs M (dy, mi, ha, up, st) = l) :
    Calls Tryz.prog 18 #[.agg #[.int .i64 la, .int .i64 dy, .int .i64 mi, .slice A n cap, .int .i64 e1, .int .i64 n1, .int .i64 fe, .int .i64 fn, .int .i64 fu, .int .i64 ho, .int .i64 ha, .int .i64 ne, .int .i64 lo, .int .i64 hi, .bool up, .int .i64 st], .int .i64 M] w (IntsB l w) := by
  obtain ⟨i0, hi0, hz0, hz1, hz2⟩ := info_parts infoNum
  have HI := Lib.hid (And.intro hi0 (And.intro hz0 (And.intro hz1 hz2)))
  clear hi0 hz0 hz1 hz2
  have hv : tkV la e1 n1 fe fn fu ho ne lo hi xs (dy, mi, ha, up, st) := hb
  have HV := Lib.hid (fun k => tkV_all hv k)
  have hq : inV (M : Int) 0 96 = true := by simp only [inV, decide_eq_true_eq]; omega
  have HB := Lib.hid hb
  have HQ := Lib.hid hq
  have HM := Lib.hid hM
  have HL0 := Lib.hid hl0
  clear hb hq hv hM hl0
  have HN := Lib.hid hn
  have h0 := h
  clear hn h
  have hP0 := blk_new w (.cells #[.int .i64 la, .int .i64 dy, .int .i64 mi, .slice A n cap, .int .i64 e1, .int .i64 n1, .int .i64 fe, .int .i64 fn, .int .i64 fu, .int .i64 ho, .int .i64 ha, .int .i64 ne, .int .i64 lo, .int .i64 hi, .bool up, .int .i64 st] 40 (0, 0))
  have hB0 := bel1 w (.cells #[.int .i64 la, .int .i64 dy, .int .i64 mi, .slice A n cap, .int .i64 e1, .int .i64 n1, .int .i64 fe, .int .i64 fn, .int .i64 fu, .int .i64 ho, .int .i64 ha, .int .i64 ne, .int .i64 lo, .int .i64 hi, .bool up, .int .i64 st] 40 (0, 0))
  have hA0 := h0.next hB0
  go_enter Tryz.func18, Tryz.ntmps18
  go_wp2_with (refine wpList_load_row rfl 40 _ rfl _ rfl _ _ (0, 0) _ hP0 Tryz.underlying40 rfl (by kernel_rfl) ?_)
  refine (iSV_is la dy mi e1 n1 fe fn fu ho ha ne lo hi st up A cap xs _ HN.out hA0 hl HB.out).mono ?_; rintro E w1 ⟨rfl, hw1⟩
  have hP1 := blk_next hP0 hw1
  have hB1 := bel_next hB0 hw1
  have hA1 := h0.next hB1
  clear hP0 hA0
  go_wp2_with fail
  refine (iQv_is _ HQ.out).mono ?_; rintro E w' ⟨rfl, rfl⟩
  go_wp2_with (refine wpList_load_row rfl 40 _ rfl _ rfl _ _ (0, 0) _ hP1 Tryz.underlying40 rfl (by kernel_rfl) ?_)
  refine (partsOf_any la dy mi e1 n1 fe fn fu ho ha ne lo hi st up A n cap _).mono ?_; rintro E w2 ⟨rfl, hw2⟩
  have hB2 := bel_next hB1 hw2
  have hA2 := h0.next hB2
  have hC2 := blk_new w2 (.cells #[.int .i64 la, .int .i64 dy, .int .i64 mi, .int .i64 fe, .int .i64 fn, .int .i64 fu, .int .i64 ho, .int .i64 ha, .int .i64 ne, .slice A n cap, .int .i64 e1, .int .i64 n1, .int .i64 lo, .int .i64 hi, .bool up, .int .i64 st] 94 (0, 0))
  have hzB := hB2.size
  have hBC := bel1 w2 (.cells #[.int .i64 la, .int .i64 dy, .int .i64 mi, .int .i64 fe, .int .i64 fn, .int .i64 fu, .int .i64 ho, .int .i64 ha, .int .i64 ne, .slice A n cap, .int .i64 e1, .int .i64 n1, .int .i64 lo, .int .i64 hi, .bool up, .int .i64 st] 94 (0, 0))
  clear hP1 hB1 hA1
  go_wp2_with fail
  go_loopw [5, 18] (fun lv kv wr => ∃ (k : Nat) (d m a t : Int) (u : Bool) (V : Option Addr) (cv : Nat) (ls : List Int), lv = .slice V k cv ∧ kv = .int .i64 k ∧ k ≤ M ∧ Hid (tkN la e1 n1 fe fn fu ho ne lo hi xs k (dy, mi, ha, up, st) = (d, m, a, u, t)) ∧ Hid (tkL la e1 n1 fe fn fu ho ne lo hi xs k (dy, mi, ha, up, st) = ls) ∧ Hid (ls.length = k) ∧ wr.heap[w2.heap.size]? = some (.cells #[.int .i64 la, .int .i64 d, .int .i64 m, .int .i64 fe, .int .i64 fn, .int .i64 fu, .int .i64 ho, .int .i64 a, .int .i64 ne, .slice A n cap, .int .i64 e1, .int .i64 n1, .int .i64 lo, .int .i64 hi, .bool u, .int .i64 t] 94 (0, 0)) ∧ Below w2.heap.size w2 wr ∧ SOwn encNum wr (w2.heap.size + 1) 3 V cv ls) (fun _ kv _ => (M - intOf kv).toNat)
  case atStart => exact ⟨0, dy, mi, ha, st, up, none, 0, [], rfl, rfl, by omega, (by show _ = _; rfl), (by show _ = _; rfl), (by show _ = _; rfl), hC2, hBC, SOwn.nil _ _ _⟩
  case round =>
    obtain ⟨k, d, m, a, t, u, V, cv, ls, rfl, rfl, hk, HS, HLs, HLl, hC, hBk, hO⟩ := hrel
    have hM9 := HM.out
    by_cases hlt : k < M
    · have hlt2 : (k : Int) < (M : Int) := by omega
      obtain ⟨⟨d9, m9, a9, u9, t9⟩, hs9⟩ : ∃ s, tk1 la e1 n1 fe fn fu ho ne lo hi xs (d, m, a, u, t) = s := ⟨_, rfl⟩
      have HS9 := Lib.hid hs9
      clear hs9
      have HVk := HV.out k
      rw [HS.out] at HVk
      have HVK := Lib.hid HVk
      have hv9 := siB_tick HVk HS9.out
      have HSK := Lib.hid (sky_of hv9)
      clear HVk hv9
      obtain ⟨x, hx⟩ : ∃ x, lxI la e1 n1 xs d9 m9 = x := ⟨_, rfl⟩
      have HX := Lib.hid hx
      clear hx
      have hk9 : tkN la e1 n1 fe fn fu ho ne lo hi xs (k + 1) (dy, mi, ha, up, st) = (d9, m9, a9, u9, t9) := by show tk1 _ _ _ _ _ _ _ _ _ _ _ (tkN la e1 n1 fe fn fu ho ne lo hi xs k _) = _; rw [HS.out]; exact HS9.out
      have HK9 := Lib.hid hk9
      clear hk9
      go_wp2_with fail
      refine (iTick_is la d m e1 n1 fe fn fu ho a ne lo hi t u A cap xs w2.heap.size w2 _ HN.out hA2 hBk (Nat.le_refl _) hl hC HVK.out HS9.out).mono ?_; rintro E w5 ⟨rfl, hC5, hK5⟩
      have hB5 := hK5.below (Nat.le_refl _) hBk
      have hO5 := hK5.own hO (Nat.lt_succ_self _)
      go_wp2_with (refine wpList_load_row rfl 94 _ rfl _ rfl _ _ (0, 0) _ hC5 Tryz.underlying94 rfl (by kernel_rfl) ?_)
      refine (iLgx_is la d9 m9 e1 n1 fe fn fu ho a9 ne lo hi t9 u9 A cap xs _ HN.out (hA2.next hB5) hl HSK.out HX.out).mono ?_; rintro E w6 ⟨rfl, hw6⟩
      have hC6 := blk_next hC5 hw6
      have hO6 := hO5.next hw6
      have hB6 := bel_next hB5 hw6
      have hz6 : w2.heap.size + 1 ≤ w6.heap.size := by have := blk_lt hC6; omega
      have hOa := hO6.alloc (.cells (encNum.enc (x)).toArray 3)
      go_wp2_with (at_builtin; refine wpList_append_lies _ rfl (.tmp 21) (.tmp 24) _ rfl (w2.heap.size + 1) 3 i0 _ 1 8 Tryz.underlying48 HI.out.1 HI.out.2.1 HI.out.2.2.1 HI.out.2.2.2 rfl (by omega) (.slice V k cv) k (encNum.flat ls) rfl (by unfold SOwn at hOa; rw [HLl.out] at hOa; exact hOa) ⟨w6.heap.size, 0, none⟩ 1 1 (encNum.enc (x)) rfl rfl (new_enc (E := encNum) w6 (x) _) (encNum.one _) (by omega) (by simp only [maxLen]; omega) (by omega) (by simp; omega) _ rfl ?_; intro g5 cap5 w7 hown5 hgr5 hat5 hlt5)
      have hC7 := blk_grownE (blk_old hC6 (.cells (encNum.enc (x)).toArray 3)) hgr5 (fun e => by have := own_geE hOa _ e; omega)
      have hB7 := (hB6.alloc hB6.size (.cells (encNum.enc (x)).toArray 3)).grown hgr5 (hB6.alloc hB6.size (.cells (encNum.enc (x)).toArray 3)).size (fun j hj => by have := own_geE hOa j hj; omega)
      have hO7 := SOwn.snoc (E := encNum) (xs := ls) (x := x) (by rw [HLl.out]; exact hown5)
      go_wp2_with fail
      go_roundw
      case rel => exact ⟨k + 1, d9, m9, a9, t9, u9, some ⟨g5, 0, none⟩, cap5, ls ++ [x], rfl, by go_num, by omega, HK9, (by show tkL la e1 n1 fe fn fu ho ne lo hi xs k _ ++ [lxI la e1 n1 xs (tkN la e1 n1 fe fn fu ho ne lo hi xs (k + 1) (dy, mi, ha, up, st)).1 (tkN la e1 n1 fe fn fu ho ne lo hi xs (k + 1) (dy, mi, ha, up, st)).2.1] = _; rw [HLs.out, HK9.out, HX.out]), (by show _ = _; rw [List.length_append, HLl.out]; rfl), hC7, hB7, hO7⟩
      case measure => simp [intOf]; omega
    · obtain rfl : k = M := by omega
      have hlt2 : ¬ (k : Int) < (k : Int) := by omega
      have h9 := HLs.out
      rw [HL0.out] at h9
      subst h9
      go_wp2_with fail
      go_ret
      exact ⟨V, cv, by rw [HLl.out]; rfl, SOwn.mono (base' := w.heap.size) hO (by omega), bel_next hB2 hBk⟩
theorem iSLs_is (la dy mi e1 n1 fe fn fu ho ha ne lo hi st : Int) (up : Bool) (A : Option Addr) (cap : Nat) (xs : List VBlock) {many : Int} {l : List Int} {n : Nat} (w : World) (hn : xs.length = n) (h : SRow encBlock w A xs) (hl : n ≤ 2000000) (hr : siL la dy mi e1 n1 fe fn fu ho ha ne lo hi st up xs many = l) : Calls Tryz.prog 18 #[.agg #[.int .i64 la, .int .i64 dy, .int .i64 mi, .slice A n cap, .int .i64 e1, .int .i64 n1, .int .i64 fe, .int .i64 fn, .int .i64 fu, .int .i64 ho, .int .i64 ha, .int .i64 ne, .int .i64 lo, .int .i64 hi, .bool up, .int .i64 st], .int .i64 many] w (IntsB l w) := by
  cases hb : siB la dy mi e1 n1 fe fn fu ho ha ne lo hi st xs
  · rw [siL_no (.inl hb)] at hr
    subst hr
    exact iSLs_bad1 la dy mi e1 n1 fe fn fu ho ha ne lo hi st up A cap xs w hn h hl hb
  · cases hq : inV many 0 96
    · rw [siL_no (.inr hq)] at hr
      subst hr
      exact iSLs_bad2 la dy mi e1 n1 fe fn fu ho ha ne lo hi st up A cap xs w hn h hl hb hq
    · simp only [inV, decide_eq_true_eq] at hq
      obtain ⟨M, rfl⟩ : ∃ M : Nat, many = (M : Int) := ⟨many.toNat, by omega⟩
      rw [siL_yes hb (by omega)] at hr
      exact iSLs_yes la dy mi e1 n1 fe fn fu ho ha ne lo hi st up A cap xs w hn h hl (by omega) hb hr
end Go.Proofs.YtigndpajpofofaaGreat
namespace Go.Proofs.YtigndpajpofofaaGreat
open Go Go.Deep Go.ChangeShapes Go.WideShapes Go.ChangeAt Go.RowKit
set_option linter.unusedSimpArgs false
set_option linter.unusedVariables false
theorem setRow_grownE (w : World) (g : Nat) (cs : Array Value) : w.grownBy (w.setRow g cs) (some g) := ⟨rfl, rfl, rfl, by simp, fun k hk hne => setRow_other w g k cs (fun e => hne (by rw [e]))⟩
theorem own_neE {α β : Type} {E1 : Enc α} {E2 : Enc β} {w : World} {b1 b2 n c1 c2 : Nat} {T1 T2 : TypeId} {A1 A2 : Option Addr} {xs : List α} {ys : List β} (h1 : SOwn E1 w b1 T1 A1 c1 xs) (h2 : SOwn E2 w b2 T2 A2 c2 ys) (hT : T1 ≠ T2) : ∀ g, A2 = some ⟨g, 0, none⟩ → Value.ownBlock (.slice A1 n c1) = some g → False := fun g hg e => by
  rcases h2.2 with ⟨e2, _⟩ | ⟨g2, cap', cur, e2, hb, hc, _⟩
  · simp only [Value.slice.injEq] at e2
    rw [e2.1] at hg; cases hg
  · simp only [Value.slice.injEq] at e2
    rw [e2.1] at hg
    cases hg
    exact SOwn.ne_typeE (n := n) h1 hc hT e
set_option maxRecDepth 100000 in
set_option maxHeartbeats 4000000 in
theorem sSLs_bad0 (la dy mi e1 n1 fe fn fu ho ha ne lo hi st : Int) (up : Bool) (A : Option Addr) (cap : Nat) (xs : List VBlock) {many : Int} {n : Nat} (w : World) (hn : xs.length = n) (h : SRow encBlock w A xs) (hl : n ≤ 2000000) (hq : many ≤ 0) :
    Calls Tryz.prog 17 #[.agg #[.int .i64 la, .int .i64 dy, .int .i64 mi, .slice A n cap, .int .i64 e1, .int .i64 n1, .int .i64 fe, .int .i64 fn, .int .i64 fu, .int .i64 ho, .int .i64 ha, .int .i64 ne, .int .i64 lo, .int .i64 hi, .bool up, .int .i64 st], .int .i64 many] w (IntsB [] w) := by
  have hlt2 : ¬ (0 : Int) < many := by omega
  have HN := Lib.hid hn
  have h0 := h
  clear hn h
  have hP0 := blk_old (blk_new w (.cells #[.int .i64 la, .int .i64 dy, .int .i64 mi, .slice A n cap, .int .i64 e1, .int .i64 n1, .int .i64 fe, .int .i64 fn, .int .i64 fu, .int .i64 ho, .int .i64 ha, .int .i64 ne, .int .i64 lo, .int .i64 hi, .bool up, .int .i64 st] 40 (0, 0))) (.cells #[] 3)
  have hsz : (w.alloc (.cells #[.int .i64 la, .int .i64 dy, .int .i64 mi, .slice A n cap, .int .i64 e1, .int .i64 n1, .int .i64 fe, .int .i64 fn, .int .i64 fu, .int .i64 ho, .int .i64 ha, .int .i64 ne, .int .i64 lo, .int .i64 hi, .bool up, .int .i64 st] 40 (0, 0))).heap.size = w.heap.size + 1 := by simp
  have hO0 := SOwn.empty (E := encNum) (base := w.heap.size) (blk_new (w.alloc (.cells #[.int .i64 la, .int .i64 dy, .int .i64 mi, .slice A n cap, .int .i64 e1, .int .i64 n1, .int .i64 fe, .int .i64 fn, .int .i64 fu, .int .i64 ho, .int .i64 ha, .int .i64 ne, .int .i64 lo, .int .i64 hi, .bool up, .int .i64 st] 40 (0, 0))) (.cells #[] 3)) (by rw [hsz]; omega)
  rw [hsz] at hO0
  have hB0 := bel2 w (.cells #[.int .i64 la, .int .i64 dy, .int .i64 mi, .slice A n cap, .int .i64 e1, .int .i64 n1, .int .i64 fe, .int .i64 fn, .int .i64 fu, .int .i64 ho, .int .i64 ha, .int .i64 ne, .int .i64 lo, .int .i64 hi, .bool up, .int .i64 st] 40 (0, 0)) (.cells #[] 3)
  have hA0 := h0.next hB0
  generalize hwa : (w.alloc (.cells #[.int .i64 la, .int .i64 dy, .int .i64 mi, .slice A n cap, .int .i64 e1, .int .i64 n1, .int .i64 fe, .int .i64 fn, .int .i64 fu, .int .i64 ho, .int .i64 ha, .int .i64 ne, .int .i64 lo, .int .i64 hi, .bool up, .int .i64 st] 40 (0, 0))).alloc (.cells #[] 3) = wa at hP0 hO0 hB0 hA0
  go_enter Tryz.func17, Tryz.ntmps17
  go_wp2_with fail
  go_loopw [5, 6] (fun lv kv wr => lv = .slice (some ⟨w.heap.size + 1, 0, none⟩) 0 0 ∧ kv = .int .i64 0 ∧ wr.heap[w.heap.size]? = some (.cells #[.int .i64 la, .int .i64 dy, .int .i64 mi, .slice A n cap, .int .i64 e1, .int .i64 n1, .int .i64 fe, .int .i64 fn, .int .i64 fu, .int .i64 ho, .int .i64 ha, .int .i64 ne, .int .i64 lo, .int .i64 hi, .bool up, .int .i64 st] 40 (0, 0)) ∧ Below w.heap.size w wr ∧ SOwn encNum wr w.heap.size 3 (some ⟨w.heap.size + 1, 0, none⟩) 0 []) (fun _ _ _ => 0)
  case atStart => exact ⟨rfl, rfl, hP0, hB0, hO0⟩
  case round =>
    clear hP0 hB0 hO0 hA0
    obtain ⟨rfl, rfl, hP, hB, hO⟩ := hrel
    go_wp2_with fail
    go_ret
    exact ⟨_, _, rfl, hO, hB⟩
set_option maxRecDepth 100000 in
set_option maxHeartbeats 4000000 in
theorem sSLs_bad1 (la dy mi e1 n1 fe fn fu ho ha ne lo hi st : Int) (up : Bool) (A : Option Addr) (cap : Nat) (xs : List VBlock) {many : Int} {n : Nat} (w : World) (hn : xs.length = n) (h : SRow encBlock w A xs) (hl : n ≤ 2000000) (hq : 0 < many) (hb : siB la dy mi e1 n1 fe fn fu ho ha ne lo hi st xs = false) :
    Calls Tryz.prog 17 #[.agg #[.int .i64 la, .int .i64 dy, .int .i64 mi, .slice A n cap, .int .i64 e1, .int .i64 n1, .int .i64 fe, .int .i64 fn, .int .i64 fu, .int .i64 ho, .int .i64 ha, .int .i64 ne, .int .i64 lo, .int .i64 hi, .bool up, .int .i64 st], .int .i64 many] w (IntsB [] w) := by
  have hlt2 : (0 : Int) < many := by omega
  have HB := Lib.hid hb
  clear hb
  have HN := Lib.hid hn
  have h0 := h
  clear hn h
  have hP0 := blk_old (blk_new w (.cells #[.int .i64 la, .int .i64 dy, .int .i64 mi, .slice A n cap, .int .i64 e1, .int .i64 n1, .int .i64 fe, .int .i64 fn, .int .i64 fu, .int .i64 ho, .int .i64 ha, .int .i64 ne, .int .i64 lo, .int .i64 hi, .bool up, .int .i64 st] 40 (0, 0))) (.cells #[] 3)
  have hsz : (w.alloc (.cells #[.int .i64 la, .int .i64 dy, .int .i64 mi, .slice A n cap, .int .i64 e1, .int .i64 n1, .int .i64 fe, .int .i64 fn, .int .i64 fu, .int .i64 ho, .int .i64 ha, .int .i64 ne, .int .i64 lo, .int .i64 hi, .bool up, .int .i64 st] 40 (0, 0))).heap.size = w.heap.size + 1 := by simp
  have hO0 := SOwn.empty (E := encNum) (base := w.heap.size) (blk_new (w.alloc (.cells #[.int .i64 la, .int .i64 dy, .int .i64 mi, .slice A n cap, .int .i64 e1, .int .i64 n1, .int .i64 fe, .int .i64 fn, .int .i64 fu, .int .i64 ho, .int .i64 ha, .int .i64 ne, .int .i64 lo, .int .i64 hi, .bool up, .int .i64 st] 40 (0, 0))) (.cells #[] 3)) (by rw [hsz]; omega)
  rw [hsz] at hO0
  have hB0 := bel2 w (.cells #[.int .i64 la, .int .i64 dy, .int .i64 mi, .slice A n cap, .int .i64 e1, .int .i64 n1, .int .i64 fe, .int .i64 fn, .int .i64 fu, .int .i64 ho, .int .i64 ha, .int .i64 ne, .int .i64 lo, .int .i64 hi, .bool up, .int .i64 st] 40 (0, 0)) (.cells #[] 3)
  have hA0 := h0.next hB0
  generalize hwa : (w.alloc (.cells #[.int .i64 la, .int .i64 dy, .int .i64 mi, .slice A n cap, .int .i64 e1, .int .i64 n1, .int .i64 fe, .int .i64 fn, .int .i64 fu, .int .i64 ho, .int .i64 ha, .int .i64 ne, .int .i64 lo, .int .i64 hi, .bool up, .int .i64 st] 40 (0, 0))).alloc (.cells #[] 3) = wa at hP0 hO0 hB0 hA0
  go_enter Tryz.func17, Tryz.ntmps17
  go_wp2_with fail
  go_loopw [5, 6] (fun lv kv wr => lv = .slice (some ⟨w.heap.size + 1, 0, none⟩) 0 0 ∧ kv = .int .i64 0 ∧ wr.heap[w.heap.size]? = some (.cells #[.int .i64 la, .int .i64 dy, .int .i64 mi, .slice A n cap, .int .i64 e1, .int .i64 n1, .int .i64 fe, .int .i64 fn, .int .i64 fu, .int .i64 ho, .int .i64 ha, .int .i64 ne, .int .i64 lo, .int .i64 hi, .bool up, .int .i64 st] 40 (0, 0)) ∧ Below w.heap.size w wr ∧ SOwn encNum wr w.heap.size 3 (some ⟨w.heap.size + 1, 0, none⟩) 0 []) (fun _ _ _ => 0)
  case atStart => exact ⟨rfl, rfl, hP0, hB0, hO0⟩
  case round =>
    clear hP0 hB0 hO0 hA0
    obtain ⟨rfl, rfl, hP, hB, hO⟩ := hrel
    go_wp2_with (refine wpList_load_rowG (by kernel_rfl) 40 _ rfl _ rfl _ _ (0, 0) _ hP Tryz.underlying40 rfl (by kernel_rfl) ?_)
    refine (sSV10_is la dy mi e1 n1 fe fn fu ho ha ne lo hi st up A cap xs _ HN.out (h0.next hB) hl HB.out).mono ?_; rintro E w1 ⟨rfl, hw1⟩
    have hO := hO.next hw1
    have hB := bel_next hB hw1
    go_wp2_with fail
    go_ret
    exact ⟨_, _, rfl, hO, hB⟩
set_option maxRecDepth 100000 in
set_option maxHeartbeats 4000000 in
theorem sSLs_bad2 (la dy mi e1 n1 fe fn fu ho ha ne lo hi st : Int) (up : Bool) (A : Option Addr) (cap : Nat) (xs : List VBlock) {many : Int} {n : Nat} (w : World) (hn : xs.length = n) (h : SRow encBlock w A xs) (hl : n ≤ 2000000) (hq : 0 < many) (hb : siB la dy mi e1 n1 fe fn fu ho ha ne lo hi st xs = true) (hq2 : inV many 0 96 = false) :
    Calls Tryz.prog 17 #[.agg #[.int .i64 la, .int .i64 dy, .int .i64 mi, .slice A n cap, .int .i64 e1, .int .i64 n1, .int .i64 fe, .int .i64 fn, .int .i64 fu, .int .i64 ho, .int .i64 ha, .int .i64 ne, .int .i64 lo, .int .i64 hi, .bool up, .int .i64 st], .int .i64 many] w (IntsB [] w) := by
  have hlt2 : (0 : Int) < many := by omega
  have HB := Lib.hid hb
  have HQ := Lib.hid hq2
  clear hb hq2
  have HN := Lib.hid hn
  have h0 := h
  clear hn h
  have hP0 := blk_old (blk_new w (.cells #[.int .i64 la, .int .i64 dy, .int .i64 mi, .slice A n cap, .int .i64 e1, .int .i64 n1, .int .i64 fe, .int .i64 fn, .int .i64 fu, .int .i64 ho, .int .i64 ha, .int .i64 ne, .int .i64 lo, .int .i64 hi, .bool up, .int .i64 st] 40 (0, 0))) (.cells #[] 3)
  have hsz : (w.alloc (.cells #[.int .i64 la, .int .i64 dy, .int .i64 mi, .slice A n cap, .int .i64 e1, .int .i64 n1, .int .i64 fe, .int .i64 fn, .int .i64 fu, .int .i64 ho, .int .i64 ha, .int .i64 ne, .int .i64 lo, .int .i64 hi, .bool up, .int .i64 st] 40 (0, 0))).heap.size = w.heap.size + 1 := by simp
  have hO0 := SOwn.empty (E := encNum) (base := w.heap.size) (blk_new (w.alloc (.cells #[.int .i64 la, .int .i64 dy, .int .i64 mi, .slice A n cap, .int .i64 e1, .int .i64 n1, .int .i64 fe, .int .i64 fn, .int .i64 fu, .int .i64 ho, .int .i64 ha, .int .i64 ne, .int .i64 lo, .int .i64 hi, .bool up, .int .i64 st] 40 (0, 0))) (.cells #[] 3)) (by rw [hsz]; omega)
  rw [hsz] at hO0
  have hB0 := bel2 w (.cells #[.int .i64 la, .int .i64 dy, .int .i64 mi, .slice A n cap, .int .i64 e1, .int .i64 n1, .int .i64 fe, .int .i64 fn, .int .i64 fu, .int .i64 ho, .int .i64 ha, .int .i64 ne, .int .i64 lo, .int .i64 hi, .bool up, .int .i64 st] 40 (0, 0)) (.cells #[] 3)
  have hA0 := h0.next hB0
  generalize hwa : (w.alloc (.cells #[.int .i64 la, .int .i64 dy, .int .i64 mi, .slice A n cap, .int .i64 e1, .int .i64 n1, .int .i64 fe, .int .i64 fn, .int .i64 fu, .int .i64 ho, .int .i64 ha, .int .i64 ne, .int .i64 lo, .int .i64 hi, .bool up, .int .i64 st] 40 (0, 0))).alloc (.cells #[] 3) = wa at hP0 hO0 hB0 hA0
  go_enter Tryz.func17, Tryz.ntmps17
  go_wp2_with fail
  go_loopw [5, 6] (fun lv kv wr => lv = .slice (some ⟨w.heap.size + 1, 0, none⟩) 0 0 ∧ kv = .int .i64 0 ∧ wr.heap[w.heap.size]? = some (.cells #[.int .i64 la, .int .i64 dy, .int .i64 mi, .slice A n cap, .int .i64 e1, .int .i64 n1, .int .i64 fe, .int .i64 fn, .int .i64 fu, .int .i64 ho, .int .i64 ha, .int .i64 ne, .int .i64 lo, .int .i64 hi, .bool up, .int .i64 st] 40 (0, 0)) ∧ Below w.heap.size w wr ∧ SOwn encNum wr w.heap.size 3 (some ⟨w.heap.size + 1, 0, none⟩) 0 []) (fun _ _ _ => 0)
  case atStart => exact ⟨rfl, rfl, hP0, hB0, hO0⟩
  case round =>
    clear hP0 hB0 hO0 hA0
    obtain ⟨rfl, rfl, hP, hB, hO⟩ := hrel
    go_wp2_with (refine wpList_load_rowG (by kernel_rfl) 40 _ rfl _ rfl _ _ (0, 0) _ hP Tryz.underlying40 rfl (by kernel_rfl) ?_)
    refine (sSV10_is la dy mi e1 n1 fe fn fu ho ha ne lo hi st up A cap xs _ HN.out (h0.next hB) hl HB.out).mono ?_; rintro E w1 ⟨rfl, hw1⟩
    have hO := hO.next hw1
    have hB := bel_next hB hw1
    go_wp2_with fail
    refine (sInE_is _ HQ.out).mono ?_; rintro E w' ⟨rfl, rfl⟩
    go_wp2_with fail
    go_ret
    exact ⟨_, _, rfl, hO, hB⟩
set_option maxRecDepth 100000 in
set_option maxHeartbeats 4000000 in
theorem sSLs_yes (la dy mi e1 n1 fe fn fu ho ha ne lo hi st : Int) (up : Bool) (A : Option Addr) (cap : Nat) (xs : List VBlock) {M : Nat} {l : List Int} {n : Nat} (w : World) (hn : xs.length = n) (h : SRow encBlock w A xs) (hl : n ≤ 2000000) (hM : M ≤ 96) (hb : siB la dy mi e1 n1 fe fn fu ho ha ne lo hi st xs = true) (hl0 : tkL la e1 n1 fe fn fu ho ne lo hi xs M (dy, mi, ha, up, st) = l) :
    Calls Tryz.prog 17 #[.agg #[.int .i64 la, .int .i64 dy, .int .i64 mi, .slice A n cap, .int .i64 e1, .int .i64 n1, .int .i64 fe, .int .i64 fn, .int .i64 fu, .int .i64 ho, .int .i64 ha, .int .i64 ne, .int .i64 lo, .int .i64 hi, .bool up, .int .i64 st], .int .i64 M] w (IntsB l w) := by
  obtain ⟨i0, hi0, hz0, hz1, hz2⟩ := info_parts infoNum
  have HI := Lib.hid (And.intro hi0 (And.intro hz0 (And.intro hz1 hz2)))
  clear hi0 hz0 hz1 hz2
  have hv : tkV la e1 n1 fe fn fu ho ne lo hi xs (dy, mi, ha, up, st) := hb
  have HV := Lib.hid (fun k => tkV_all hv k)
  have hq : inV (M : Int) 0 96 = true := by simp only [inV, decide_eq_true_eq]; omega
  have HQ := Lib.hid hq
  have HM := Lib.hid hM
  have HL0 := Lib.hid hl0
  clear hb hq hv hM hl0
  have HN := Lib.hid hn
  have h0 := h
  clear hn h
  have hP0 := blk_old (blk_new w (.cells #[.int .i64 la, .int .i64 dy, .int .i64 mi, .slice A n cap, .int .i64 e1, .int .i64 n1, .int .i64 fe, .int .i64 fn, .int .i64 fu, .int .i64 ho, .int .i64 ha, .int .i64 ne, .int .i64 lo, .int .i64 hi, .bool up, .int .i64 st] 40 (0, 0))) (.cells #[] 3)
  have hsz : (w.alloc (.cells #[.int .i64 la, .int .i64 dy, .int .i64 mi, .slice A n cap, .int .i64 e1, .int .i64 n1, .int .i64 fe, .int .i64 fn, .int .i64 fu, .int .i64 ho, .int .i64 ha, .int .i64 ne, .int .i64 lo, .int .i64 hi, .bool up, .int .i64 st] 40 (0, 0))).heap.size = w.heap.size + 1 := by simp
  have hO0 := SOwn.empty (E := encNum) (base := w.heap.size) (blk_new (w.alloc (.cells #[.int .i64 la, .int .i64 dy, .int .i64 mi, .slice A n cap, .int .i64 e1, .int .i64 n1, .int .i64 fe, .int .i64 fn, .int .i64 fu, .int .i64 ho, .int .i64 ha, .int .i64 ne, .int .i64 lo, .int .i64 hi, .bool up, .int .i64 st] 40 (0, 0))) (.cells #[] 3)) (by rw [hsz]; omega)
  rw [hsz] at hO0
  have hB0 := bel2 w (.cells #[.int .i64 la, .int .i64 dy, .int .i64 mi, .slice A n cap, .int .i64 e1, .int .i64 n1, .int .i64 fe, .int .i64 fn, .int .i64 fu, .int .i64 ho, .int .i64 ha, .int .i64 ne, .int .i64 lo, .int .i64 hi, .bool up, .int .i64 st] 40 (0, 0)) (.cells #[] 3)
  have hA0 := h0.next hB0
  generalize hwa : (w.alloc (.cells #[.int .i64 la, .int .i64 dy, .int .i64 mi, .slice A n cap, .int .i64 e1, .int .i64 n1, .int .i64 fe, .int .i64 fn, .int .i64 fu, .int .i64 ho, .int .i64 ha, .int .i64 ne, .int .i64 lo, .int .i64 hi, .bool up, .int .i64 st] 40 (0, 0))).alloc (.cells #[] 3) = wa at hP0 hO0 hB0 hA0
  go_enter Tryz.func17, Tryz.ntmps17
  go_wp2_with fail
  go_loopw [5, 6] (fun lv kv wr => ∃ (k : Nat) (d m a t : Int) (u : Bool) (A2 : Option Addr) (cp2 : Nat) (V : Option Addr) (cv : Nat) (ls : List Int), lv = .slice V k cv ∧ kv = .int .i64 k ∧ k ≤ M ∧ Hid (tkN la e1 n1 fe fn fu ho ne lo hi xs k (dy, mi, ha, up, st) = (d, m, a, u, t)) ∧ Hid (tkL la e1 n1 fe fn fu ho ne lo hi xs k (dy, mi, ha, up, st) = ls) ∧ Hid (ls.length = k) ∧ wr.heap[w.heap.size]? = some (.cells #[.int .i64 la, .int .i64 d, .int .i64 m, .slice A2 n cp2, .int .i64 e1, .int .i64 n1, .int .i64 fe, .int .i64 fn, .int .i64 fu, .int .i64 ho, .int .i64 a, .int .i64 ne, .int .i64 lo, .int .i64 hi, .bool u, .int .i64 t] 40 (0, 0)) ∧ SRow encBlock wr A2 xs ∧ Below w.heap.size w wr ∧ SOwn encNum wr w.heap.size 3 V cv ls) (fun _ kv _ => (M - intOf kv).toNat)
  case atStart => exact ⟨0, dy, mi, ha, st, up, A, cap, some ⟨w.heap.size + 1, 0, none⟩, 0, [], rfl, rfl, by omega, (by show _ = _; rfl), (by show _ = _; rfl), (by show _ = _; rfl), hP0, hA0, hB0, hO0⟩
  case round =>
    clear hP0 hA0 hB0 hO0
    obtain ⟨k, d, m, a, t, u, A2, cp2, V, cv, ls, rfl, rfl, hk, HS, HLs, HLl, hP, hA, hB, hO⟩ := hrel
    have hM9 := HM.out
    by_cases hlt : k < M
    · have hlt2 : (k : Int) < (M : Int) := by omega
      obtain ⟨⟨d9, m9, a9, u9, t9⟩, hs9⟩ : ∃ s, tk1 la e1 n1 fe fn fu ho ne lo hi xs (d, m, a, u, t) = s := ⟨_, rfl⟩
      have HS9 := Lib.hid hs9
      have HVk := HV.out k
      rw [HS.out] at HVk
      have HVK := Lib.hid (show siB la d m e1 n1 fe fn fu ho a ne lo hi t xs = true from HVk)
      have HT9 := Lib.hid (siT_yes (M := 1) (up := u) HVk (by omega) hs9)
      have hv9 := siB_tick HVk HS9.out
      obtain ⟨x, hx⟩ : ∃ x, lxI la e1 n1 xs d9 m9 = x := ⟨_, rfl⟩
      have HX := Lib.hid hx
      have HXL := Lib.hid ((lgI_yes hv9).trans hx)
      clear hx hs9 HVk hv9
      have hk9 : tkN la e1 n1 fe fn fu ho ne lo hi xs (k + 1) (dy, mi, ha, up, st) = (d9, m9, a9, u9, t9) := by show tk1 _ _ _ _ _ _ _ _ _ _ _ (tkN la e1 n1 fe fn fu ho ne lo hi xs k _) = _; rw [HS.out]; exact HS9.out
      have HK9 := Lib.hid hk9
      clear hk9
      go_wp2_with (refine wpList_load_rowG (by kernel_rfl) 40 _ rfl _ rfl _ _ (0, 0) _ hP Tryz.underlying40 rfl (by kernel_rfl) ?_)
      refine (sSV10_is la d m e1 n1 fe fn fu ho a ne lo hi t u A2 cp2 xs _ HN.out hA hl HVK.out).mono ?_; rintro E w1 ⟨rfl, hw1⟩
      have hP1 := blk_next hP hw1
      have hA1 := hA.next hw1
      have hB1 := bel_next hB hw1
      have hO1 := hO.next hw1
      go_wp2_with fail
      refine (sInE_is _ HQ.out).mono ?_; rintro E w' ⟨rfl, rfl⟩
      go_wp2_with (refine wpList_load_row rfl 40 _ rfl _ rfl _ _ (0, 0) _ hP1 Tryz.underlying40 rfl (by kernel_rfl) ?_)
      refine (sST_is la d m e1 n1 fe fn fu ho a ne lo hi t u A2 cp2 xs _ HN.out hA1 hl HT9.out).mono ?_; rintro E w5 ⟨A3, cp3, rfl, hR5, hw5⟩
      rw [HN.out]
      have hP5 := blk_next hP1 hw5
      have hB5 := bel_next hB1 hw5
      have hO5 := hO1.next hw5
      have hR5 := SOwn.mono (base' := w.heap.size) hR5 hB1.size
      clear hP hA hB hO hP1 hA1 hB1 hO1
      have hP7 : (w5.setRow w.heap.size #[.int .i64 la, .int .i64 d9, .int .i64 m9, .slice A3 n cp3, .int .i64 e1, .int .i64 n1, .int .i64 fe, .int .i64 fn, .int .i64 fu, .int .i64 ho, .int .i64 a9, .int .i64 ne, .int .i64 lo, .int .i64 hi, .bool u9, .int .i64 t9]).heap[w.heap.size]? = some (.cells #[.int .i64 la, .int .i64 d9, .int .i64 m9, .slice A3 n cp3, .int .i64 e1, .int .i64 n1, .int .i64 fe, .int .i64 fn, .int .i64 fu, .int .i64 ho, .int .i64 a9, .int .i64 ne, .int .i64 lo, .int .i64 hi, .bool u9, .int .i64 t9] 40 (0, 0)) := setRow_heap _ _ _ _ _ _ hP5
      have hG7 := setRow_grownE w5 w.heap.size #[.int .i64 la, .int .i64 d9, .int .i64 m9, .slice A3 n cp3, .int .i64 e1, .int .i64 n1, .int .i64 fe, .int .i64 fn, .int .i64 fu, .int .i64 ho, .int .i64 a9, .int .i64 ne, .int .i64 lo, .int .i64 hi, .bool u9, .int .i64 t9]
      have hB7 := hB5.grown hG7 hB5.size (fun j hj => by cases hj; exact Nat.le_refl _)
      have hR7 := hR5.grown_far hG7 (fun g hg e => by have := SOwn.ne_typeE (n := 0) hR5 hP5 (by decide); rw [hg] at this; simp [Value.ownBlock] at this e; exact this e.symm)
      have hO7 := hO5.grown_far hG7 (fun g hg e => by have := SOwn.ne_typeE (n := 0) hO5 hP5 (by decide); rw [hg] at this; simp [Value.ownBlock] at this e; exact this e.symm)
      go_wp2_with (first | (refine wpList_store_row rfl 40 (.tmp 2) (.tmp 22) rfl w.heap.size _ rfl rfl 40 _ hP5 (by kernel_rfl) (by kernel_rfl) (by kernel_rfl) ?_) | (refine wpList_load_row rfl 40 _ rfl _ rfl _ _ (0, 0) _ hP7 Tryz.underlying40 rfl (by kernel_rfl) ?_))
      clear hG7 hR5 hO5 hB5 hP5
      generalize w5.setRow w.heap.size #[.int .i64 la, .int .i64 d9, .int .i64 m9, .slice A3 n cp3, .int .i64 e1, .int .i64 n1, .int .i64 fe, .int .i64 fn, .int .i64 fu, .int .i64 ho, .int .i64 a9, .int .i64 ne, .int .i64 lo, .int .i64 hi, .bool u9, .int .i64 t9] = w7 at hP7 hB7 hR7 hO7 ⊢
      refine (sSL_is la d9 m9 e1 n1 fe fn fu ho a9 ne lo hi t9 u9 A3 cp3 xs _ HN.out hR7.row hl HXL.out).mono ?_; rintro E w8 ⟨rfl, hw8⟩
      have hP8 := blk_old (blk_next hP7 hw8) (.cells (encNum.enc (x)).toArray 3)
      have hR8 := (hR7.next hw8).alloc (.cells (encNum.enc (x)).toArray 3)
      have hOa := (hO7.next hw8).alloc (.cells (encNum.enc (x)).toArray 3)
      have hB8 := bel_next hB7 hw8
      have hz8 := hB8.size
      have hB9 := hB8.alloc hB8.size (.cells (encNum.enc (x)).toArray 3)
      go_wp2_with (at_builtin; refine wpList_append_lies _ rfl (.tmp 23) (.tmp 26) _ rfl w.heap.size 3 i0 _ 1 8 Tryz.underlying48 HI.out.1 HI.out.2.1 HI.out.2.2.1 HI.out.2.2.2 rfl (by omega) (.slice V k cv) k (encNum.flat ls) rfl (by unfold SOwn at hOa; rw [HLl.out] at hOa; exact hOa) ⟨w8.heap.size, 0, none⟩ 1 1 (encNum.enc (x)) rfl rfl (new_enc (E := encNum) w8 (x) _) (encNum.one _) (by omega) (by simp only [maxLen]; omega) (by omega) (by simp; omega) _ rfl ?_; intro g5 cap5 wz hown5 hgr5 hat5 hlt5)
      have hPz := blk_grownE hP8 hgr5 (SOwn.ne_typeE hOa hP8 (by decide))
      have hBz := hB9.grown hgr5 hB9.size (fun j hj => own_geE hOa j hj)
      have hRz := hR8.grown_far hgr5 (fun g hg e => own_neE hOa hR8 (by decide) g hg e)
      have hOz := SOwn.snoc (E := encNum) (xs := ls) (x := x) (by rw [HLl.out]; exact hown5)
      go_wp2_with fail
      go_roundw
      case rel => exact ⟨k + 1, d9, m9, a9, t9, u9, A3, cp3, some ⟨g5, 0, none⟩, cap5, ls ++ [x], rfl, by go_num, by omega, HK9, (by show tkL la e1 n1 fe fn fu ho ne lo hi xs k _ ++ [lxI la e1 n1 xs (tkN la e1 n1 fe fn fu ho ne lo hi xs (k + 1) (dy, mi, ha, up, st)).1 (tkN la e1 n1 fe fn fu ho ne lo hi xs (k + 1) (dy, mi, ha, up, st)).2.1] = _; rw [HLs.out, HK9.out, HX.out]), (by show _ = _; rw [List.length_append, HLl.out]; rfl), hPz, hRz.row, hBz, hOz⟩
      case measure => simp [intOf]; omega
    · obtain rfl : k = M := by omega
      have hlt2 : ¬ (k : Int) < (k : Int) := by omega
      have h9 := HLs.out
      rw [HL0.out] at h9
      subst h9
      go_wp2_with fail
      go_ret
      exact ⟨V, cv, by rw [HLl.out]; rfl, hO, hB⟩
theorem sSLs_is (la dy mi e1 n1 fe fn fu ho ha ne lo hi st : Int) (up : Bool) (A : Option Addr) (cap : Nat) (xs : List VBlock) {many : Int} {l : List Int} {n : Nat} (w : World) (hn : xs.length = n) (h : SRow encBlock w A xs) (hl : n ≤ 2000000) (hr : siL la dy mi e1 n1 fe fn fu ho ha ne lo hi st up xs many = l) : Calls Tryz.prog 17 #[.agg #[.int .i64 la, .int .i64 dy, .int .i64 mi, .slice A n cap, .int .i64 e1, .int .i64 n1, .int .i64 fe, .int .i64 fn, .int .i64 fu, .int .i64 ho, .int .i64 ha, .int .i64 ne, .int .i64 lo, .int .i64 hi, .bool up, .int .i64 st], .int .i64 many] w (IntsB l w) := by
  by_cases h9 : many ≤ 0
  · have e : l = [] := by
      rw [← hr]; unfold siL
      split
      · rw [show many.toNat = 0 by omega]; rfl
      · rfl
    subst e
    exact sSLs_bad0 la dy mi e1 n1 fe fn fu ho ha ne lo hi st up A cap xs w hn h hl h9
  · cases hb : siB la dy mi e1 n1 fe fn fu ho ha ne lo hi st xs
    · rw [siL_no (.inl hb)] at hr
      subst hr
      exact sSLs_bad1 la dy mi e1 n1 fe fn fu ho ha ne lo hi st up A cap xs w hn h hl (by omega) hb
    · cases hq : inV many 0 96
      · rw [siL_no (.inr hq)] at hr
        subst hr
        exact sSLs_bad2 la dy mi e1 n1 fe fn fu ho ha ne lo hi st up A cap xs w hn h hl (by omega) hb hq
      · simp only [inV, decide_eq_true_eq] at hq
        obtain ⟨M, rfl⟩ : ∃ M : Nat, many = (M : Int) := ⟨many.toNat, by omega⟩
        rw [siL_yes hb (by omega)] at hr
        exact sSLs_yes la dy mi e1 n1 fe fn fu ho ha ne lo hi st up A cap xs w hn h hl (by omega) hb hr
end Go.Proofs.YtigndpajpofofaaGreat
