/- Contracts of chapter 9: water. -/
import Derived.Test.YtoeblgfaemhbjaaQa
import Derived.Test.YtoeblgfaemhbjaaGBool
import Derived.Laws.AppendOwn
namespace Go.Proofs.Ytoeblgfaemhbjaa
open Go Go.ChangeShapes Go.WideShapes Go.ChangeAt Go.RowKit
set_option linter.unusedSimpArgs false
set_option linter.unusedVariables false

def RunRet9 (l : List Int) (c : Int) (w : World) (e : Ending) (w' : World) : Prop := ∃ (A : Option Addr) (cap : Nat), e = .returned (.tuple #[.slice A l.length cap, .int .i64 c]) ∧ SOwn encNum w' w.heap.size 3 A cap l ∧ Below w.heap.size w w'
theorem ret_run9 {A : Option Addr} {n m c : Nat} {a b : Int} (h : n = m) (h2 : a = b) : Ending.returned (.tuple #[.slice A n c, .int .i64 a]) = .returned (.tuple #[.slice A m c, .int .i64 b]) := by rw [h, h2]
set_option maxHeartbeats 4000000 in
theorem iWv_is (A : Option Addr) (cap : Nat) (ts : List Int) {n : Nat} {wet full : Int} {r : Bool} (w : World) (hn : ts.length = n) (h : SRow encNum w A ts) (hl : n ≤ 2000000) (hr : wtB wet full ts = r) :
    Calls Try.prog 55 #[.int .i64 wet, .int .i64 full, .slice A n cap] w fun E w' => E = .returned (.bool r) ∧ Below w.heap.size w w' := by
  subst hr
  cases hw : inV wet 0 50
  · have e : wtB wet full ts = false := by unfold wtB; rw [hw]; rfl
    rw [e]
    have HW := Lib.hid hw
    clear hw e hn
    go_enter Try.func55, Try.ntmps55
    go_wp2_with fail
    refine (iIn7_is _ HW.out).mono ?_; rintro E w' ⟨rfl, rfl⟩
    go_wp2
    go_ret
    exact ⟨rfl, Below.refl _ _⟩
  · cases hf : inV full 16 50
    · have e : wtB wet full ts = false := by unfold wtB; rw [hw, hf]; rfl
      rw [e]
      have HW := Lib.hid hw
      have HF := Lib.hid hf
      clear hw hf e hn
      go_enter Try.func55, Try.ntmps55
      go_wp2_with fail
      refine (iIn7_is _ HW.out).mono ?_; rintro E w' ⟨rfl, rfl⟩
      go_wp2_with fail
      refine (iIn7_is _ HF.out).mono ?_; rintro E w' ⟨rfl, rfl⟩
      go_wp2
      go_ret
      exact ⟨rfl, Below.refl _ _⟩
    · obtain ⟨v, hv⟩ : ∃ v, ts.all snV = v := ⟨_, rfl⟩
      have e : wtB wet full ts = v := by unfold wtB; rw [hw, hf, hv]; rfl
      rw [e]
      have HW := Lib.hid hw
      have HF := Lib.hid hf
      have HV := Lib.hid hv
      have HN := Lib.hid hn
      clear hw hf hv e hn
      go_enter Try.func55, Try.ntmps55
      go_wp2_with fail
      refine (iIn7_is _ HW.out).mono ?_; rintro E w' ⟨rfl, rfl⟩
      go_wp2_with fail
      refine (iIn7_is _ HF.out).mono ?_; rintro E w' ⟨rfl, rfl⟩
      go_wp2_with fail
      refine (iAllNum9 A cap ts _ HN.out h hl HV.out).mono ?_; rintro E w1 ⟨rfl, hw1⟩
      go_wp2
      go_ret
      exact ⟨rfl, hw1⟩
set_option maxRecDepth 100000 in
set_option maxHeartbeats 4000000 in
theorem iWr_is (A : Option Addr) (cap : Nat) (ts : List Int) {n : Nat} {wet full c9 : Int} {l : List Int} (w : World) (hn : ts.length = n) (h : SRow encNum w A ts) (hl : n ≤ 2000000) (hr : wrL wet full ts = l) (hr2 : wrC wet full ts = c9) :
    Calls Try.prog 23 #[.int .i64 wet, .int .i64 full, .slice A n cap] w fun E w' => RunRet9 l c9 w E w' := by
  obtain ⟨i0, hi0, hz0, hz1, hz2⟩ := info_parts infoNum
  have HI := Lib.hid (And.intro hi0 (And.intro hz0 (And.intro hz1 hz2)))
  clear hi0 hz0 hz1 hz2
  cases hb9 : wtB wet full ts
  · have hno := wr_no hb9
    rw [hno.1] at hr
    rw [hno.2] at hr2
    subst hr
    subst hr2
    have HB := Lib.hid hb9
    have HN := Lib.hid hn
    clear hb9 hno hn
    go_enter Try.func23, Try.ntmps23
    go_wp2_with fail
    refine (iWv_is A cap ts _ HN.out h hl HB.out).mono ?_; rintro E w1 ⟨rfl, hw1⟩
    go_wp2
    go_ret2
    exact ⟨none, 0, rfl, SOwn.nil _ _ _, hw1⟩
  · have hyes := wr_yes hb9
    rw [hyes.1] at hr
    rw [hyes.2] at hr2
    obtain ⟨hw9, hf9, ha9⟩ := wtB_iff.1 hb9
    obtain ⟨w0, w1_⟩ := inV_iff.1 hw9
    obtain ⟨f0, f1⟩ := inV_iff.1 hf9
    have HT9 : Hid (∀ t ∈ ts, 0 ≤ t ∧ t ≤ 16) := Lib.hid (fun t ht => snV_iff.1 (List.all_eq_true.1 ha9 t ht))
    have HR := Lib.hid hr
    have HR2 := Lib.hid hr2
    have HN := Lib.hid hn
    have HB := Lib.hid hb9
    clear hb9 hyes hw9 hf9 ha9 hr hr2 hn
    go_enter Try.func23, Try.ntmps23
    go_wp2_with fail
    refine (iWv_is A cap ts _ HN.out h hl HB.out).mono ?_; rintro E w1 ⟨rfl, hw1⟩
    go_wp2_with fail
    go_loopw [0, 8, 9, 19] (fun av rv nv iv wr => ∃ (k m cv : Nat) (V : Option Addr) (us : List Int) (a c : Int), k ≤ n ∧ m = k ∧ iv = .int .i64 k ∧ rv = .slice V m cv ∧ av = .int .i64 a ∧ nv = .int .i64 c ∧ 0 ≤ a ∧ a ≤ 50 ∧ 0 ≤ c ∧ c ≤ k ∧ Hid (us.length = m) ∧ Hid (us ++ wtR full a (ts.drop k) = l) ∧ Hid (c + wtC full a (ts.drop k) = c9) ∧ SOwn encNum wr w.heap.size 3 V cv us ∧ Below w.heap.size w wr) (fun _ _ _ iv _ => (n - intOf iv).toNat)
    case atStart => exact ⟨0, 0, 0, none, [], wet, 0, by omega, rfl, rfl, rfl, rfl, rfl, w0, w1_, by omega, by omega, (by show _ = _; rfl), Lib.hid (by rw [List.drop_zero]; exact HR.out), Lib.hid (by rw [List.drop_zero, HR2.out]; omega), SOwn.nil _ _ _, hw1⟩
    case round =>
      obtain ⟨k, m, cv, V, us, a, c, k1, mk, rfl, rfl, rfl, rfl, a0, a1, c1, c2, HM, HU, HC, hO, hB⟩ := hrel
      have MK := Lib.hid mk
      have hm9 : m ≤ 2000000 := by omega
      by_cases hlt : k < n
      · clear mk
        have hk : k < ts.length := by rw [HN.out]; exact hlt
        have hki : (k : Int) < (n : Int) := by omega
        obtain ⟨b, off, rfl, hb, c0⟩ := rowNum (h.next hB) hk
        have hx := HT9.out ts[k] (List.getElem_mem hk)
        have D1 : Hid (a < ts[k] → wtR full a (ts.drop k) = (full - ts[k]) :: wtR full (full - ts[k]) (ts.drop (k + 1))) := Lib.hid (wtR_dry hk)
        have D2 : Hid (a < ts[k] → wtC full a (ts.drop k) = 1 + wtC full (full - ts[k]) (ts.drop (k + 1))) := Lib.hid (wtC_dry hk)
        have D3 : Hid (¬ a < ts[k] → wtR full a (ts.drop k) = (a - ts[k]) :: wtR full (a - ts[k]) (ts.drop (k + 1))) := Lib.hid (wtR_wet hk)
        have D4 : Hid (¬ a < ts[k] → wtC full a (ts.drop k) = wtC full (a - ts[k]) (ts.drop (k + 1))) := Lib.hid (wtC_wet hk)
        generalize ts[k] = x at c0 hx D1 D2 D3 D4
        obtain ⟨x0, x1⟩ := hx
        by_cases hd : a < x
        · have HL2 : Hid ((us ++ [full - x]) ++ wtR full (full - x) (ts.drop (k + 1)) = l) := Lib.hid (by rw [← HU.out, D1.out hd]; simp)
          have HC2 : Hid ((c + 1) + wtC full (full - x) (ts.drop (k + 1)) = c9) := Lib.hid (by rw [← HC.out, D2.out hd]; omega)
          clear D1 D2 D3 D4
          have hcp := hB.size
          have hOa := hO.alloc (.cells (encNum.enc (full - x)).toArray 3)
          go_wp2_with (at_builtin; refine wpList_append_lies _ rfl (.tmp 32) (.tmp 34) _ rfl w.heap.size 3 i0 _ 1 8 Try.underlying23 HI.out.1 HI.out.2.1 HI.out.2.2.1 HI.out.2.2.2 rfl (by omega) (.slice V m cv) m (encNum.flat us) rfl (by unfold SOwn at hOa; rw [HM.out] at hOa; exact hOa) ⟨wr.heap.size, 0, none⟩ 1 1 (encNum.enc (full - x)) rfl rfl (new_enc (E := encNum) wr (full - x) _) (encNum.one _) (by omega) (by simp only [maxLen]; omega) (by omega) (by simp; omega) _ rfl ?_; intro g5 cap5 w5 hown5 hgr5 hat5 hlt5)
          have hB5 := SOwn.below_grown (n := m) (hOa) (hB.alloc hB.size _) hgr5
          have hsn := SOwn.snoc (E := encNum) (xs := us) (x := full - x) (by rw [HM.out]; exact hown5)
          go_wp2_with fail
          go_roundw
          case rel =>
            exact ⟨k + 1, m + 1, cap5, some ⟨g5, 0, none⟩, us ++ [full - x], full - x, c + 1, by omega, by rw [MK.out], by go_num, rfl, rfl, by go_num, by omega, by omega, by omega, by omega, Lib.hid (by rw [List.length_append, HM.out]; rfl), HL2, HC2, hsn, hB5⟩
          case measure => simp [intOf]; omega
        · have HL2 : Hid ((us ++ [a - x]) ++ wtR full (a - x) (ts.drop (k + 1)) = l) := Lib.hid (by rw [← HU.out, D3.out hd]; simp)
          have HC2 : Hid (c + wtC full (a - x) (ts.drop (k + 1)) = c9) := Lib.hid (by rw [← HC.out, D4.out hd])
          clear D1 D2 D3 D4
          have hcp := hB.size
          have hOa := hO.alloc (.cells (encNum.enc (a - x)).toArray 3)
          go_wp2_with (at_builtin; refine wpList_append_lies _ rfl (.tmp 32) (.tmp 34) _ rfl w.heap.size 3 i0 _ 1 8 Try.underlying23 HI.out.1 HI.out.2.1 HI.out.2.2.1 HI.out.2.2.2 rfl (by omega) (.slice V m cv) m (encNum.flat us) rfl (by unfold SOwn at hOa; rw [HM.out] at hOa; exact hOa) ⟨wr.heap.size, 0, none⟩ 1 1 (encNum.enc (a - x)) rfl rfl (new_enc (E := encNum) wr (a - x) _) (encNum.one _) (by omega) (by simp only [maxLen]; omega) (by omega) (by simp; omega) _ rfl ?_; intro g5 cap5 w5 hown5 hgr5 hat5 hlt5)
          have hB5 := SOwn.below_grown (n := m) (hOa) (hB.alloc hB.size _) hgr5
          have hsn := SOwn.snoc (E := encNum) (xs := us) (x := a - x) (by rw [HM.out]; exact hown5)
          go_wp2_with fail
          go_roundw
          case rel =>
            exact ⟨k + 1, m + 1, cap5, some ⟨g5, 0, none⟩, us ++ [a - x], a - x, c, by omega, by rw [MK.out], by go_num, rfl, rfl, rfl, by omega, by omega, by omega, by omega, Lib.hid (by rw [List.length_append, HM.out]; rfl), HL2, HC2, hsn, hB5⟩
          case measure => simp [intOf]; omega
      · obtain rfl : k = n := by omega
        have hki : ¬ (k : Int) < (k : Int) := by omega
        have hdn : ts.drop k = [] := List.drop_eq_nil_of_le (by rw [HN.out]; omega)
        have HL9 : Hid (us = l) := Lib.hid (by have := HU.out; rw [hdn] at this; simpa [wtR] using this)
        have HC9 : Hid (c = c9) := Lib.hid (by have := HC.out; rw [hdn] at this; simpa [wtC] using this)
        clear hdn mk
        go_wp2_with fail
        go_ret2
        exact ⟨V, cv, ret_run9 (by rw [← HL9.out, HM.out]) HC9.out, by rw [← HL9.out]; exact hO, hB⟩
set_option maxRecDepth 100000 in
set_option maxHeartbeats 4000000 in
theorem sWr_is (A : Option Addr) (cap : Nat) (ts : List Int) {n : Nat} {wet full c9 : Int} {l : List Int} (w : World) (hn : ts.length = n) (h : SRow encNum w A ts) (hl : n ≤ 2000000) (hr : wrL wet full ts = l) (hr2 : wrC wet full ts = c9) :
    Calls Try.prog 24 #[.int .i64 wet, .int .i64 full, .slice A n cap] w fun E w' => RunRet9 l c9 w E w' := by
  obtain ⟨i0, hi0, hz0, hz1, hz2⟩ := info_parts infoNum
  have HI := Lib.hid (And.intro hi0 (And.intro hz0 (And.intro hz1 hz2)))
  clear hi0 hz0 hz1 hz2
  cases hw9 : inV wet 0 50
  · have hb9 : wtB wet full ts = false := by unfold wtB; rw [hw9]; rfl
    have hno := wr_no hb9
    rw [hno.1] at hr
    rw [hno.2] at hr2
    subst hr
    subst hr2
    clear hb9 hno
    have HW := Lib.hid hw9
    clear hw9 hn
    go_enter Try.func24, Try.ntmps24
    go_wp2_with fail
    refine (sIn7_is _ HW.out).mono ?_; rintro E w' ⟨rfl, rfl⟩
    go_wp2
    go_ret2
    exact ⟨_, 0, rfl, SOwn.empty (blk_new w _) (Nat.le_refl _), bel1 _ _⟩
  · cases hf9 : inV full 16 50
    · have hb9 : wtB wet full ts = false := by unfold wtB; rw [hw9, hf9]; rfl
      have hno := wr_no hb9
      rw [hno.1] at hr
      rw [hno.2] at hr2
      subst hr
      subst hr2
      clear hb9 hno
      have HW := Lib.hid hw9
      have HF := Lib.hid hf9
      clear hw9 hf9 hn
      go_enter Try.func24, Try.ntmps24
      go_wp2_with fail
      refine (sIn7_is _ HW.out).mono ?_; rintro E w' ⟨rfl, rfl⟩
      go_wp2_with fail
      refine (sIn7_is _ HF.out).mono ?_; rintro E w' ⟨rfl, rfl⟩
      go_wp2
      go_ret2
      exact ⟨_, 0, rfl, SOwn.empty (blk_new w _) (Nat.le_refl _), bel1 _ _⟩
    · obtain ⟨w0, w1_⟩ := inV_iff.1 hw9
      obtain ⟨f0, f1⟩ := inV_iff.1 hf9
      have HY : Hid (ts.all snV = true → wtR full wet ts = l ∧ wtC full wet ts = c9) := Lib.hid (fun e => by have hb9 : wtB wet full ts = true := wtB_iff.2 ⟨hw9, hf9, e⟩; exact ⟨(wr_yes hb9).1.symm.trans hr, (wr_yes hb9).2.symm.trans hr2⟩)
      have HZ : Hid (ts.all snV = false → l = [] ∧ c9 = 0) := Lib.hid (fun e => by have hb9 : wtB wet full ts = false := (by unfold wtB; rw [e]; simp); exact ⟨hr.symm.trans (wr_no hb9).1, hr2.symm.trans (wr_no hb9).2⟩)
      have HW := Lib.hid hw9
      have HF := Lib.hid hf9
      have HN := Lib.hid hn
      clear hw9 hf9 hn hr hr2
      go_enter Try.func24, Try.ntmps24
      go_wp2_with fail
      refine (sIn7_is _ HW.out).mono ?_; rintro E w' ⟨rfl, rfl⟩
      go_wp2_with fail
      refine (sIn7_is _ HF.out).mono ?_; rintro E w' ⟨rfl, rfl⟩
      go_wp2_with fail
      go_loopw [0, 8, 9, 10] (fun av rv nv iv wr => ∃ (k m cv : Nat) (V : Option Addr) (us : List Int) (a c : Int), k ≤ n ∧ m = k ∧ iv = .int .i64 k ∧ rv = .slice V m cv ∧ av = .int .i64 a ∧ nv = .int .i64 c ∧ 0 ≤ a ∧ a ≤ 50 ∧ 0 ≤ c ∧ c ≤ k ∧ Hid (us.length = m) ∧ Hid ((ts.take k).all snV = true) ∧ Hid (us ++ wtR full a (ts.drop k) = wtR full wet ts) ∧ Hid (c + wtC full a (ts.drop k) = wtC full wet ts) ∧ SOwn encNum wr w.heap.size 3 V cv us ∧ Below w.heap.size w wr) (fun _ _ _ iv _ => (n - intOf iv).toNat)
      case atStart => exact ⟨0, 0, 0, _, [], wet, 0, by omega, rfl, rfl, rfl, rfl, rfl, w0, w1_, by omega, by omega, (by show _ = _; rfl), (by show _ = _; rfl), Lib.hid (by rw [List.drop_zero]; rfl), Lib.hid (by rw [List.drop_zero]; omega), SOwn.empty (blk_new w _) (Nat.le_refl _), bel1 _ _⟩
      case round =>
        obtain ⟨k, m, cv, V, us, a, c, k1, mk, rfl, rfl, rfl, rfl, a0, a1, c1, c2, HM, HA, HU, HC, hO, hB⟩ := hrel
        have MK := Lib.hid mk
        have hm9 : m ≤ 2000000 := by omega
        by_cases hlt : k < n
        · clear mk
          have hk : k < ts.length := by rw [HN.out]; exact hlt
          have hki : (k : Int) < (n : Int) := by omega
          obtain ⟨b, off, rfl, hb, c0⟩ := rowNum (h.next hB) hk
          obtain ⟨v, hv⟩ : ∃ v, snV ts[k] = v := ⟨_, rfl⟩
          have HNo : Hid (snV ts[k] = false → ts.all snV = false) := Lib.hid (al7_no hk)
          have HYes : Hid (snV ts[k] = true → (ts.take (k + 1)).all snV = true) := Lib.hid (al7_step hk HA.out)
          have D1 : Hid (a < ts[k] → wtR full a (ts.drop k) = (full - ts[k]) :: wtR full (full - ts[k]) (ts.drop (k + 1))) := Lib.hid (wtR_dry hk)
          have D2 : Hid (a < ts[k] → wtC full a (ts.drop k) = 1 + wtC full (full - ts[k]) (ts.drop (k + 1))) := Lib.hid (wtC_dry hk)
          have D3 : Hid (¬ a < ts[k] → wtR full a (ts.drop k) = (a - ts[k]) :: wtR full (a - ts[k]) (ts.drop (k + 1))) := Lib.hid (wtR_wet hk)
          have D4 : Hid (¬ a < ts[k] → wtC full a (ts.drop k) = wtC full (a - ts[k]) (ts.drop (k + 1))) := Lib.hid (wtC_wet hk)
          generalize ts[k] = x at c0 hv HNo HYes D1 D2 D3 D4
          have HX : Hid (inV x 0 16 = v) := hv
          cases v
          · have hz := HZ.out (HNo.out hv)
            obtain ⟨rfl, rfl⟩ := hz
            clear hv HNo HYes D1 D2 D3 D4 HY HZ
            go_wp2_with fail
            refine (sIn7_is _ HX.out).mono ?_; rintro E w' ⟨rfl, rfl⟩
            go_wp2
            go_ret2
            exact ⟨_, 0, rfl, SOwn.empty (blk_new wr _) hB.size, hB.alloc hB.size _⟩
          · obtain ⟨x0, x1⟩ := snV_iff.1 hv
            have HA2 := Lib.hid (HYes.out hv)
            clear hv HNo HYes HA
            by_cases hd : a < x
            · have HL2 : Hid ((us ++ [full - x]) ++ wtR full (full - x) (ts.drop (k + 1)) = wtR full wet ts) := Lib.hid (by rw [← HU.out, D1.out hd]; simp)
              have HC2 : Hid ((c + 1) + wtC full (full - x) (ts.drop (k + 1)) = wtC full wet ts) := Lib.hid (by rw [← HC.out, D2.out hd]; omega)
              clear D1 D2 D3 D4
              go_wp2_with fail
              refine (sIn7_is _ HX.out).mono ?_; rintro E w' ⟨rfl, rfl⟩
              have hcp := hB.size
              have hOa := hO.alloc (.cells (encNum.enc (full - x)).toArray 3)
              go_wp2_with (at_builtin; refine wpList_append_lies _ rfl (.tmp 49) (.tmp 51) _ rfl w.heap.size 3 i0 _ 1 8 Try.underlying23 HI.out.1 HI.out.2.1 HI.out.2.2.1 HI.out.2.2.2 rfl (by omega) (.slice V m cv) m (encNum.flat us) rfl (by unfold SOwn at hOa; rw [HM.out] at hOa; exact hOa) ⟨wr.heap.size, 0, none⟩ 1 1 (encNum.enc (full - x)) rfl rfl (new_enc (E := encNum) wr (full - x) _) (encNum.one _) (by omega) (by simp only [maxLen]; omega) (by omega) (by simp; omega) _ rfl ?_; intro g5 cap5 w5 hown5 hgr5 hat5 hlt5)
              have hB5 := SOwn.below_grown (n := m) (hOa) (hB.alloc hB.size _) hgr5
              have hsn := SOwn.snoc (E := encNum) (xs := us) (x := full - x) (by rw [HM.out]; exact hown5)
              go_wp2_with fail
              go_roundw
              case rel =>
                exact ⟨k + 1, m + 1, cap5, some ⟨g5, 0, none⟩, us ++ [full - x], full - x, c + 1, by omega, by rw [MK.out], by go_num, rfl, rfl, by go_num, by omega, by omega, by omega, by omega, Lib.hid (by rw [List.length_append, HM.out]; rfl), HA2, HL2, HC2, hsn, hB5⟩
              case measure => simp [intOf]; omega
            · have HL2 : Hid ((us ++ [a - x]) ++ wtR full (a - x) (ts.drop (k + 1)) = wtR full wet ts) := Lib.hid (by rw [← HU.out, D3.out hd]; simp)
              have HC2 : Hid (c + wtC full (a - x) (ts.drop (k + 1)) = wtC full wet ts) := Lib.hid (by rw [← HC.out, D4.out hd])
              clear D1 D2 D3 D4
              go_wp2_with fail
              refine (sIn7_is _ HX.out).mono ?_; rintro E w' ⟨rfl, rfl⟩
              have hcp := hB.size
              have hOa := hO.alloc (.cells (encNum.enc (a - x)).toArray 3)
              go_wp2_with (at_builtin; refine wpList_append_lies _ rfl (.tmp 49) (.tmp 51) _ rfl w.heap.size 3 i0 _ 1 8 Try.underlying23 HI.out.1 HI.out.2.1 HI.out.2.2.1 HI.out.2.2.2 rfl (by omega) (.slice V m cv) m (encNum.flat us) rfl (by unfold SOwn at hOa; rw [HM.out] at hOa; exact hOa) ⟨wr.heap.size, 0, none⟩ 1 1 (encNum.enc (a - x)) rfl rfl (new_enc (E := encNum) wr (a - x) _) (encNum.one _) (by omega) (by simp only [maxLen]; omega) (by omega) (by simp; omega) _ rfl ?_; intro g5 cap5 w5 hown5 hgr5 hat5 hlt5)
              have hB5 := SOwn.below_grown (n := m) (hOa) (hB.alloc hB.size _) hgr5
              have hsn := SOwn.snoc (E := encNum) (xs := us) (x := a - x) (by rw [HM.out]; exact hown5)
              go_wp2_with fail
              go_roundw
              case rel =>
                exact ⟨k + 1, m + 1, cap5, some ⟨g5, 0, none⟩, us ++ [a - x], a - x, c, by omega, by rw [MK.out], by go_num, rfl, rfl, rfl, by omega, by omega, by omega, by omega, Lib.hid (by rw [List.length_append, HM.out]; rfl), HA2, HL2, HC2, hsn, hB5⟩
              case measure => simp [intOf]; omega
        · obtain rfl : k = n := by omega
          have hki : ¬ (k : Int) < (k : Int) := by omega
          have hdn : ts.drop k = [] := List.drop_eq_nil_of_le (by rw [HN.out]; omega)
          have hall : ts.all snV = true := by have := HA.out; rwa [List.take_of_length_le (by rw [HN.out]; omega)] at this
          obtain ⟨q1, q2⟩ := HY.out hall
          have HL9 : Hid (us = l) := Lib.hid (by have := HU.out; rw [hdn, q1] at this; simpa [wtR] using this)
          have HC9 : Hid (c = c9) := Lib.hid (by have := HC.out; rw [hdn, q2] at this; simpa [wtC] using this)
          clear hdn mk q1 q2 hall HA HU HC
          go_wp2_with fail
          go_ret2
          exact ⟨V, cv, ret_run9 (by rw [← HL9.out, HM.out]) HC9.out, by rw [← HL9.out]; exact hO, hB⟩
set_option maxRecDepth 100000 in
set_option maxHeartbeats 4000000 in
theorem iWo_is (A A2 : Option Addr) (cap cap2 : Nat) (ts : List Int) (ds : List Bool) {n m : Nat} {wet full : Int} {r : Bool} (w : World) (hn : ts.length = n) (hm : ds.length = m) (h : SRow encNum w A ts) (h2 : SRow encBool w A2 ds) (hl : n ≤ 2000000) (hl2 : m ≤ 2000000) (hr : woB wet full ts ds = r) :
    Calls Try.prog 27 #[.int .i64 wet, .int .i64 full, .slice A n cap, .slice A2 m cap2] w fun E w' => E = .returned (.bool r) ∧ Below w.heap.size w w' := by
  subst hr
  cases hb9 : wtB wet full ts
  · have e : woB wet full ts ds = false := by unfold woB; rw [hb9]; rfl
    rw [e]
    have HB := Lib.hid hb9
    have HN := Lib.hid hn
    clear hb9 e hn
    go_enter Try.func27, Try.ntmps27
    go_wp2_with fail
    refine (iWv_is A cap ts _ HN.out h hl HB.out).mono ?_; rintro E w1 ⟨rfl, hw1⟩
    go_wp2
    go_ret
    exact ⟨rfl, hw1⟩
  · by_cases hmn : m = n
    · subst hmn
      obtain ⟨hw9, hf9, ha9⟩ := wtB_iff.1 hb9
      obtain ⟨w0, w1_⟩ := inV_iff.1 hw9
      obtain ⟨f0, f1⟩ := inV_iff.1 hf9
      have HT9 : Hid (∀ t ∈ ts, 0 ≤ t ∧ t ≤ 16) := Lib.hid (fun t ht => snV_iff.1 (List.all_eq_true.1 ha9 t ht))
      have HE : Hid (woB wet full ts ds = woR full wet (ts.zip ds)) := Lib.hid (by unfold woB; rw [hb9, hm, hn]; simp)
      have HB := Lib.hid hb9
      have HN := Lib.hid hn
      have HM := Lib.hid hm
      clear hb9 hw9 hf9 ha9 hn hm
      go_enter Try.func27, Try.ntmps27
      go_wp2_with fail
      refine (iWv_is A cap ts _ HN.out h hl HB.out).mono ?_; rintro E w1 ⟨rfl, hw1⟩
      go_wp2_with fail
      go_loopw [0, 25] (fun av iv wr => ∃ (k : Nat) (a : Int), iv = .int .i64 k ∧ k ≤ m ∧ av = .int .i64 a ∧ 0 ≤ a ∧ a ≤ 50 ∧ Hid (woR full a ((ts.zip ds).drop k) = woR full wet (ts.zip ds)) ∧ Below w.heap.size w wr) (fun _ iv _ => (m - intOf iv).toNat)
      case atStart => exact ⟨0, wet, rfl, by omega, rfl, w0, w1_, Lib.hid (by rw [List.drop_zero]), hw1⟩
      case round =>
        obtain ⟨k, a, rfl, k1, rfl, a0, a1, HR, hB⟩ := hrel
        by_cases hlt : k < m
        · have hk : k < ts.length := by rw [HN.out]; exact hlt
          have hk2 : k < ds.length := by rw [HM.out]; exact hlt
          have hki : (k : Int) < (m : Int) := by omega
          obtain ⟨b, off, rfl, hb, c0⟩ := rowNum (h.next hB) hk
          obtain ⟨b2, off2, rfl, hb2, d0⟩ := rowBool (h2.next hB) hk2
          have D1 : Hid (wdI full a ds[k] < ts[k] → woR full a ((ts.zip ds).drop k) = false) := Lib.hid (woR_dry hk hk2)
          have D2 : Hid (¬ wdI full a ds[k] < ts[k] → woR full a ((ts.zip ds).drop k) = woR full (wdI full a ds[k] - ts[k]) ((ts.zip ds).drop (k + 1))) := Lib.hid (woR_wet hk hk2)
          have hx := HT9.out ts[k] (List.getElem_mem hk)
          generalize ts[k] = x at c0 hx D1 D2
          generalize ds[k] = d at d0 D1 D2
          obtain ⟨x0, x1⟩ := hx
          cases d
          · have hwd : wdI full a false = a := by unfold wdI; rw [if_neg (by decide)]
            rw [hwd] at D1 D2
            clear hwd
            by_cases hd : a < x
            · have HZ : Hid (woR full wet (ts.zip ds) = false) := Lib.hid (by rw [← HR.out, D1.out hd])
              clear D1 D2
              go_wp2
              go_ret
              exact ⟨ret_bool (by rw [HE.out, HZ.out]), hB⟩
            · have HR2 : Hid (woR full (a - x) ((ts.zip ds).drop (k + 1)) = woR full wet (ts.zip ds)) := Lib.hid (by rw [← HR.out, D2.out hd])
              clear D1 D2
              go_wp2_with fail
              go_roundw
              case rel => exact ⟨k + 1, a - x, by go_num, by omega, rfl, by omega, by omega, HR2, hB⟩
              case measure => simp [intOf]; omega
          · by_cases hmx : full ≤ a
            · have hwd : wdI full a true = a := by unfold wdI; rw [if_pos rfl]; omega
              rw [hwd] at D1 D2
              clear hwd
              by_cases hd : a < x
              · exfalso; omega
              · have HR2 : Hid (woR full (a - x) ((ts.zip ds).drop (k + 1)) = woR full wet (ts.zip ds)) := Lib.hid (by rw [← HR.out, D2.out hd])
                clear D1 D2
                go_wp2_with fail
                go_roundw
                case rel => exact ⟨k + 1, a - x, by go_num, by omega, rfl, by omega, by omega, HR2, hB⟩
                case measure => simp [intOf]; omega
            · have hwd : wdI full a true = full := by unfold wdI; rw [if_pos rfl]; omega
              rw [hwd] at D1 D2
              clear hwd
              by_cases hd : full < x
              · exfalso; omega
              · have HR2 : Hid (woR full (full - x) ((ts.zip ds).drop (k + 1)) = woR full wet (ts.zip ds)) := Lib.hid (by rw [← HR.out, D2.out hd])
                clear D1 D2
                go_wp2_with fail
                go_roundw
                case rel => exact ⟨k + 1, full - x, by go_num, by omega, rfl, by omega, by omega, HR2, hB⟩
                case measure => simp [intOf]; omega
        · have hki : ¬ (k : Int) < (m : Int) := by omega
          have HZ : Hid (woR full wet (ts.zip ds) = true) := Lib.hid (by rw [← HR.out, List.drop_eq_nil_of_le (by rw [List.length_zip, HN.out, HM.out]; omega)]; rfl)
          go_wp2_with fail
          go_ret
          exact ⟨ret_bool (by rw [HE.out, HZ.out]), hB⟩
    · have e : woB wet full ts ds = false := by unfold woB; rw [hn, hm, decide_eq_false hmn]; simp
      rw [e]
      have hne : ¬ (m : Int) = (n : Int) := by omega
      have hnb : ((m : Int) != (n : Int)) = true := by rw [bne_iff_ne]; exact hne
      have HB := Lib.hid hb9
      have HN := Lib.hid hn
      clear hb9 e hn hm hmn
      go_enter Try.func27, Try.ntmps27
      go_wp2_with fail
      refine (iWv_is A cap ts _ HN.out h hl HB.out).mono ?_; rintro E w1 ⟨rfl, hw1⟩
      go_wp2
      go_ret
      exact ⟨rfl, hw1⟩
set_option maxRecDepth 100000 in
set_option maxHeartbeats 4000000 in
theorem sWo_is (A A2 : Option Addr) (cap cap2 : Nat) (ts : List Int) (ds : List Bool) {n m : Nat} {wet full : Int} {r : Bool} (w : World) (hn : ts.length = n) (hm : ds.length = m) (h : SRow encNum w A ts) (h2 : SRow encBool w A2 ds) (hl : n ≤ 2000000) (hl2 : m ≤ 2000000) (hr : woB wet full ts ds = r) :
    Calls Try.prog 28 #[.int .i64 wet, .int .i64 full, .slice A n cap, .slice A2 m cap2] w fun E w' => E = .returned (.bool r) ∧ Below w.heap.size w w' := by
  subst hr
  cases hw9 : inV wet 0 50
  · have e : woB wet full ts ds = false := by unfold woB wtB; rw [hw9]; rfl
    rw [e]
    have HW := Lib.hid hw9
    clear hw9 hn hm e
    go_enter Try.func28, Try.ntmps28
    go_wp2_with fail
    refine (sIn7_is _ HW.out).mono ?_; rintro E w' ⟨rfl, rfl⟩
    go_wp2
    go_ret
    exact ⟨rfl, Below.refl _ _⟩
  · cases hf9 : inV full 16 50
    · have e : woB wet full ts ds = false := by unfold woB wtB; rw [hw9, hf9]; rfl
      rw [e]
      have HW := Lib.hid hw9
      have HF := Lib.hid hf9
      clear hw9 hf9 hn hm e
      go_enter Try.func28, Try.ntmps28
      go_wp2_with fail
      refine (sIn7_is _ HW.out).mono ?_; rintro E w' ⟨rfl, rfl⟩
      go_wp2_with fail
      refine (sIn7_is _ HF.out).mono ?_; rintro E w' ⟨rfl, rfl⟩
      go_wp2
      go_ret
      exact ⟨rfl, Below.refl _ _⟩
    · by_cases hmn : m = n
      · subst hmn
        obtain ⟨w0, w1_⟩ := inV_iff.1 hw9
        obtain ⟨f0, f1⟩ := inV_iff.1 hf9
        have HE : Hid (woB wet full ts ds = (ts.all snV && woR full wet (ts.zip ds))) := Lib.hid (woB_eq hw9 hf9 (by rw [hm, hn]))
        have HW := Lib.hid hw9
        have HF := Lib.hid hf9
        have HN := Lib.hid hn
        have HM := Lib.hid hm
        clear hw9 hf9 hn hm
        go_enter Try.func28, Try.ntmps28
        go_wp2_with fail
        refine (sIn7_is _ HW.out).mono ?_; rintro E w' ⟨rfl, rfl⟩
        go_wp2_with fail
        refine (sIn7_is _ HF.out).mono ?_; rintro E w' ⟨rfl, rfl⟩
        go_wp2_with fail
        go_loopw [0, 9] (fun av iv wr => ∃ (k : Nat) (a : Int), iv = .int .i64 k ∧ k ≤ m ∧ av = .int .i64 a ∧ 0 ≤ a ∧ a ≤ 50 ∧ Hid (woR full a ((ts.zip ds).drop k) = woR full wet (ts.zip ds)) ∧ Hid ((ts.take k).all snV = true) ∧ Below w.heap.size w wr) (fun _ iv _ => (m - intOf iv).toNat)
        case atStart => exact ⟨0, wet, rfl, by omega, rfl, w0, w1_, Lib.hid (by rw [List.drop_zero]), (by show _ = _; rfl), Below.refl _ _⟩
        case round =>
          obtain ⟨k, a, rfl, k1, rfl, a0, a1, HR, HA, hB⟩ := hrel
          by_cases hlt : k < m
          · have hk : k < ts.length := by rw [HN.out]; exact hlt
            have hk2 : k < ds.length := by rw [HM.out]; exact hlt
            have hki : (k : Int) < (m : Int) := by omega
            obtain ⟨b, off, rfl, hb, c0⟩ := rowNum (h.next hB) hk
            obtain ⟨b2, off2, rfl, hb2, d0⟩ := rowBool (h2.next hB) hk2
            have D1 : Hid (wdI full a ds[k] < ts[k] → woR full a ((ts.zip ds).drop k) = false) := Lib.hid (woR_dry hk hk2)
            have D2 : Hid (¬ wdI full a ds[k] < ts[k] → woR full a ((ts.zip ds).drop k) = woR full (wdI full a ds[k] - ts[k]) ((ts.zip ds).drop (k + 1))) := Lib.hid (woR_wet hk hk2)
            have HNo : Hid (snV ts[k] = false → ts.all snV = false) := Lib.hid (al7_no hk)
            have HYes : Hid (snV ts[k] = true → (ts.take (k + 1)).all snV = true) := Lib.hid (al7_step hk HA.out)
            generalize ts[k] = x at c0 D1 D2 HNo HYes
            generalize ds[k] = d at d0 D1 D2
            cases d
            · have hwd : wdI full a false = a := by unfold wdI; rw [if_neg (by decide)]
              rw [hwd] at D1 D2
              clear hwd
              by_cases h16 : 16 ≤ a
              · obtain ⟨u, hu⟩ : ∃ u, inV x 0 16 = u := ⟨_, rfl⟩
                have HU := Lib.hid hu
                cases u
                · have HZ : Hid ((ts.all snV && woR full wet (ts.zip ds)) = false) := Lib.hid (by
                cases hs : snV x
                · rw [HNo.out hs]; rfl
                · have h1 := snV_iff.1 hs; have h2 := inV_no.1 hu; rw [← HR.out, D1.out (by omega)]; simp)
                  clear hu D1 D2 HNo HYes
                  go_wp2_with fail
                  refine (sIn7_is _ HU.out).mono ?_; rintro E w' ⟨rfl, rfl⟩
                  go_wp2
                  go_ret
                  exact ⟨ret_bool (by rw [HE.out, HZ.out]), hB⟩
                · have hub := inV_iff.1 hu
                  obtain ⟨x0, x1⟩ := hub
                  have HA2 := Lib.hid (HYes.out (snV_iff.2 (by omega)))
                  have HR2 : Hid (woR full (a - x) ((ts.zip ds).drop (k + 1)) = woR full wet (ts.zip ds)) := Lib.hid (by rw [← HR.out, D2.out (by omega)])
                  clear hu D1 D2 HNo HYes HA
                  go_wp2_with fail
                  refine (sIn7_is _ HU.out).mono ?_; rintro E w' ⟨rfl, rfl⟩
                  go_wp2_with fail
                  go_roundw
                  case rel => exact ⟨k + 1, a - x, by go_num, by omega, rfl, by omega, by omega, HR2, HA2, hB⟩
                  case measure => simp [intOf]; omega
              · obtain ⟨u, hu⟩ : ∃ u, inV x 0 a = u := ⟨_, rfl⟩
                have HU := Lib.hid hu
                cases u
                · have HZ : Hid ((ts.all snV && woR full wet (ts.zip ds)) = false) := Lib.hid (by
                cases hs : snV x
                · rw [HNo.out hs]; rfl
                · have h1 := snV_iff.1 hs; have h2 := inV_no.1 hu; rw [← HR.out, D1.out (by omega)]; simp)
                  clear hu D1 D2 HNo HYes
                  go_wp2_with fail
                  refine (sIn7_is _ HU.out).mono ?_; rintro E w' ⟨rfl, rfl⟩
                  go_wp2
                  go_ret
                  exact ⟨ret_bool (by rw [HE.out, HZ.out]), hB⟩
                · have hub := inV_iff.1 hu
                  obtain ⟨x0, x1⟩ := hub
                  have HA2 := Lib.hid (HYes.out (snV_iff.2 (by omega)))
                  have HR2 : Hid (woR full (a - x) ((ts.zip ds).drop (k + 1)) = woR full wet (ts.zip ds)) := Lib.hid (by rw [← HR.out, D2.out (by omega)])
                  clear hu D1 D2 HNo HYes HA
                  go_wp2_with fail
                  refine (sIn7_is _ HU.out).mono ?_; rintro E w' ⟨rfl, rfl⟩
                  go_wp2_with fail
                  go_roundw
                  case rel => exact ⟨k + 1, a - x, by go_num, by omega, rfl, by omega, by omega, HR2, HA2, hB⟩
                  case measure => simp [intOf]; omega
            · by_cases hmx : full ≤ a
              · have hwd : wdI full a true = a := by unfold wdI; rw [if_pos rfl]; omega
                rw [hwd] at D1 D2
                clear hwd
                have h16 : 16 ≤ a := by omega
                obtain ⟨u, hu⟩ : ∃ u, inV x 0 16 = u := ⟨_, rfl⟩
                have HU := Lib.hid hu
                cases u
                · have HZ : Hid ((ts.all snV && woR full wet (ts.zip ds)) = false) := Lib.hid (by
                cases hs : snV x
                · rw [HNo.out hs]; rfl
                · have h1 := snV_iff.1 hs; have h2 := inV_no.1 hu; rw [← HR.out, D1.out (by omega)]; simp)
                  clear hu D1 D2 HNo HYes
                  go_wp2_with fail
                  refine (sIn7_is _ HU.out).mono ?_; rintro E w' ⟨rfl, rfl⟩
                  go_wp2
                  go_ret
                  exact ⟨ret_bool (by rw [HE.out, HZ.out]), hB⟩
                · have hub := inV_iff.1 hu
                  obtain ⟨x0, x1⟩ := hub
                  have HA2 := Lib.hid (HYes.out (snV_iff.2 (by omega)))
                  have HR2 : Hid (woR full (a - x) ((ts.zip ds).drop (k + 1)) = woR full wet (ts.zip ds)) := Lib.hid (by rw [← HR.out, D2.out (by omega)])
                  clear hu D1 D2 HNo HYes HA
                  go_wp2_with fail
                  refine (sIn7_is _ HU.out).mono ?_; rintro E w' ⟨rfl, rfl⟩
                  go_wp2_with fail
                  go_roundw
                  case rel => exact ⟨k + 1, a - x, by go_num, by omega, rfl, by omega, by omega, HR2, HA2, hB⟩
                  case measure => simp [intOf]; omega
              · have hwd : wdI full a true = full := by unfold wdI; rw [if_pos rfl]; omega
                rw [hwd] at D1 D2
                clear hwd
                have h16 : 16 ≤ full := by omega
                obtain ⟨u, hu⟩ : ∃ u, inV x 0 16 = u := ⟨_, rfl⟩
                have HU := Lib.hid hu
                cases u
                · have HZ : Hid ((ts.all snV && woR full wet (ts.zip ds)) = false) := Lib.hid (by
                cases hs : snV x
                · rw [HNo.out hs]; rfl
                · have h1 := snV_iff.1 hs; have h2 := inV_no.1 hu; rw [← HR.out, D1.out (by omega)]; simp)
                  clear hu D1 D2 HNo HYes
                  go_wp2_with fail
                  refine (sIn7_is _ HU.out).mono ?_; rintro E w' ⟨rfl, rfl⟩
                  go_wp2
                  go_ret
                  exact ⟨ret_bool (by rw [HE.out, HZ.out]), hB⟩
                · have hub := inV_iff.1 hu
                  obtain ⟨x0, x1⟩ := hub
                  have HA2 := Lib.hid (HYes.out (snV_iff.2 (by omega)))
                  have HR2 : Hid (woR full (full - x) ((ts.zip ds).drop (k + 1)) = woR full wet (ts.zip ds)) := Lib.hid (by rw [← HR.out, D2.out (by omega)])
                  clear hu D1 D2 HNo HYes HA
                  go_wp2_with fail
                  refine (sIn7_is _ HU.out).mono ?_; rintro E w' ⟨rfl, rfl⟩
                  go_wp2_with fail
                  go_roundw
                  case rel => exact ⟨k + 1, full - x, by go_num, by omega, rfl, by omega, by omega, HR2, HA2, hB⟩
                  case measure => simp [intOf]; omega
          · have hki : ¬ (k : Int) < (m : Int) := by omega
            have HZ : Hid ((ts.all snV && woR full wet (ts.zip ds)) = true) := Lib.hid (by have h1 := HA.out; rw [List.take_of_length_le (by rw [HN.out]; omega)] at h1; rw [h1, ← HR.out, List.drop_eq_nil_of_le (by rw [List.length_zip, HN.out, HM.out]; omega)]; rfl)
            go_wp2_with fail
            go_ret
            exact ⟨ret_bool (by rw [HE.out, HZ.out]), hB⟩
      · have e : woB wet full ts ds = false := by unfold woB; rw [hn, hm, decide_eq_false hmn]; simp
        rw [e]
        have hne : ¬ (m : Int) = (n : Int) := by omega
        have hnb : ((m : Int) != (n : Int)) = true := by rw [bne_iff_ne]; exact hne
        have HW := Lib.hid hw9
        have HF := Lib.hid hf9
        clear hw9 hf9 e hn hm hmn
        go_enter Try.func28, Try.ntmps28
        go_wp2_with fail
        refine (sIn7_is _ HW.out).mono ?_; rintro E w' ⟨rfl, rfl⟩
        go_wp2_with fail
        refine (sIn7_is _ HF.out).mono ?_; rintro E w' ⟨rfl, rfl⟩
        go_wp2
        go_ret
        exact ⟨rfl, Below.refl _ _⟩
end Go.Proofs.Ytoeblgfaemhbjaa
