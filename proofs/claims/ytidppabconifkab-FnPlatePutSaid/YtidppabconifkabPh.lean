/- The program's PlateDrop. -/
import Derived.Test.YtidppabconifkabPe
namespace Go.Proofs.Ytidppabconifkab
open Go Go.ChangeShapes Go.WideShapes Go.ChangeAt Go.RowKit
set_option linter.unusedSimpArgs false
set_option linter.unusedVariables false

def hasT (t : ByteArray) (v : VMark) : Bool := v.2.2.toList == t.toList
theorem dropL_eq (t : ByteArray) (xs : List VMark) : dropL t xs = xs.filter (fun v => !hasT t v) := rfl
theorem del_is (a b : Int) (c t : ByteArray) {r : Bool} (B : Nat) (w : World) (hb : w.heap[B]? = some (.cells #[.string t] 9)) (hr : (c.toList == t.toList) = r) :
    Calls Try.prog 61 #[.agg #[.int .i64 a, .int .i64 b, .string c], .pointer (some ⟨B, 0, none⟩)] w fun e w' => e = .returned (.bool r) ∧ Below w.heap.size w w' := by
  have hz := blk_lt hb
  have c0 : w.cell? ⟨B, 0, none⟩ = some (.string t) := by simp [World.cell?, hb]
  have HR := Lib.hid hr
  clear hr hb
  go_enter Try.func61, Try.ntmps61
  go_wp2
  go_ret
  exact ⟨ret_bool HR.out, bel1 _ _⟩
/-- The first index at which something stands; -1. -/
def IdxIs (p : VMark → Bool) (xs : List VMark) (r : Int) : Prop := (∃ k : Nat, ∃ h : k < xs.length, r = k ∧ p xs[k] = true ∧ (xs.take k).all (fun v => !p v) = true) ∨ (r = -1 ∧ xs.all (fun v => !p v) = true)
theorem no_next {p : VMark → Bool} {xs : List VMark} {k : Nat} (hk : k < xs.length) (ha : (xs.take k).all (fun v => !p v) = true) (h : p xs[k] = false) : (xs.take (k + 1)).all (fun v => !p v) = true := by
  rw [List.take_succ_eq_append_getElem hk, List.all_append, ha]; simp [h]
set_option maxHeartbeats 4000000 in
theorem idx_any (g cp base B : Nat) (t : ByteArray) (xs : List VMark) {n : Nat} (w : World) (hn : xs.length = n) (hO : SOwn encMark w base 40 (some ⟨g, 0, none⟩) cp xs) (hb : w.heap[B]? = some (.cells #[.string t] 9)) (hl : n ≤ 2000000) :
    Calls Try.prog 95 #[.slice (some ⟨g, 0, none⟩) n cp, .func (.func 61) #[] #[.pointer (some ⟨B, 0, none⟩)]] w fun e w' => ∃ r : Int, e = .returned (.int .i64 r) ∧ IdxIs (hasT t) xs r ∧ Below w.heap.size w w' := by
  have HN := Lib.hid hn
  clear hn
  go_enter Try.func95, Try.ntmps95
  go_wp2_with fail
  go_loopw [8] (fun v wr => ∃ k : Nat, v = .int .i64 k ∧ k ≤ n ∧ Hid ((xs.take k).all (fun v => !hasT t v) = true) ∧ SOwn encMark wr base 40 (some ⟨g, 0, none⟩) cp xs ∧ wr.heap[B]? = some (.cells #[.string t] 9) ∧ Below w.heap.size w wr) (fun v _ => (n - intOf v).toNat)
  case atStart => exact ⟨0, rfl, by omega, (by show _ = _; rfl), hO, hb, Below.refl _ _⟩
  case round =>
    obtain ⟨k, rfl, k1, HA, hOr, hbr, hB⟩ := hrel
    by_cases hlt : k < n
    · have hk : k < xs.length := by rw [HN.out]; exact hlt
      obtain ⟨c0, c1, c2⟩ := ownMark hOr hk
      obtain ⟨r, hr⟩ : ∃ r, hasT t xs[k] = r := ⟨_, rfl⟩
      have HR := Lib.hid hr
      clear hr
      go_wp2_with fail
      refine (del_is _ _ _ t B _ hbr HR.out).mono ?_; rintro e w1 ⟨rfl, hw1⟩
      cases r
      · have HA2 := Lib.hid (no_next hk HA.out HR.out)
        go_wp2_with fail
        go_roundw
        case rel => exact ⟨k + 1, by go_num, by omega, HA2, hOr.next hw1, blk_next hbr hw1, bel_next hB hw1⟩
        case measure => simp [intOf]; omega
      · go_wp2_with fail
        go_ret
        exact ⟨_, rfl, .inl ⟨k, hk, rfl, HR.out, HA.out⟩, bel_next hB hw1⟩
    · have hk2 : ¬ (k : Int) < (n : Int) := by omega
      have HX : Hid (xs.all (fun v => !hasT t v) = true) := by
        show _ = _
        have := HA.out
        rwa [List.take_of_length_le (by rw [HN.out]; omega)] at this
      go_wp2_with fail
      go_ret
      exact ⟨-1, rfl, .inr ⟨rfl, HX.out⟩, hB⟩
theorem drop_none {t : ByteArray} {xs : List VMark} (h : xs.all (fun v => !hasT t v) = true) : dropL t xs = xs := by
  rw [dropL_eq, List.filter_eq_self]
  exact fun v hv => List.all_eq_true.1 h v hv
theorem take_set_succ {xs : List VMark} {i : Nat} (h : i < xs.length) (v : VMark) : (xs.set i v).take (i + 1) = xs.take i ++ [v] := by
  rw [List.take_succ_eq_append_getElem (by simpa using h), List.getElem_set_self, List.take_set_of_le (Nat.le_refl _)]
theorem drop_set_gt {xs : List VMark} {i j : Nat} (h : i < j) (v : VMark) : (xs.set i v).drop j = xs.drop j := by
  rw [List.drop_set, if_pos h]
def DelRet (l : List VMark) (g cp base : Nat) (w : World) (e : Ending) (w' : World) : Prop := e = .returned (.slice (some ⟨g, 0, none⟩) l.length cp) ∧ SOwn encMark w' base 40 (some ⟨g, 0, none⟩) cp l ∧ w.grownBy w' (some g)
theorem zeroMark (w : World) : (zeroValue 40).run Try.prog w = .ok (.agg #[.int .i64 0, .int .i64 0, .string ByteArray.empty]) w := by kernel_rfl
set_option maxRecDepth 100000 in
set_option maxHeartbeats 8000000 in
theorem delf_any (g cp base B : Nat) (t : ByteArray) (xs : List VMark) {n : Nat} (w : World) (hn : xs.length = n) (hO : SOwn encMark w base 40 (some ⟨g, 0, none⟩) cp xs) (hgB : B ≠ g) (hb : w.heap[B]? = some (.cells #[.string t] 9)) (hl : n ≤ 2000000) :
    Calls Try.prog 60 #[.slice (some ⟨g, 0, none⟩) n cp, .func (.func 61) #[] #[.pointer (some ⟨B, 0, none⟩)]] w (DelRet (dropL t xs) g cp base w) := by
  have HN := Lib.hid hn
  have hcap := hO.cap
  rw [hn] at hcap
  clear hn
  go_enter Try.func60, Try.ntmps60
  go_wp2_with fail
  refine (idx_any g cp base B t xs _ HN.out hO hb hl).mono ?_; rintro e w1 ⟨r, rfl, hr, hw1⟩
  have hO1 := hO.next hw1
  have hb1 := blk_next hb hw1
  have hG1 : w.grownBy w1 (some g) := ⟨hw1.os, hw1.tape, hw1.output, hw1.size, fun k hk _ => hw1.block k hk⟩
  rcases hr with ⟨k, hk, rfl, hpk, hall⟩ | ⟨rfl, hall⟩
  · have hkn : k < n := by rw [← HN.out]; exact hk
    have hne1 : ((k : Int) == -1) = false := by rw [beq_eq_false_iff_ne]; omega
    have hstart : dropL t (xs.take (k + 1)) = xs.take k := by
      rw [List.take_succ_eq_append_getElem hk, dropL_eq, List.filter_append]
      have e1 : (xs.take k).filter (fun v => !hasT t v) = xs.take k := by rw [List.filter_eq_self]; exact fun v hv => List.all_eq_true.1 hall v hv
      rw [e1]; simp [hpk]
    have HS := Lib.hid hstart
    clear hstart hall hpk
    go_wp2_with fail
    go_loopw [5, 6, 7] (fun vi vj _ wr => ∃ (i j : Nat) (L : List VMark), vi = .int .i64 i ∧ vj = .int .i64 j ∧ i < j ∧ j ≤ n ∧ Hid (L.length = n) ∧ Hid (L.take i = dropL t (xs.take j)) ∧ Hid (L.drop j = xs.drop j) ∧ SOwn encMark wr base 40 (some ⟨g, 0, none⟩) cp L ∧ wr.heap[B]? = some (.cells #[.string t] 9) ∧ w.grownBy wr (some g)) (fun _ vj _ _ => (n - intOf vj).toNat)
    case atStart => exact ⟨k, k + 1, xs, rfl, by go_num, by omega, by omega, HN, Lib.hid HS.out.symm, (by show _ = _; rfl), hO1, hb1, hG1⟩
    case round =>
      obtain ⟨i, j, L, rfl, rfl, hij, hjn, HLn, HT, HD, hOr, hbr, hG⟩ := hrel
      by_cases hlt : j < n
      · have hj : j < xs.length := by rw [HN.out]; exact hlt
        have hjL : j < L.length := by rw [HLn.out]; exact hlt
        have hiL : i < L.length := by rw [HLn.out]; omega
        have hLj : L[j] = xs[j] := by
          have := HD.out
          rw [List.drop_eq_getElem_cons hjL, List.drop_eq_getElem_cons hj] at this
          exact (List.cons.inj this).1
        have hLd : L.drop (j + 1) = xs.drop (j + 1) := by
          have := HD.out
          rw [List.drop_eq_getElem_cons hjL, List.drop_eq_getElem_cons hj] at this
          exact (List.cons.inj this).2
        obtain ⟨c0, c1, c2⟩ := ownMark hOr hjL
        rw [hLj] at c0 c1 c2
        have HLd := Lib.hid hLd
        clear hLj hLd
        obtain ⟨r, hr⟩ : ∃ r, hasT t xs[j] = r := ⟨_, rfl⟩
        have HR := Lib.hid hr
        clear hr
        have hzr := blk_lt hbr
        have hgr : g < wr.heap.size := by rcases hOr.form with ⟨e, _⟩ | ⟨g', e, _, h⟩; cases e; cases e; exact h
        go_wp2_with fail
        refine (del_is _ _ _ t B _ (blk_old hbr _) HR.out).mono ?_; rintro e w2 ⟨rfl, hw2⟩
        obtain ⟨hV2, hC2⟩ := ownb hw2
        have hO2 := hOr.next hC2
        have hb2 := blk_next hbr hC2
        have hG2 := grown_nextS hG hC2
        obtain ⟨v0, v1, v2, _, _, _, _⟩ := blk3 hV2
        cases r
        · have hkeep : dropL t (xs.take (j + 1)) = dropL t (xs.take j) ++ [xs[j]] := dropL_yes hj HR.out
          have HK := Lib.hid hkeep
          clear hkeep
          obtain ⟨d0, d1, d2⟩ := ownMark hO2 hiL
          have hin : i < n := by omega
          have hini : (i : Int) < (n : Int) := by omega
          have e0 := hO2.frozen (i * 3)
          have e1 := hO2.frozen (i * 3 + 1)
          have e2 := hO2.frozen (i * 3 + 2)
          go_wp2_with fail
          go_roundw
          case rel => exact ⟨i + 1, j + 1, L.set i xs[j], by go_num, by go_num, by omega, by omega, Lib.hid (by rw [List.length_set]; exact HLn.out), Lib.hid (by rw [take_set_succ hiL, HT.out, HK.out]), Lib.hid (by rw [drop_set_gt (by omega)]; exact HLd.out), by have := hO2.set i hiL xs[j]; exact this, blk_far (blk_far (blk_far hb2 hgB _) hgB _) hgB _, setAll_grown (encMark.enc xs[j]) (i * 3) hG2⟩
          case measure => simp [intOf]; omega
        · have hdrop : dropL t (xs.take (j + 1)) = dropL t (xs.take j) := dropL_no hj HR.out
          have HK := Lib.hid hdrop
          clear hdrop
          go_wp2_with fail
          go_roundw
          case rel => exact ⟨i, j + 1, L, rfl, by go_num, by omega, by omega, HLn, Lib.hid (by rw [HT.out, HK.out]), HLd, hO2, hb2, hG2⟩
          case measure => simp [intOf]; omega
      · have hjn2 : j = n := by omega
        have HJ := Lib.hid hjn2
        clear hjn2
        have hin : i < n := by omega
        have hjlt : ¬ (j : Int) < (n : Int) := by omega
        have hcl : ∀ ty, (Builtin.clear_ #[37] ty #[.slice (some ⟨g, i * 3, none⟩) (n - i) (cp - i)]).run Try.prog wr = .ok (.tuple #[]) (setAll wr g (i * 3) (encMark.flat (List.replicate (n - i) (0, 0, ByteArray.empty)))) :=
          fun ty => run_clear_own (E := encMark) (0, 0, ByteArray.empty) hOr (by rw [HLn.out]; omega) (by omega) Try.underlying37 zeroMark rfl
        have hin2 : i ≤ n := by omega
        have hic : i ≤ cp := by omega
        have hini : (i : Int) ≤ (n : Int) := by omega
        have hici : (i : Int) ≤ (cp : Int) := by omega
        have HR : Hid (L.take i = dropL t xs) := by
          show _ = _
          rw [HT.out, List.take_of_length_le (by rw [HN.out]; omega)]
        have HRl : Hid ((dropL t xs).length = i) := by
          show _ = _
          rw [← HR.out, List.length_take, HLn.out]; omega
        have hOc : SOwn encMark (setAll wr g (i * 3) (encMark.flat (List.replicate (n - i) (0, 0, ByteArray.empty)))) base 40 (some ⟨g, 0, none⟩) cp (L.take i) := SOwn.cleared (E := encMark) hOr (by rw [HLn.out]; omega) _
        have hGc : w.grownBy (setAll wr g (i * 3) (encMark.flat (List.replicate (n - i) (0, 0, ByteArray.empty)))) (some g) := setAll_grown _ _ hG
        go_wp2_with fail
        go_ret
        exact ⟨by rw [HRl.out]; rfl, by rw [← HR.out]; exact hOc, hGc⟩
  · have HX : Hid (dropL t xs = xs) := drop_none hall
    clear hall
    go_wp2_with fail
    go_ret
    rw [HX.out]
    exact ⟨by rw [HN.out]; rfl, hO1, hG1⟩
set_option maxRecDepth 100000 in
set_option maxHeartbeats 4000000 in
theorem iPD_any (b off cap : Nat) (xs : List VMark) (t : ByteArray) {n : Nat} (w : World) (hn : xs.length = n) (h : SRow encMark w (some ⟨b, off, none⟩) xs) (hq : ∀ v ∈ xs, v.2.2.size ≤ maxLen) (hl : n ≤ 2000000) :
    Calls Try.prog 21 #[.slice (some ⟨b, off, none⟩) n cap, .string t] w (MarksRet (PdOf xs t) w) := by
  have HN := Lib.hid hn
  have HQ := Lib.hid hq
  have H := Lib.hid h
  clear hn hq h
  obtain ⟨p, hp⟩ : ∃ p, plB xs = p := ⟨_, rfl⟩
  have HP : Hid (PlR xs p) := hp
  have HP2 := Lib.hid hp
  clear hp
  cases p
  · go_enter Try.func21, Try.ntmps21
    go_wp2_with fail
    refine (iPV_any _ cap xs _ HN.out (H.out.next (bel1 _ _)) HQ.out hl HP.out).mono ?_; rintro e w1 ⟨rfl, hw1⟩
    go_wp2
    go_ret2
    exact ⟨[], false, none, 0, rfl, .inl ⟨HP2.out, rfl, rfl⟩, SOwn.nil _ _ _, (ownb hw1).2⟩
  · go_enter Try.func21, Try.ntmps21
    go_wp2_with fail
    refine (iPV_any _ cap xs _ HN.out (H.out.next (bel1 _ _)) HQ.out hl HP.out).mono ?_; rintro e w1 ⟨rfl, hw1⟩
    obtain ⟨hP1, hB1⟩ := ownb hw1
    have hz1 := blk_lt hP1
    go_wp2_with fail
    refine (clone_any b off cap xs _ HN.out (H.out.next hB1) hl).mono ?_; rintro e w2 ⟨g, cp, rfl, hO2, hw2⟩
    have hgw : w1.heap.size ≤ g := by rcases hO2.form with ⟨e, _⟩ | ⟨g', e, h, _⟩; cases e; cases e; exact h
    have hP2 := blk_next hP1 hw2
    have hB2 := bel_next hB1 hw2
    rw [HN.out]
    go_wp2_with fail
    refine (delf_any g cp w1.heap.size w.heap.size t xs _ HN.out hO2 (by omega) hP2 hl).mono ?_; rintro e w3 ⟨rfl, hO3, hG3⟩
    have hB3 := hB2.grown hG3 hB2.size (fun j hj => by have := Option.some.inj hj; omega)
    have hlen := dropL_len t xs
    rw [HN.out] at hlen
    obtain ⟨m, hm⟩ : ∃ m, (dropL t xs).length = m := ⟨_, rfl⟩
    rw [hm] at hlen
    have HM := Lib.hid hm
    rw [HM.out]
    clear hm
    go_wp2_with fail
    go_ret2
    exact ⟨dropL t xs, decide (m < n), some ⟨g, 0, none⟩, cp, by rw [HM.out]; simp, .inr ⟨HP2.out, rfl, by rw [HM.out, HN.out]⟩, hO3.mono (by omega), hB3⟩
end Go.Proofs.Ytidppabconifkab
