/- The model's PlateDrop. -/
import Derived.Test.YtidppabconifkabPv
namespace Go.Proofs.Ytidppabconifkab
open Go Go.ChangeShapes Go.WideShapes Go.ChangeAt Go.RowKit
set_option linter.unusedSimpArgs false
set_option linter.unusedVariables false
set_option linter.unnecessarySimpa false

/-- The marks without the one with a text. -/
def dropL (t : ByteArray) (xs : List VMark) : List VMark := xs.filter fun v => !(v.2.2.toList == t.toList)
theorem dropL_len (t : ByteArray) (xs : List VMark) : (dropL t xs).length ≤ xs.length := List.length_filter_le _ _
theorem dropL_yes {t : ByteArray} {xs : List VMark} {k : Nat} (hk : k < xs.length) (h : (xs[k].2.2.toList == t.toList) = false) : dropL t (xs.take (k + 1)) = dropL t (xs.take k) ++ [xs[k]] := by
  rw [List.take_succ_eq_append_getElem hk]; unfold dropL; rw [List.filter_append]; simp [h]
theorem dropL_no {t : ByteArray} {xs : List VMark} {k : Nat} (hk : k < xs.length) (h : (xs[k].2.2.toList == t.toList) = true) : dropL t (xs.take (k + 1)) = dropL t (xs.take k) := by
  rw [List.take_succ_eq_append_getElem hk]; unfold dropL; rw [List.filter_append]; simp [h]
def PdOf (xs : List VMark) (t : ByteArray) (l : List VMark) (ok : Bool) : Prop := (plB xs = false ∧ l = [] ∧ ok = false) ∨ (plB xs = true ∧ l = dropL t xs ∧ ok = decide (l.length < xs.length))
theorem PdOf.unique {xs : List VMark} {t : ByteArray} {l l' : List VMark} {ok ok' : Bool} (h : PdOf xs t l ok) (k : PdOf xs t l' ok') : l = l' ∧ ok = ok' := by
  rcases h with ⟨h1, rfl, rfl⟩ | ⟨h1, rfl, rfl⟩
  · rcases k with ⟨_, rfl, rfl⟩ | ⟨k1, _⟩
    · exact ⟨rfl, rfl⟩
    · rw [h1] at k1; cases k1
  · rcases k with ⟨k1, _⟩ | ⟨_, rfl, rfl⟩
    · rw [h1] at k1; cases k1
    · exact ⟨rfl, rfl⟩
def MarksRet (R : List VMark → Bool → Prop) (w : World) (e : Ending) (w' : World) : Prop :=
  ∃ (l : List VMark) (ok : Bool) (A : Option Addr) (cap : Nat), e = .returned (.tuple #[.slice A l.length cap, .bool ok]) ∧ R l ok ∧ SOwn encMark w' w.heap.size 40 A cap l ∧ Below w.heap.size w w'
set_option maxRecDepth 100000 in
set_option maxHeartbeats 8000000 in
theorem sPD_any (A : Option Addr) (cap : Nat) (xs : List VMark) (t : ByteArray) {n : Nat} (w : World) (hn : xs.length = n) (h : SRow encMark w A xs) (hq : ∀ v ∈ xs, v.2.2.size ≤ maxLen) (hl : n ≤ 2000000) :
    Calls Try.prog 23 #[.slice A n cap, .string t] w (MarksRet (PdOf xs t) w) := by
  have HN := Lib.hid hn
  have HQ := Lib.hid hq
  have H := Lib.hid h
  clear hn hq h
  obtain ⟨i0, hi0, hz0, hz1, hz2⟩ := info_parts infoMark
  have HI := Lib.hid (And.intro hi0 (And.intro hz0 (And.intro hz1 hz2)))
  clear hi0 hz0 hz1 hz2
  cases hp : plB xs
  · have HP := Lib.hid hp
    clear hp
    go_enter Try.func23, Try.ntmps23
    go_wp2_with fail
    refine (sPV_any A cap xs w HN.out H.out HQ.out hl HP.out).mono ?_; rintro e w1 ⟨rfl, hw1⟩
    go_wp2
    go_ret2
    exact ⟨[], false, _, 0, rfl, .inl ⟨HP.out, rfl, rfl⟩, SOwn.empty (blk_new w1 _) hw1.size, hw1.alloc hw1.size _⟩
  · have HP := Lib.hid hp
    clear hp
    go_enter Try.func23, Try.ntmps23
    go_wp2_with fail
    refine (sPV_any A cap xs w HN.out H.out HQ.out hl HP.out).mono ?_; rintro e w1 ⟨rfl, hw1⟩
    go_wp2_with fail
    go_loopw [6, 7] (fun v vk wr => ∃ (k m : Nat) (B : Option Addr) (cp : Nat), vk = .int .i64 k ∧ v = .slice B m cp ∧ k ≤ n ∧ m ≤ k ∧ Hid ((dropL t (xs.take k)).length = m) ∧ SOwn encMark wr w.heap.size 40 B cp (dropL t (xs.take k)) ∧ Below w.heap.size w wr) (fun _ vk _ => (n - intOf vk).toNat)
    case atStart => exact ⟨0, 0, _, 0, rfl, rfl, by omega, by omega, (by show _ = _; rfl), SOwn.empty (blk_new w1 _) hw1.size, hw1.alloc hw1.size _⟩
    case round =>
      obtain ⟨k, m, B, cp, rfl, rfl, k1, m1, HM, hO, hB⟩ := hrel
      by_cases hlt : k < n
      · have hk : k < xs.length := by rw [HN.out]; exact hlt
        have hk2 : (k : Int) < (n : Int) := by omega
        obtain ⟨b, off, rfl, hb, c0, c1, c2⟩ := rowMark (H.out.next hB) hk
        cases he : (xs[k].2.2.toList == t.toList)
        · have HD := Lib.hid (dropL_yes hk he)
          have hcp := hB.size
          have hOa := hO.alloc (.cells (encMark.enc xs[k]).toArray 40)
          go_wp2_with (at_builtin; refine wpList_append_lies _ rfl (.tmp 26) (.tmp 31) _ rfl w.heap.size 40 i0 _ 3 32 Try.underlying37 HI.out.1 HI.out.2.1 HI.out.2.2.1 HI.out.2.2.2 rfl (by omega) (.slice B m cp) m (encMark.flat (dropL t (xs.take k))) rfl (by unfold SOwn at hOa; rw [HM.out] at hOa; exact hOa) ⟨wr.heap.size, 0, none⟩ 1 1 (encMark.enc xs[k]) rfl rfl (new_enc wr xs[k] _) (encMark.one _) (by omega) (by simp only [maxLen]; omega) (by omega) (by simp; omega) _ rfl ?_; intro g5 cap5 w5 hown5 hgr5 hat5 hlt5)
          go_roundw
          case rel =>
            have hsn := SOwn.snoc (E := encMark) (xs := dropL t (xs.take k)) (x := xs[k]) (by rw [HM.out]; exact hown5)
            have hB5 := SOwn.below_grown hOa (hB.alloc hB.size _) hgr5
            exact ⟨k + 1, m + 1, some ⟨g5, 0, none⟩, cap5, by go_num, rfl, by omega, by omega, (by show _ = _; rw [HD.out]; simp [HM.out]), by rw [HD.out]; exact hsn, hB5⟩
          case measure => simp [intOf]; omega
        · have HD := Lib.hid (dropL_no hk he)
          go_wp2_with fail
          go_roundw
          case rel => exact ⟨k + 1, m, B, cp, by go_num, rfl, by omega, by omega, (by show _ = _; rw [HD.out]; exact HM.out), by rw [HD.out]; exact hO, hB⟩
          case measure => simp [intOf]; omega
      · obtain rfl : k = n := by omega
        have HE : Hid (dropL t (xs.take k) = dropL t xs) := by show _ = _; rw [List.take_of_length_le (by rw [HN.out]; omega)]
        go_wp2_with fail
        go_ret2
        exact ⟨dropL t xs, decide (m < k), B, cp, by rw [← HE.out, HM.out]; simp, .inr ⟨HP.out, rfl, by rw [← HE.out, HM.out, HN.out]⟩, by rw [← HE.out]; exact hO, hB⟩
end Go.Proofs.Ytidppabconifkab
