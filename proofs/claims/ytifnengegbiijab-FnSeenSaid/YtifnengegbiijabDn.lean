/- What the law of who is seen draws. -/
import Derived.Test.YtifnengegbiijabDk
import Derived.Test.YtifnengegbiijabIs
import Derived.Test.YtifnengegbiijabKq
namespace Go.Proofs.Ytifnengegbiijab
open Go Go.ChangeShapes Go.WideShapes Go.ChangeAt Go.RowKit
set_option linter.unusedSimpArgs false
set_option linter.unusedVariables false

set_option maxRecDepth 100000 in
set_option maxHeartbeats 4000000 in
theorem drSeen_any (a : Option Addr) (len cap : Nat) (w : World) (h : CodeOk w a len cap) : Calls Try.prog 11 #[.slice a len cap] w (DrewNums w) := by
  obtain ⟨i0, hi0, hz0, hz1, hz2⟩ := info_parts infoNum
  have HI := Lib.hid (And.intro hi0 (And.intro hz0 (And.intro hz1 hz2)))
  clear hi0 hz0 hz1 hz2
  go_enter Try.func11, Try.ntmps11
  go_wp2_with fail
  refine (open_any _ _ _ _ h).mono ?_; rintro e w1 ⟨B, rfl, hB, h1, hb1⟩
  have hBl := h1.lt
  go_wp2_with fail
  refine (pick_any B 0 9 _ (h1.alloc _) (by omega) (by omega) (by omega)).mono ?_; rintro e w2 ⟨k0, rfl, k00, k01, h2, hx2⟩
  have hO2 := (SOwn.empty (E := encNum) (blk_new w1 (.cells #[] 3)) (Nat.le_refl _)).extK hx2 hBl
  have hE2 := ((Ext.refl B w1).alloc (.cells #[] 3)).trans hx2
  go_wp2_with fail
  go_loopw [4, 5] (fun vo vk wr => ∃ (k : Int) (xs : List Int) (g cp m : Nat), vk = .int .i64 k ∧ vo = .slice (some ⟨g, 0, none⟩) m cp ∧ 0 ≤ k ∧ (m : Int) + k ≤ 8 ∧ Hid (xs.length = m) ∧ SOwn encNum wr w1.heap.size 3 (some ⟨g, 0, none⟩) cp xs ∧ RdU B (1 + (8 - k)) wr ∧ Ext B w1 wr) (fun _ vk _ => (intOf vk).toNat)
  case atStart => exact ⟨k0, [], _, 0, 0, rfl, rfl, k00, by omega, (by show _ = _; rfl), hO2, h2.mono (by omega), hE2⟩
  case round =>
    obtain ⟨k, xs, g, cp, m, rfl, rfl, k0', mk, HM, hO, hR, hX⟩ := hrel
    by_cases hk : 0 < k
    · go_wp2_with fail
      refine (pick_any B _ 20 _ hR (by omega) (by omega) (by omega)).mono ?_; rintro e w3 ⟨x, rfl, x0, x1, h3, hx3⟩
      have hO3 := hO.extK hx3 hBl
      have hX3 := hX.trans hx3
      have hz3 := hX3.size
      go_wp2_with (at_builtin; refine wpList_append_lies _ rfl (.tmp 15) (.tmp 19) _ rfl w1.heap.size 3 i0 _ 1 8 Try.underlying23 HI.out.1 HI.out.2.1 HI.out.2.2.1 HI.out.2.2.2 rfl (by omega) (.slice (some ⟨g, 0, none⟩) m cp) m (encNum.flat xs) rfl (by have q := hO3.alloc (.cells (encNum.enc (x - 5)).toArray 3); unfold SOwn at q; rw [HM.out] at q; exact q) ⟨w3.heap.size, 0, none⟩ 1 1 (encNum.enc (x - 5)) rfl rfl (new_enc (E := encNum) w3 (x - 5) _) (encNum.one _) (by omega) (by simp only [maxLen]; omega) (by omega) (by simp; omega) _ rfl ?_; intro g5 cap5 w5 hown5 hgr5 hat5 hlt5)
      have hne : ∀ k, Value.ownBlock (.slice (some ⟨g, 0, none⟩) m cp) = some k → B < k := fun k hk => by have := SOwn.ge_baseK (hO3.alloc (.cells (encNum.enc (x - 5)).toArray 3)) k hk; omega
      have hB5 := (h3.alloc (.cells (encNum.enc (x - 5)).toArray 3)).farK hgr5 hne
      have hE5 := (hX3.alloc (.cells (encNum.enc (x - 5)).toArray 3)).far_grownK hgr5 (SOwn.ge_baseK (hO3.alloc (.cells (encNum.enc (x - 5)).toArray 3)))
      go_wp2_with fail
      go_roundw
      case rel => exact ⟨k - 1, xs ++ [x - 5], g5, cap5, m + 1, by go_num, rfl, by omega, by push_cast; omega, (by show _ = _; rw [List.length_append, HM.out]; rfl), SOwn.snoc (E := encNum) (by rw [HM.out]; exact hown5), hB5.mono (by omega), hE5⟩
      case measure => simp [intOf]; omega
    · obtain rfl : k = 0 := by omega
      have hBx := hb1.trans (hX.below (N := w.heap.size) (by omega) hb1.size)
      go_wp2_with fail
      go_ret
      exact ⟨xs, _, cp, (by rw [HM.out]; rfl), (by rw [HM.out]; omega), hO.mono hb1.size, hBx⟩
theorem SRow.toI {w : World} {A : Option Addr} {xs : List Int} (h : SRow encNum w A xs) : IRow w A xs := by
  rcases h with h | ⟨b, off, e, hc⟩
  · exact .inl h
  · exact .inr ⟨b, off, e, fun i hi => by have := hc i hi 0 _ rfl; simpa [encNum] using this⟩
theorem hasN_is (A : Option Addr) (cap : Nat) (xs : List Int) (x : Int) {n : Nat} {r : Bool} (w : World) (hn : xs.length = n) (hA : SRow encNum w A xs) (hl : n ≤ 2000000) (hr : hasB xs x = r) :
    Calls Try.prog 16 #[.slice A n cap, .int .i64 x] w fun e w' => e = .returned (.bool r) ∧ Below w.heap.size w w' := by
  subst hn; subst hr; exact hasInt_any A cap xs x w hA.toI hl
theorem ascN_is (A : Option Addr) (cap : Nat) (xs : List Int) {n : Nat} (w : World) (hn : xs.length = n) (hA : SRow encNum w A xs) (ha : Asc xs) (hl : n ≤ 2000000) :
    Calls Try.prog 17 #[.slice A n cap] w fun e w' => e = .returned (.bool true) ∧ Below w.heap.size w w' := by
  subst hn; exact ascend_t A cap xs w hA.toI ha hl
end Go.Proofs.Ytifnengegbiijab
