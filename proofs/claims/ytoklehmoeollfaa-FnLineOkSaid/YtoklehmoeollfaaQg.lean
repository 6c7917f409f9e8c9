/- Friends that are drawn. -/
import Derived.Test.YtoklehmoeollfaaZd
import Derived.Test.YtoklehmoeollfaaGNum
import Derived.Test.YtoklehmoeollfaaQs
import Derived.RegionTactic
namespace Go.Proofs.Ytoklehmoeollfaa
open Go Go.ChangeShapes Go.WideShapes Go.ChangeAt Go.RowKit
set_option linter.unusedSimpArgs false
set_option linter.unusedVariables false

def FriendsIs (B : Nat) (u : Int) (w : World) (e : Ending) (w' : World) : Prop :=
  ∃ (xs : List Int) (A : Option Addr) (cap : Nat), e = .returned (.slice A xs.length cap) ∧ xs.length ≤ 7 ∧ SOwn encNum w' w.heap.size 3 A cap xs ∧ RdU B u w' ∧ Ext B w w'
theorem two_32 {k : Nat} (h : k < 6) : (1 : Int) ≤ 2 ^ k ∧ (2 : Int) ^ k ≤ 32 := by
  have : k = 0 ∨ k = 1 ∨ k = 2 ∨ k = 3 ∨ k = 4 ∨ k = 5 := by omega
  rcases this with rfl | rfl | rfl | rfl | rfl | rfl <;> decide
theorem set_bd {xs : List Int} {i : Nat} {v c : Int} (h : ∀ x ∈ xs, 0 ≤ x ∧ x ≤ c) (hv : 0 ≤ v ∧ v ≤ c) : ∀ x ∈ xs.set i v, 0 ≤ x ∧ x ≤ c := fun x hx => by
  rcases List.mem_or_eq_of_mem_set hx with h1 | h1
  · exact h x h1
  · subst h1; exact hv
theorem SBlk.extK {α : Type} {E : Enc α} {w w' : World} {g B : Nat} {T : TypeId} {xs : List α} (h : SBlk E w g T xs) (hx : Ext B w w') (hne : g ≠ B) : SBlk E w' g T xs := blk_ext h hx hne
set_option maxRecDepth 100000 in
set_option maxHeartbeats 8000000 in
theorem friends_any (B : Nat) (u nn : Int) (w : World) (h : RdU B u w) (hu : u ≤ 600000) (hn : 0 ≤ nn) (hn1 : nn ≤ 1000000) : Calls Try.prog 45 #[.pointer (some ⟨B, 0, none⟩), .int .i64 nn] w (FriendsIs B (u + 100) w) := by
  obtain ⟨i0, hi0, hz0, hz1, hz2⟩ := info_parts infoNum
  have HI := Lib.hid (And.intro hi0 (And.intro hz0 (And.intro hz1 hz2)))
  clear hi0 hz0 hz1 hz2
  have hBw := h.lt
  go_enter Try.func45, Try.ntmps45
  go_wp2_with fail
  refine (pick_any B u 7 _ h (by omega) (by omega) (by omega)).mono ?_; rintro e w1 ⟨mn, rfl, mn0, mn1, h1, hx1⟩
  obtain ⟨n, rfl⟩ : ∃ n : Nat, mn = n := ⟨mn.toNat, by omega⟩
  have hn6 : n ≤ 6 := by omega
  have hbn : i0.bytes * n ≤ 281474976710656 := by rw [HI.out.2.2.2]; omega
  have hB1 := h1.lt
  have hz1 := hx1.size
  go_wp2_with (at_make; refine wpList_make_structs _ encNum (0 : Int) rfl _ _ 29 rfl 3 i0 _ Try.underlying29 HI.out.1 HI.out.2.1 HI.out.2.2.1 rfl .i64 .i64 n rfl rfl hbn (by omega) ?_)
  go_wp2_with fail
  refine (pick_any B _ 3 _ (h1.alloc _) (by omega) (by omega) (by omega)).mono ?_; rintro e w2 ⟨of, rfl, of0, of1, h2, hx2⟩
  have hS2 : SBlk encNum w2 w1.heap.size 3 (List.replicate n 0) := blk_ext (blk_new w1 (.cells (encNum.flat (List.replicate n (0 : Int))).toArray 3)) hx2 (by omega)
  have hX2 := (hx1.alloc _).trans hx2
  have hne : w1.heap.size ≠ B := by omega
  clear hbn
  go_wp2_with fail
  go_loopw [8] (fun av wr => ∃ (a : Nat) (xs : List Int), av = .int .i64 a ∧ a ≤ n ∧ Hid (xs.length = n) ∧ Hid (∀ x ∈ xs, 0 ≤ x ∧ x ≤ (400 * a : Int)) ∧ SBlk encNum wr w1.heap.size 3 xs ∧ RdU B (u + 2 + 6 * a) wr ∧ Ext B w wr) (fun av _ => (n - intOf av).toNat)
  case atStart => exact ⟨0, _, rfl, by omega, (by show _ = _; simp), Lib.hid (fun x hx => by have := List.eq_of_mem_replicate hx; omega), hS2, h2.mono (by omega), hX2⟩
  case round =>
    obtain ⟨a, xs, rfl, a1, HN, HX, hS, hR, hX⟩ := hrel
    by_cases hlt : a < n
    · have hai : (a : Int) < (n : Int) := by omega
      go_wp2_with fail
      go_loopw [9] (fun bv wr => ∃ (b : Nat) (xs : List Int), bv = .int .i64 b ∧ b ≤ a ∧ Hid (xs.length = n) ∧ Hid (∀ x ∈ xs, 0 ≤ x ∧ x ≤ (400 * a + 64 * b : Int)) ∧ SBlk encNum wr w1.heap.size 3 xs ∧ RdU B (u + 2 + 6 * a + b) wr ∧ Ext B w wr) (fun bv _ => (a - intOf bv).toNat)
      case atStart => exact ⟨0, xs, rfl, by omega, HN, Lib.hid (fun x hx => by have := HX.out x hx; omega), hS, hR.mono (by omega), hX⟩
      case round =>
        clear hS hR hX HN HX
        obtain ⟨b, xs, rfl, b1, HN, HX, hS, hR, hX⟩ := hrel
        by_cases hbt : b < a
        · have hbi : (b : Int) < (a : Int) := by omega
          have hbn : (b : Int) < (n : Int) := by omega
          go_wp2_with fail
          refine (pick_any B _ 5 _ hR (by omega) (by omega) (by omega)).mono ?_; rintro e w3 ⟨c, rfl, c0, c1, h3, hx3⟩
          have hS3 := SBlk.extK hS hx3 hne
          have hX3 := hX.trans hx3
          by_cases hc : c < 2 + of
          · have ka : a < xs.length := by rw [HN.out]; omega
            have da := blkNum hS3 ka
            have fa := SBlk.frozen hS3 a
            have xba := HX.out xs[a] (List.getElem_mem ka)
            obtain ⟨xa, hxa9⟩ : ∃ x, xs[a] = x := ⟨_, rfl⟩
            rw [hxa9] at da xba
            obtain ⟨xba0, xba1⟩ := xba
            clear hxa9
            obtain ⟨pa0, pa1⟩ := two_32 (k := b) (by omega)
            obtain ⟨pa, hpa⟩ : ∃ p, (2 : Int) ^ b = p := ⟨_, rfl⟩
            rw [hpa] at pa0 pa1
            have hj64a : (b : Int) ≤ 64 := by omega
            go_wp2_with fail
            go_region
            clear hpa da fa
            have hS4 := setNumB hS3 a ka (xa + pa)
            have h4 := h3.setOther (i := a) hB1 (.int .i64 (xa + pa))
            have hX4 := hX3.setNew hz1 a (.int .i64 (xa + pa))
            have HN4 : Hid ((xs.set a (xa + pa)).length = n) := Lib.hid (by rw [List.length_set]; exact HN.out)
            have HX4 : Hid (∀ x ∈ xs.set a (xa + pa), 0 ≤ x ∧ x ≤ (400 * a + 64 * b + 32 : Int)) := Lib.hid (set_bd (fun x hx => by have := HX.out x hx; omega) (by omega))
            generalize xs.set a (xa + pa) = ys at hS4 HN4 HX4
            generalize w3.setCell ⟨w1.heap.size, a, none⟩ (.int .i64 (xa + pa)) = w4 at hS4 h4 hX4 ⊢
            clear hS hR hX hS3 h3 hX3 hx3
            have kb : b < ys.length := by rw [HN4.out]; omega
            have db := blkNum hS4 kb
            have fb := SBlk.frozen hS4 b
            have xbb := HX4.out ys[b] (List.getElem_mem kb)
            obtain ⟨xb, hxb9⟩ : ∃ x, ys[b] = x := ⟨_, rfl⟩
            rw [hxb9] at db xbb
            obtain ⟨xbb0, xbb1⟩ := xbb
            clear hxb9
            obtain ⟨pb0, pb1⟩ := two_32 (k := a) (by omega)
            obtain ⟨pb, hpb⟩ : ∃ p, (2 : Int) ^ a = p := ⟨_, rfl⟩
            rw [hpb] at pb0 pb1
            have hj64b : (a : Int) ≤ 64 := by omega
            go_wp2_with fail
            go_region
            clear hpb db fb
            have hS5 := setNumB hS4 b kb (xb + pb)
            have h5 := h4.setOther (i := b) hB1 (.int .i64 (xb + pb))
            have hX5 := hX4.setNew hz1 b (.int .i64 (xb + pb))
            go_wp2_with fail
            go_roundw
            case rel => exact ⟨b + 1, ys.set b (xb + pb), by go_num, by omega, Lib.hid (by rw [List.length_set]; exact HN4.out), Lib.hid (set_bd (fun x hx => by have := HX4.out x hx; push_cast; omega) (by push_cast; omega)), hS5, (h5.drw.drw).mono (by push_cast; omega), hX5.drw.drw⟩
            case measure => simp [intOf]; omega
          · go_wp2_with fail
            go_roundw
            case rel => exact ⟨b + 1, xs, by go_num, by omega, HN, Lib.hid (fun x hx => by have := HX.out x hx; push_cast; omega), hS3, h3.mono (by push_cast; omega), hX3⟩
            case measure => simp [intOf]; omega
        · have hbi : ¬ (b : Int) < (a : Int) := by omega
          go_wp2_with fail
          go_roundw
          case rel => exact ⟨a + 1, xs, by go_num, by omega, HN, Lib.hid (fun x hx => by have := HX.out x hx; push_cast; omega), hS, hR.mono (by push_cast; omega), hX⟩
          case measure => simp [intOf]; omega
    · have hai : ¬ (a : Int) < (n : Int) := by omega
      have hOw := SOwn.of_blk hS hz1 HN.out (by unfold maxLen; omega)
      go_wp2_with fail
      refine (odd0_any B _ nn _ hR (by omega) hn hn1).mono ?_; rintro e w3 ⟨bb, rfl, h3, hx3⟩
      have hO3 := hOw.extK hx3 hBw
      have hX3 := hX.trans hx3
      have hz3 := hX3.size
      cases bb
      · go_wp2_with fail
        go_ret
        exact ⟨xs, _, n, (by rw [HN.out]; rfl), (by rw [HN.out]; omega), hO3, h3.mono (by omega), hX3⟩
      · go_wp2_with fail
        have hB3 := h3.lt
        have q0 : (w3.alloc (.cells #[.int .i64 1] 3)).heap[w3.heap.size]? = some (.cells #[.int .i64 1] 3) := by have := blk_new w3 (.cells #[.int .i64 1] 3); simpa using this
        have q1 : ((w3.alloc (.cells #[.int .i64 1] 3)).alloc (.cells #[.int .i64 2, .int .i64 0] 3)).heap[w3.heap.size + 1]? = some (.cells #[.int .i64 2, .int .i64 0] 3) := by have := blk_new (w3.alloc (.cells #[.int .i64 1] 3)) (.cells #[.int .i64 2, .int .i64 0] 3); simpa using this
        have q0 := blk_old q0 (.cells #[.int .i64 2, .int .i64 0] 3)
        have q2 : (((w3.alloc (.cells #[.int .i64 1] 3)).alloc (.cells #[.int .i64 2, .int .i64 0] 3)).alloc (.cells #[.int .i64 0, .int .i64 0, .int .i64 0, .int .i64 0, .int .i64 0, .int .i64 0, .int .i64 0] 3)).heap[w3.heap.size + 1 + 1]? = some (.cells #[.int .i64 0, .int .i64 0, .int .i64 0, .int .i64 0, .int .i64 0, .int .i64 0, .int .i64 0] 3) := by have := blk_new ((w3.alloc (.cells #[.int .i64 1] 3)).alloc (.cells #[.int .i64 2, .int .i64 0] 3)) (.cells #[.int .i64 0, .int .i64 0, .int .i64 0, .int .i64 0, .int .i64 0, .int .i64 0, .int .i64 0] 3); simpa using this
        have q0 := blk_old q0 (.cells #[.int .i64 0, .int .i64 0, .int .i64 0, .int .i64 0, .int .i64 0, .int .i64 0, .int .i64 0] 3)
        have q1 := blk_old q1 (.cells #[.int .i64 0, .int .i64 0, .int .i64 0, .int .i64 0, .int .i64 0, .int .i64 0, .int .i64 0] 3)
        have q3 : ((((w3.alloc (.cells #[.int .i64 1] 3)).alloc (.cells #[.int .i64 2, .int .i64 0] 3)).alloc (.cells #[.int .i64 0, .int .i64 0, .int .i64 0, .int .i64 0, .int .i64 0, .int .i64 0, .int .i64 0] 3)).alloc (.cells #[.int .i64 (-1)] 3)).heap[w3.heap.size + 1 + 1 + 1]? = some (.cells #[.int .i64 (-1)] 3) := by have := blk_new (((w3.alloc (.cells #[.int .i64 1] 3)).alloc (.cells #[.int .i64 2, .int .i64 0] 3)).alloc (.cells #[.int .i64 0, .int .i64 0, .int .i64 0, .int .i64 0, .int .i64 0, .int .i64 0, .int .i64 0] 3)) (.cells #[.int .i64 (-1)] 3); simpa using this
        have q0 := blk_old q0 (.cells #[.int .i64 (-1)] 3)
        have q1 := blk_old q1 (.cells #[.int .i64 (-1)] 3)
        have q2 := blk_old q2 (.cells #[.int .i64 (-1)] 3)
        have q4 : (((((w3.alloc (.cells #[.int .i64 1] 3)).alloc (.cells #[.int .i64 2, .int .i64 0] 3)).alloc (.cells #[.int .i64 0, .int .i64 0, .int .i64 0, .int .i64 0, .int .i64 0, .int .i64 0, .int .i64 0] 3)).alloc (.cells #[.int .i64 (-1)] 3)).alloc (.cells #[.slice (some ⟨w3.heap.size, 0, none⟩) 1 1, .slice (some ⟨w3.heap.size + 1, 0, none⟩) 2 2, .slice (some ⟨w3.heap.size + 1 + 1, 0, none⟩) 7 7, .slice (some ⟨w3.heap.size + 1 + 1 + 1, 0, none⟩) 1 1] 29)).heap[w3.heap.size + 1 + 1 + 1 + 1]? = some (.cells #[.slice (some ⟨w3.heap.size, 0, none⟩) 1 1, .slice (some ⟨w3.heap.size + 1, 0, none⟩) 2 2, .slice (some ⟨w3.heap.size + 1 + 1, 0, none⟩) 7 7, .slice (some ⟨w3.heap.size + 1 + 1 + 1, 0, none⟩) 1 1] 29) := by have := blk_new ((((w3.alloc (.cells #[.int .i64 1] 3)).alloc (.cells #[.int .i64 2, .int .i64 0] 3)).alloc (.cells #[.int .i64 0, .int .i64 0, .int .i64 0, .int .i64 0, .int .i64 0, .int .i64 0, .int .i64 0] 3)).alloc (.cells #[.int .i64 (-1)] 3)) (.cells #[.slice (some ⟨w3.heap.size, 0, none⟩) 1 1, .slice (some ⟨w3.heap.size + 1, 0, none⟩) 2 2, .slice (some ⟨w3.heap.size + 1 + 1, 0, none⟩) 7 7, .slice (some ⟨w3.heap.size + 1 + 1 + 1, 0, none⟩) 1 1] 29); simpa using this
        have q0 := blk_old q0 (.cells #[.slice (some ⟨w3.heap.size, 0, none⟩) 1 1, .slice (some ⟨w3.heap.size + 1, 0, none⟩) 2 2, .slice (some ⟨w3.heap.size + 1 + 1, 0, none⟩) 7 7, .slice (some ⟨w3.heap.size + 1 + 1 + 1, 0, none⟩) 1 1] 29)
        have q1 := blk_old q1 (.cells #[.slice (some ⟨w3.heap.size, 0, none⟩) 1 1, .slice (some ⟨w3.heap.size + 1, 0, none⟩) 2 2, .slice (some ⟨w3.heap.size + 1 + 1, 0, none⟩) 7 7, .slice (some ⟨w3.heap.size + 1 + 1 + 1, 0, none⟩) 1 1] 29)
        have q2 := blk_old q2 (.cells #[.slice (some ⟨w3.heap.size, 0, none⟩) 1 1, .slice (some ⟨w3.heap.size + 1, 0, none⟩) 2 2, .slice (some ⟨w3.heap.size + 1 + 1, 0, none⟩) 7 7, .slice (some ⟨w3.heap.size + 1 + 1 + 1, 0, none⟩) 1 1] 29)
        have q3 := blk_old q3 (.cells #[.slice (some ⟨w3.heap.size, 0, none⟩) 1 1, .slice (some ⟨w3.heap.size + 1, 0, none⟩) 2 2, .slice (some ⟨w3.heap.size + 1 + 1, 0, none⟩) 7 7, .slice (some ⟨w3.heap.size + 1 + 1 + 1, 0, none⟩) 1 1] 29)
        refine (pick_any B _ 4 _ (((((h3.alloc _).alloc _).alloc _).alloc _).alloc _) (by omega) (by omega) (by omega)).mono ?_; rintro e w4 ⟨j, rfl, j0, j1, h4, hx4⟩
        have hX4 := (((((hX3.alloc (.cells #[.int .i64 1] 3)).alloc (.cells #[.int .i64 2, .int .i64 0] 3)).alloc (.cells #[.int .i64 0, .int .i64 0, .int .i64 0, .int .i64 0, .int .i64 0, .int .i64 0, .int .i64 0] 3)).alloc (.cells #[.int .i64 (-1)] 3)).alloc (.cells #[.slice (some ⟨w3.heap.size, 0, none⟩) 1 1, .slice (some ⟨w3.heap.size + 1, 0, none⟩) 2 2, .slice (some ⟨w3.heap.size + 1 + 1, 0, none⟩) 7 7, .slice (some ⟨w3.heap.size + 1 + 1 + 1, 0, none⟩) 1 1] 29)).trans hx4
        have g0 := blk_ext q0 hx4 (by omega)
        have g1 := blk_ext q1 hx4 (by omega)
        have g2 := blk_ext q2 hx4 (by omega)
        have g3 := blk_ext q3 hx4 (by omega)
        have g4 := blk_ext q4 hx4 (by omega)
        clear q0 q1 q2 q3 q4
        have d0 : w4.cell? ⟨w3.heap.size + 1 + 1 + 1 + 1, 0, none⟩ = some (.slice (some ⟨w3.heap.size, 0, none⟩) 1 1) := by simp [World.cell?, g4]
        have d1 : w4.cell? ⟨w3.heap.size + 1 + 1 + 1 + 1, 1, none⟩ = some (.slice (some ⟨w3.heap.size + 1, 0, none⟩) 2 2) := by simp [World.cell?, g4]
        have d2 : w4.cell? ⟨w3.heap.size + 1 + 1 + 1 + 1, 2, none⟩ = some (.slice (some ⟨w3.heap.size + 1 + 1, 0, none⟩) 7 7) := by simp [World.cell?, g4]
        have d3 : w4.cell? ⟨w3.heap.size + 1 + 1 + 1 + 1, 3, none⟩ = some (.slice (some ⟨w3.heap.size + 1 + 1 + 1, 0, none⟩) 1 1) := by simp [World.cell?, g4]
        by_cases c0 : j = 0
        · subst c0
          go_wp2_with fail
          go_ret
          exact ⟨[1], _, 1, rfl, by decide, SOwn.of_blk (E := encNum) (xs := [1]) g0 (by omega) rfl (by unfold maxLen; omega), h4.mono (by omega), hX4⟩
        by_cases c1 : j = 1
        · subst c1
          go_wp2_with fail
          go_ret
          exact ⟨[2, 0], _, 2, rfl, by decide, SOwn.of_blk (E := encNum) (xs := [2, 0]) g1 (by omega) rfl (by unfold maxLen; omega), h4.mono (by omega), hX4⟩
        by_cases c2 : j = 2
        · subst c2
          go_wp2_with fail
          go_ret
          exact ⟨[0, 0, 0, 0, 0, 0, 0], _, 7, rfl, by decide, SOwn.of_blk (E := encNum) (xs := [0, 0, 0, 0, 0, 0, 0]) g2 (by omega) rfl (by unfold maxLen; omega), h4.mono (by omega), hX4⟩
        obtain rfl : j = 3 := by omega
        go_wp2_with fail
        go_ret
        exact ⟨[-1], _, 1, rfl, by decide, SOwn.of_blk (E := encNum) (xs := [-1]) g3 (by omega) rfl (by unfold maxLen; omega), h4.mono (by omega), hX4⟩
def DrewFriends (w : World) (e : Ending) (w' : World) : Prop := ∃ (xs : List Int) (A : Option Addr) (cap : Nat), e = .returned (.slice A xs.length cap) ∧ xs.length ≤ 7 ∧ SOwn encNum w' w.heap.size 3 A cap xs ∧ Below w.heap.size w w'
set_option maxRecDepth 100000 in
set_option maxHeartbeats 4000000 in
theorem drLinesMany_any (a : Option Addr) (len cap : Nat) (w : World) (h : CodeOk w a len cap) : Calls Try.prog 30 #[.slice a len cap] w (DrewFriends w) := by
  go_enter Try.func30, Try.ntmps30
  go_wp2_with fail
  refine (open_any _ _ _ _ h).mono ?_; rintro e w1 ⟨B, rfl, hB, h1, hb1⟩
  go_wp2_with fail
  refine (friends_any B 0 9 _ h1 (by omega) (by omega) (by omega)).mono ?_; rintro e w2 ⟨xs, A, cp, rfl, hx6, hO, _, hx⟩
  have hB2 := hb1.trans (hx.below (N := w.heap.size) (by omega) hb1.size)
  have hO2 := hO.mono hb1.size
  go_wp2_with fail
  go_ret
  exact ⟨xs, A, cp, rfl, hx6, hO2, hB2⟩
set_option maxRecDepth 100000 in
set_option maxHeartbeats 4000000 in
theorem drLineFirst_any (a : Option Addr) (len cap : Nat) (w : World) (h : CodeOk w a len cap) : Calls Try.prog 32 #[.slice a len cap] w (DrewFriends w) := by
  go_enter Try.func32, Try.ntmps32
  go_wp2_with fail
  refine (open_any _ _ _ _ h).mono ?_; rintro e w1 ⟨B, rfl, hB, h1, hb1⟩
  go_wp2_with fail
  refine (friends_any B 0 9 _ h1 (by omega) (by omega) (by omega)).mono ?_; rintro e w2 ⟨xs, A, cp, rfl, hx6, hO, _, hx⟩
  have hB2 := hb1.trans (hx.below (N := w.heap.size) (by omega) hb1.size)
  have hO2 := hO.mono hb1.size
  go_wp2_with fail
  go_ret
  exact ⟨xs, A, cp, rfl, hx6, hO2, hB2⟩
end Go.Proofs.Ytoklehmoeollfaa
