/- Plants and beds that are drawn together. -/
import Derived.Test.YtaikodebmkjafaaQd
import Derived.Test.YtaikodebmkjafaaPpb
namespace Go.Proofs.Ytaikodebmkjafaa
open Go Go.ChangeShapes Go.WideShapes Go.ChangeAt Go.RowKit
set_option linter.unusedSimpArgs false
set_option linter.unusedVariables false

def DrewBP (w : World) (e : Ending) (w' : World) : Prop := ∃ (bs : List Int) (A : Option Addr) (cap : Nat) (ps : List VPlant) (A2 : Option Addr) (cap2 : Nat), e = .returned (.tuple #[.slice A bs.length cap, .slice A2 ps.length cap2]) ∧ bs.length ≤ 7 ∧ ps.length ≤ 7 ∧ SOwn encNum w' w.heap.size 3 A cap bs ∧ SOwn encPlant w' w.heap.size 39 A2 cap2 ps ∧ Below w.heap.size w w'
set_option maxHeartbeats 4000000 in
theorem drPlantBest_any (a : Option Addr) (len cap : Nat) (w : World) (h : CodeOk w a len cap) : Calls Try.prog 22 #[.slice a len cap] w (DrewBP w) := by
  go_enter Try.func22, Try.ntmps22
  go_wp2_with fail
  refine (open_any _ _ _ _ h).mono ?_; rintro e w1 ⟨B, rfl, hB, h1, hb1⟩
  go_wp2_with fail
  refine (beds_any B 0 12 _ h1 (by omega) (by omega) (by omega)).mono ?_; rintro e w2 ⟨bs, A, cp, rfl, hx7, hO2, h2, hx2⟩
  obtain ⟨n, hn⟩ : ∃ n, bs.length = n := ⟨_, rfl⟩
  rw [hn] at hx7 ⊢
  have HN := Lib.hid hn
  clear hn
  go_wp2_with fail
  refine (plants_any B _ 12 _ h2 (by omega) (by omega) (by omega)).mono ?_; rintro e w3 ⟨ps, A2, cp2, rfl, hy7, hP3, h3, hx3⟩
  have hO3 := hO2.extK hx3 h1.lt
  have hX3 := hx2.trans hx3
  have hz := hb1.size
  have hz2 := hx2.size
  go_wp2
  go_ret2
  exact ⟨bs, A, cp, ps, A2, cp2, (by rw [HN.out]; rfl), (by rw [HN.out]; exact hx7), hy7, hO3.mono hb1.size, hP3.mono (by omega), hb1.trans (hX3.below (N := w.heap.size) (by omega) hb1.size)⟩
set_option maxHeartbeats 4000000 in
theorem drPlantMost_any (a : Option Addr) (len cap : Nat) (w : World) (h : CodeOk w a len cap) : Calls Try.prog 28 #[.slice a len cap] w (DrewBP w) := by
  go_enter Try.func28, Try.ntmps28
  go_wp2_with fail
  refine (drPlantBest_any _ _ _ _ h).mono ?_; rintro e w1 ⟨bs, A, cp, ps, A2, cp2, rfl, h7, h72, hO, hP, hB⟩
  go_wp2
  go_ret2
  exact ⟨bs, A, cp, ps, A2, cp2, rfl, h7, h72, hO, hP, hB⟩
def PlantedIs (B : Nat) (u : Int) (w : World) (e : Ending) (w' : World) : Prop := ∃ (bs : List Int) (A : Option Addr) (cap : Nat) (ps : List VPlant) (A2 : Option Addr) (cap2 : Nat) (us : List Int) (A3 : Option Addr) (cap3 : Nat), e = .returned (.tuple #[.slice A bs.length cap, .slice A2 ps.length cap2, .slice A3 us.length cap3]) ∧ bs.length ≤ 7 ∧ ps.length ≤ 7 ∧ us.length ≤ 7 ∧ SOwn encNum w' w.heap.size 3 A cap bs ∧ SOwn encPlant w' w.heap.size 39 A2 cap2 ps ∧ SOwn encNum w' w.heap.size 3 A3 cap3 us ∧ RdU B u w' ∧ Ext B w w'
def DrewPd (w : World) (e : Ending) (w' : World) : Prop := ∃ (bs : List Int) (A : Option Addr) (cap : Nat) (ps : List VPlant) (A2 : Option Addr) (cap2 : Nat) (us : List Int) (A3 : Option Addr) (cap3 : Nat), e = .returned (.tuple #[.slice A bs.length cap, .slice A2 ps.length cap2, .slice A3 us.length cap3]) ∧ bs.length ≤ 7 ∧ ps.length ≤ 7 ∧ us.length ≤ 7 ∧ SOwn encNum w' w.heap.size 3 A cap bs ∧ SOwn encPlant w' w.heap.size 39 A2 cap2 ps ∧ SOwn encNum w' w.heap.size 3 A3 cap3 us ∧ Below w.heap.size w w'
theorem SOwn.setP {α : Type} {E : Enc α} {w : World} {base : Nat} {T : TypeId} {A : Option Addr} {cap : Nat} {xs : List α} (h : SOwn E w base T A cap xs) {C : Nat} (hne : ∀ g, A = some ⟨g, 0, none⟩ → g ≠ C) (i : Nat) (v : Value) : SOwn E (w.setCell ⟨C, i, none⟩ v) base T A cap xs := by
  refine World.ownsRow.kept (row := some C) h ⟨rfl, rfl, rfl, by simp [World.setCell], fun k hk hk2 => by
    rw [Below.heap_setCell _ _ _ _ (fun e => hk2 (by rw [e]))]⟩ ?_
  rcases h.form with ⟨rfl, _⟩ | ⟨g, rfl, _⟩
  · exact .inl rfl
  · exact .inr (by simp [Value.ownBlock]; exact hne g rfl)
set_option maxRecDepth 100000 in
set_option maxHeartbeats 8000000 in
theorem planted_any (B : Nat) (u : Int) (w : World) (h : RdU B u w) (hu : u ≤ 500000) : Calls Try.prog 53 #[.pointer (some ⟨B, 0, none⟩)] w (PlantedIs B (u + 70) w) := by
  obtain ⟨i0, hi0, hz0, hz1, hz2⟩ := info_parts infoNum
  have HI := Lib.hid (And.intro hi0 (And.intro hz0 (And.intro hz1 hz2)))
  clear hi0 hz0 hz1 hz2
  have hBw := h.lt
  go_enter Try.func53, Try.ntmps53
  go_wp2_with fail
  refine (beds_any B u 14 _ h (by omega) (by omega) (by omega)).mono ?_; rintro e w1 ⟨bs, A, cp, rfl, hx7, hO1, h1, hx1⟩
  obtain ⟨n, hn⟩ : ∃ n, bs.length = n := ⟨_, rfl⟩
  rw [hn] at hx7 ⊢
  have HN := Lib.hid hn
  clear hn
  go_wp2_with fail
  refine (plants_any B _ 14 _ h1 (by omega) (by omega) (by omega)).mono ?_; rintro e w2 ⟨ps, A2, cp2, rfl, hy7, hP2, h2, hx2⟩
  obtain ⟨m, hm⟩ : ∃ m, ps.length = m := ⟨_, rfl⟩
  rw [hm] at hy7 ⊢
  have HM := Lib.hid hm
  clear hm
  have hz1 := hx1.size
  have hO2 := hO1.extK hx2 hBw
  have hX2 := hx1.trans hx2
  have hP2 := hP2.mono (base' := w.heap.size) hz1
  obtain ⟨l9, hl9⟩ : ∃ l, pbL bs ps = l := ⟨_, rfl⟩
  have hl6 : l9.length ≤ 6 := by rw [← hl9]; exact pbL_len
  have HL := Lib.hid hl9
  obtain ⟨q, hq⟩ : ∃ q, l9.length = q := ⟨_, rfl⟩
  rw [hq] at hl6
  have HQ := Lib.hid hq
  clear hl9 hq
  go_wp2_with fail
  refine (sPb_is A A2 cp cp2 bs ps _ HN.out HM.out hO2.row hP2.row (by omega) (by omega) HL.out).mono ?_; rintro E w3 ⟨A3, cp3, rfl, hU3, hB3⟩
  rw [HQ.out]
  have hO3 := hO2.next hB3
  have hP3 := hP2.next hB3
  have h3 := h2.next hB3
  have hX3 := hX2.of_below hB3
  have hz2 := hx2.size
  have hA2 : (∀ g, A = some ⟨g, 0, none⟩ → g < w2.heap.size) ∧ (∀ g, A2 = some ⟨g, 0, none⟩ → g < w2.heap.size) := ⟨fun g hg => by rcases hO2.form with ⟨e, _⟩ | ⟨g1, e, _, h9⟩; rw [e] at hg; cases hg; rw [e] at hg; cases hg; exact h9, fun g hg => by rcases hP2.form with ⟨e, _⟩ | ⟨g1, e, _, h9⟩; rw [e] at hg; cases hg; rw [e] at hg; cases hg; exact h9⟩
  have HA := Lib.hid hA2
  have hB2 := h2.lt
  clear hA2 hO1 hO2 hP2 h1 h2 hx1 hx2 hX2 HL
  obtain ⟨wq, hwq⟩ : ∃ wq : World, wq = w3 := ⟨_, rfl⟩
  clear hwq
  go_wp2_with fail
  go_loopw [8] (fun vk wr => ∃ (k : Nat) (us : List Int), vk = .int .i64 k ∧ k ≤ q ∧ Hid (us.length = q) ∧ SOwn encNum wr w.heap.size 3 A cp bs ∧ SOwn encPlant wr w.heap.size 39 A2 cp2 ps ∧ SOwn encNum wr w2.heap.size 3 A3 cp3 us ∧ RdU B (u + 36 + 3 * k) wr ∧ w2.heap.size ≤ wr.heap.size ∧ Ext B w wr) (fun vk _ => (q - intOf vk).toNat)
  case atStart => exact ⟨0, l9, rfl, by omega, HQ, hO3, hP3, hU3, h3.mono (by omega), hB3.size, hX3⟩
  case round =>
    clear hO3 hP3 hU3 h3 hX3
    obtain ⟨k, us, rfl, k1, HU, hO, hP, hU, hR, hS2, hX⟩ := hrel
    by_cases hlt : k < q
    · have hki : (k : Int) < (q : Int) := by omega
      go_wp2_with fail
      refine (pick_any B _ 4 _ hR (by omega) (by omega) (by omega)).mono ?_; rintro e xa ⟨a, rfl, a0, a1, hRa, hxa⟩
      have hOa := hO.extK hxa (by omega)
      have hPa := hP.extK hxa (by omega)
      have hUa := hU.extK hxa (by omega)
      have hXa := hX.trans hxa
      have hs_a := hxa.size
      by_cases ca : a = 0
      · have cab : (a == 0) = true := by rw [beq_iff_eq]; exact ca
        clear ca
        have hk : k < us.length := by rw [HU.out]; exact hlt
        obtain ⟨g3, rfl, hg3, hgl3⟩ := hUa.at_ hk
        have d0 := ownNum hUa hk
        have f0 := hUa.frozen k
        have HU2 : Hid ((us.set k (-1)).length = q) := Lib.hid (by rw [List.length_set]; exact HU.out)
        generalize us[k] = cur at d0
        have hO9 := SOwn.setP hOa (C := g3) (fun g hg => by have := HA.out.1 g hg; omega) k (.int .i64 (-1))
        have hP9 := SOwn.setP hPa (C := g3) (fun g hg => by have := HA.out.2 g hg; omega) k (.int .i64 (-1))
        have hU9 := setNumO hUa k hk (-1)
        have hR9 := hRa.setOther (C := g3) (i := k) (by omega) (.int .i64 (-1))
        have hX9 := hXa.setNew (C := g3) (by omega) k (.int .i64 (-1))
        go_wp2_with fail
        go_roundw
        case rel => exact ⟨k + 1, us.set k (-1), by go_num, by omega, HU2, hO9, hP9, hU9, hR9.mono (by push_cast; omega), by simp [World.setCell]; omega, hX9⟩
        case measure => simp [intOf]; omega
      · have cab : (a == 0) = false := by rw [beq_eq_false_iff_ne]; exact ca
        clear ca
        go_wp2_with fail
        refine (pick_any B _ 12 _ hRa (by omega) (by omega) (by omega)).mono ?_; rintro e xc ⟨c, rfl, c0, c1, hRc, hxc⟩
        have hOc := hOa.extK hxc (by omega)
        have hPc := hPa.extK hxc (by omega)
        have hUc := hUa.extK hxc (by omega)
        have hXc := hXa.trans hxc
        have hs_c := hxc.size
        by_cases cc : c = 0
        · have ccb : (c == 0) = true := by rw [beq_iff_eq]; exact cc
          clear cc
          go_wp2_with fail
          refine (pick_any B _ ((n : Int) + 1) _ hRc (by omega) (by omega) (by omega)).mono ?_; rintro e xd ⟨d, rfl, d0, d1, hRd, hxd⟩
          have hOd := hOc.extK hxd (by omega)
          have hPd := hPc.extK hxd (by omega)
          have hUd := hUc.extK hxd (by omega)
          have hXd := hXc.trans hxd
          have hs_d := hxd.size
          have hk : k < us.length := by rw [HU.out]; exact hlt
          obtain ⟨g3, rfl, hg3, hgl3⟩ := hUd.at_ hk
          have d0 := ownNum hUd hk
          have f0 := hUd.frozen k
          have HU2 : Hid ((us.set k (d)).length = q) := Lib.hid (by rw [List.length_set]; exact HU.out)
          generalize us[k] = cur at d0
          have hO9 := SOwn.setP hOd (C := g3) (fun g hg => by have := HA.out.1 g hg; omega) k (.int .i64 (d))
          have hP9 := SOwn.setP hPd (C := g3) (fun g hg => by have := HA.out.2 g hg; omega) k (.int .i64 (d))
          have hU9 := setNumO hUd k hk (d)
          have hR9 := hRd.setOther (C := g3) (i := k) (by omega) (.int .i64 (d))
          have hX9 := hXd.setNew (C := g3) (by omega) k (.int .i64 (d))
          go_wp2_with fail
          go_roundw
          case rel => exact ⟨k + 1, us.set k (d), by go_num, by omega, HU2, hO9, hP9, hU9, hR9.mono (by push_cast; omega), by simp [World.setCell]; omega, hX9⟩
          case measure => simp [intOf]; omega
        · have ccb : (c == 0) = false := by rw [beq_eq_false_iff_ne]; exact cc
          clear cc
          go_wp2_with fail
          go_roundw
          case rel => exact ⟨k + 1, us, by go_num, by omega, HU, hOc, hPc, hUc, hRc.mono (by push_cast; omega), by omega, hXc⟩
          case measure => simp [intOf]; omega
    · obtain rfl : k = q := by omega
      have hki : ¬ (k : Int) < (k : Int) := by omega
      go_wp2_with fail
      refine (odd0_any B _ 14 _ hR (by omega) (by omega) (by omega)).mono ?_; rintro e w9 ⟨bb, rfl, hR9, hx9⟩
      have hO9 := hO.extK hx9 (by omega)
      have hP9 := hP.extK hx9 (by omega)
      have hU9 := hU.extK hx9 (by omega)
      have hX9 := hX.trans hx9; have hS29 : w2.heap.size ≤ w9.heap.size := by (have := hx9.size; omega)
      cases bb
      · go_wp2
        go_ret3
        exact ⟨bs, A, cp, ps, A2, cp2, us, A3, cp3, (by rw [HN.out, HM.out, HU.out]; rfl), (by rw [HN.out]; exact hx7), (by rw [HM.out]; exact hy7), (by rw [HU.out]; omega), hO9, hP9, hU9.mono (by omega), hR9.mono (by omega), hX9⟩
      · have hz9 := hX9.size
        have hUl : w2.heap.size ≤ w9.heap.size := hS29
        have hUa := hU9.alloc (.cells (encNum.enc (-1)).toArray 3)
        go_wp2_with (at_builtin; refine wpList_append_lies _ rfl (.tmp 41) (.tmp 42) _ rfl w2.heap.size 3 i0 _ 1 8 Try.underlying23 HI.out.1 HI.out.2.1 HI.out.2.2.1 HI.out.2.2.2 rfl (by omega) (.slice A3 k cp3) k (encNum.flat us) rfl (by unfold SOwn at hUa; rw [HU.out] at hUa; exact hUa) ⟨w9.heap.size, 0, none⟩ 1 1 (encNum.enc (-1)) rfl rfl (new_enc (E := encNum) w9 (-1) _) (encNum.one _) (by omega) (by simp only [maxLen]; omega) (by omega) (by simp; omega) _ rfl ?_; intro g5 cap5 w5 hown5 hgr5 hat5 hlt5)
        have hne : ∀ j, Value.ownBlock (.slice A3 k cp3) = some j → w2.heap.size ≤ j := fun j hj => SOwn.ge_baseK hUa j hj
        have hO5 := (hO9.alloc (.cells (encNum.enc (-1)).toArray 3)).grown_far hgr5 (fun g hg e9 => by have := hne _ e9; have := HA.out.1 g hg; omega)
        have hP5 := (hP9.alloc (.cells (encNum.enc (-1)).toArray 3)).grown_far hgr5 (fun g hg e9 => by have := hne _ e9; have := HA.out.2 g hg; omega)
        have hR5 := (hR9.alloc (.cells (encNum.enc (-1)).toArray 3)).farK hgr5 (fun j hj => by have := hne j hj; omega)
        have hX5 := (hX9.alloc (.cells (encNum.enc (-1)).toArray 3)).far_grownK hgr5 (fun j hj => by have := hne j hj; omega)
        have hsn := SOwn.snoc (E := encNum) (xs := us) (x := -1) (by rw [HU.out]; exact hown5)
        have HUL : Hid ((us ++ [(-1 : Int)]).length = k + 1) := Lib.hid (by rw [List.length_append, HU.out]; rfl)
        go_wp2
        go_ret3
        exact ⟨bs, A, cp, ps, A2, cp2, (us ++ [-1]), some ⟨g5, 0, none⟩, cap5, (by rw [HN.out, HM.out, HUL.out]; rfl), (by rw [HN.out]; exact hx7), (by rw [HM.out]; exact hy7), (by rw [HUL.out]; omega), hO5, hP5, hsn.mono (by omega), hR5.mono (by omega), hX5⟩
set_option maxHeartbeats 4000000 in
theorem drPlantedOk_any (a : Option Addr) (len cap : Nat) (w : World) (h : CodeOk w a len cap) : Calls Try.prog 14 #[.slice a len cap] w (DrewPd w) := by
  go_enter Try.func14, Try.ntmps14
  go_wp2_with fail
  refine (open_any _ _ _ _ h).mono ?_; rintro e w1 ⟨B, rfl, hB, h1, hb1⟩
  go_wp2_with fail
  refine (planted_any B 0 _ h1 (by omega)).mono ?_; rintro e w2 ⟨bs, A, cp, ps, A2, cp2, us, A3, cp3, rfl, h7, h72, h73, hO, hP, hU, _, hx⟩
  go_wp2
  go_ret3
  exact ⟨bs, A, cp, ps, A2, cp2, us, A3, cp3, rfl, h7, h72, h73, hO.mono hb1.size, hP.mono hb1.size, hU.mono hb1.size, hb1.trans (hx.below (N := w.heap.size) (by omega) hb1.size)⟩
set_option maxHeartbeats 4000000 in
theorem drPlantedMany_any (a : Option Addr) (len cap : Nat) (w : World) (h : CodeOk w a len cap) : Calls Try.prog 20 #[.slice a len cap] w (DrewPd w) := by
  go_enter Try.func20, Try.ntmps20
  go_wp2_with fail
  refine (open_any _ _ _ _ h).mono ?_; rintro e w1 ⟨B, rfl, hB, h1, hb1⟩
  go_wp2_with fail
  refine (planted_any B 0 _ h1 (by omega)).mono ?_; rintro e w2 ⟨bs, A, cp, ps, A2, cp2, us, A3, cp3, rfl, h7, h72, h73, hO, hP, hU, _, hx⟩
  go_wp2
  go_ret3
  exact ⟨bs, A, cp, ps, A2, cp2, us, A3, cp3, rfl, h7, h72, h73, hO.mono hb1.size, hP.mono hb1.size, hU.mono hb1.size, hb1.trans (hx.below (N := w.heap.size) (by omega) hb1.size)⟩
end Go.Proofs.Ytaikodebmkjafaa
