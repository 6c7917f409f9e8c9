/- Rows of houses and outlines that are drawn. -/
import Derived.Test.YtifnengegbiijabDa
import Derived.Test.YtifnengegbiijabKo
import Derived.Test.YtifnengegbiijabRdU
import Derived.Test.YtifnengegbiijabLp
import Derived.Laws.AppendOwn
namespace Go.Proofs.Ytifnengegbiijab
open Go Go.ChangeShapes Go.WideShapes Go.ChangeAt Go.RowKit
set_option linter.unusedSimpArgs false
set_option linter.unusedVariables false

theorem SOwn.extK {α : Type} {E : Enc α} {w w' : World} {base B : Nat} {T : TypeId} {A : Option Addr} {cap : Nat} {xs : List α} (h : SOwn E w base T A cap xs) (hx : Ext B w w') (hB : B < base) : SOwn E w' base T A cap xs := by
  refine h.grown_far (row := some B) ⟨hx.os, hx.tape, hx.output, hx.size, fun k hk hne => hx.block k hk (fun e => hne (by rw [e]))⟩ (fun g hg e => ?_)
  rcases h.form with ⟨e2, _⟩ | ⟨g2, e2, hb, _⟩
  · rw [e2] at hg; cases hg
  · rw [e2] at hg; cases hg; cases e; omega
theorem RdU.farK {B : Nat} {u : Int} {w w' : World} {row : Option Nat} (h : RdU B u w) (hg : w.grownBy w' row) (hne : ∀ k, row = some k → B < k) : RdU B u w' := by
  obtain ⟨sl, p, h1, h2, h3, h4⟩ := h
  have hb := hg.block B (blk_lt h1) (fun e => by have := hne B e.symm; omega)
  refine ⟨sl, p, by rw [hb]; exact h1, h2, h3, ?_⟩
  rcases h4 with h4 | ⟨b, off, len, cap, e, k1, k2, k3, k4⟩
  · exact .inl h4
  · refine .inr ⟨b, off, len, cap, e, k1, k2, k3, ?_⟩
    intro i hi
    obtain ⟨v, q1, q2⟩ := k4 i hi
    have hb2 := hg.block b (World.block_lt_of_cell? w _ q1) (fun e => by have := hne b e.symm; omega)
    refine ⟨v, ?_, q2⟩
    simp only [World.cell?] at q1 ⊢
    rw [hb2]; exact q1
theorem SOwn.ge_baseK {α : Type} {E : Enc α} {w : World} {base : Nat} {T : TypeId} {A : Option Addr} {cap n : Nat} {xs : List α} (h : SOwn E w base T A cap xs) : ∀ k, Value.ownBlock (.slice A n cap) = some k → base ≤ k := by
  intro k hk
  rcases h.form with ⟨rfl, _⟩ | ⟨g, rfl, hb, _⟩
  · simp [Value.ownBlock] at hk
  · simp [Value.ownBlock] at hk; omega
theorem Ext.far_grownK {B : Nat} {a w w' : World} {row : Option Nat} (h : Ext B a w) (hg : w.grownBy w' row) (hr : ∀ k, row = some k → a.heap.size ≤ k) : Ext B a w' :=
  ⟨hg.os.trans h.os, hg.tape.trans h.tape, hg.output.trans h.output, Nat.le_trans h.size hg.size, fun k hk hne => (hg.block k (Nat.lt_of_lt_of_le hk h.size) (fun e => by have := hr k e.symm; omega)).trans (h.block k hk hne)⟩
theorem own_valK {w : World} {base size n : Nat} {T : TypeId} {v : Value} {L : List Value} (h : w.ownsRow base T size v n L) : ∃ A cap, v = .slice A n cap := by
  rcases h.2 with ⟨e, e0⟩ | ⟨g, cap', cur, e, _⟩
  · exact ⟨none, 0, by rw [e, e0]⟩
  · exact ⟨_, _, e⟩
theorem SRow.newsK {α : Type} {E : Enc α} {w : World} {ad : Addr} {xs : List α} (h : SRow E w (some ad) xs) : ∀ j u, (E.flat xs)[j]? = some u → w.cell? (ad.add j) = some u := by
  intro j u hu
  rcases h with rfl | ⟨b, off, e, hc⟩
  · simp [E.flat_nil] at hu
  · obtain rfl := Option.some.inj e
    have hk := E.pos
    have hj : j < xs.length * E.k := by
      have := (List.getElem?_eq_some_iff.1 hu).1
      rwa [E.flat_len] at this
    have hq : j / E.k < xs.length := by rw [Nat.div_lt_iff_lt_mul hk]; exact hj
    have hm : j / E.k * E.k + j % E.k = j := by rw [Nat.mul_comm]; exact Nat.div_add_mod j E.k
    have e1 := E.flat_at xs (j / E.k) hq (j % E.k) (Nat.mod_lt j hk)
    rw [hm, hu] at e1
    have := hc (j / E.k) hq (j % E.k) u e1.symm
    rw [hm] at this
    unfold Addr.add
    split
    · rename_i e; subst e; exact this
    · exact this
theorem SOwn.tailK {α : Type} {E : Enc α} {w : World} {base g cap : Nat} {T : TypeId} {xs : List α} (h : SOwn E w base T (some ⟨g, 0, none⟩) cap xs) : SRow E w (some ⟨g, E.k, none⟩) (xs.drop 1) := by
  refine .inr ⟨g, E.k, rfl, fun i hi j v hv => ?_⟩
  have hi2 : i + 1 < xs.length := by rw [List.length_drop] at hi; omega
  have := h.cell (i + 1) hi2 j v (by simpa [Nat.add_comm] using hv)
  rw [show E.k + (i * E.k + j) = (i + 1) * E.k + j by rw [Nat.add_mul]; omega]
  exact this
def HousesIs (B : Nat) (u : Int) (w : World) (e : Ending) (w' : World) : Prop :=
  ∃ (xs : List VHouse) (A : Option Addr) (cap : Nat), e = .returned (.slice A xs.length cap) ∧ xs.length ≤ 7 ∧ SOwn encHouse w' w.heap.size 35 A cap xs ∧ RdU B u w' ∧ Ext B w w'
set_option maxRecDepth 100000 in
set_option maxHeartbeats 8000000 in
theorem houses_any (B : Nat) (u n : Int) (w : World) (h : RdU B u w) (hu : u ≤ 600000) (hn : 0 ≤ n) (hn1 : n ≤ 1000000) : Calls Try.prog 43 #[.pointer (some ⟨B, 0, none⟩), .int .i64 n] w (HousesIs B (u + 21) w) := by
  have hBw := h.lt
  obtain ⟨i0, hi0, hz0, hz1, hz2⟩ := info_parts infoHouse
  have HI := Lib.hid (And.intro hi0 (And.intro hz0 (And.intro hz1 hz2)))
  clear hi0 hz0 hz1 hz2
  go_enter Try.func43, Try.ntmps43
  go_wp2_with fail
  refine (pick_any B u 7 _ (h.alloc _) (by omega) (by omega) (by omega)).mono ?_; rintro e w1 ⟨k0, rfl, k00, k01, h1, hx1⟩
  have hO1 := (SOwn.empty (E := encHouse) (blk_new w (.cells #[] 35)) (Nat.le_refl _)).extK hx1 hBw
  have hE1 := ((Ext.refl B w).alloc (.cells #[] 35)).trans hx1
  go_wp2_with fail
  go_loopw [5, 6] (fun vo vk wr => ∃ (k : Int) (xs : List VHouse) (g cp m : Nat), vk = .int .i64 k ∧ vo = .slice (some ⟨g, 0, none⟩) m cp ∧ 0 ≤ k ∧ (m : Int) + k ≤ 6 ∧ Hid (xs.length = m) ∧ SOwn encHouse wr w.heap.size 35 (some ⟨g, 0, none⟩) cp xs ∧ RdU B (u + 1 + 3 * (6 - k)) wr ∧ Ext B w wr) (fun _ vk _ => (intOf vk).toNat)
  case atStart => exact ⟨k0, [], _, 0, 0, rfl, rfl, k00, by omega, (by show _ = _; rfl), hO1, h1.mono (by omega), hE1⟩
  case round =>
    obtain ⟨k, xs, g, cp, m, rfl, rfl, k0', mk, HM, hO, hR, hX⟩ := hrel
    by_cases hk : 0 < k
    · go_wp2_with fail
      refine (pick_any B _ 30 _ hR (by omega) (by omega) (by omega)).mono ?_; rintro e w2 ⟨f, rfl, f0, f1, h2, hx2⟩
      have hO2 := hO.extK hx2 hBw
      have hX2 := hX.trans hx2
      go_wp2_with fail
      refine (pick_any B _ 6 _ h2 (by omega) (by omega) (by omega)).mono ?_; rintro e w3 ⟨t, rfl, t0, t1, h3, hx3⟩
      have hO3 := hO2.extK hx3 hBw
      have hX3 := hX2.trans hx3
      have hz3 := hX3.size
      have hH_0 := blk_new w3 (.cells #[.int .i64 f, .int .i64 0, .int .i64 (1 + t)] 35 (0, 0))
      have hR_0 := h3.alloc (.cells #[.int .i64 f, .int .i64 0, .int .i64 (1 + t)] 35 (0, 0))
      have hE_0 := hX3.alloc (.cells #[.int .i64 f, .int .i64 0, .int .i64 (1 + t)] 35 (0, 0))
      have hO_0 := hO3.alloc (.cells #[.int .i64 f, .int .i64 0, .int .i64 (1 + t)] 35 (0, 0))
      have hB3 := h3.lt
      obtain ⟨C, hC⟩ : ∃ C, w3.heap.size = C := ⟨_, rfl⟩
      go_wp2_with fail
      rw [hC] at hH_0 hz3
      have hCB : C ≠ B := by omega
      have hgC : g < C := by rcases hO3.form with ⟨e, _⟩ | ⟨g9, e, _, h9⟩; cases e; cases e; omega
      clear hC
      have hH_0 := blk_drw hH_0
      have hR_0 := hR_0.drw
      have hE_0 := hE_0.drw
      have hO_0 := hO_0.drew
      have hwf : IntKind.i64.wrap (f + 1) = f + 1 := IntWalk.i64_in _ (by omega)
      refine wp_region_held_drew (S := (fun w' => ∃ q : Int, w'.heap[C]? = some (.cells #[.int .i64 f, .int .i64 q, .int .i64 (1 + t)] 35 (0, 0)))) (by kernel_rfl) ⟨0, hH_0⟩ (fun hHeld => ?_)
      clear hHeld
      refine wpAnyH_take (i := 0) (oi := _) (v := ?_) rfl (by kernel_rfl) (by kernel_rfl) (by kernel_rfl) (fun _ _ _ h => h) (Or.inl ⟨by rfl, ?_⟩) ⟨0, hH_0⟩ ?_
      (rotate_left); (focus (intro wv hSw; (obtain ⟨qq, qH⟩ := hSw);  go_simp; (try with_reducible rfl)))
      try simp only [Act.put, List.getElem_toArray, List.getElem_cons_succ, List.getElem_cons_zero, List.setIfInBounds_toArray, List.set_cons_zero, List.set_cons_succ]
      refine wpAnyH_take (i := 1) (oi := _) (v := ?_) rfl (by kernel_rfl) (by kernel_rfl) (by kernel_rfl) (fun _ _ _ h => h) (Or.inl ⟨by rfl, ?_⟩) ⟨0, hH_0⟩ ?_
      (rotate_left); (focus (intro wv hSw; (obtain ⟨qq, qH⟩ := hSw); obtain ⟨u0, u1, u2, _, _, _, _⟩ := blk3 qH; go_simp; (try with_reducible rfl)))
      try simp only [Act.put, List.getElem_toArray, List.getElem_cons_succ, List.getElem_cons_zero, List.setIfInBounds_toArray, List.set_cons_zero, List.set_cons_succ]
      refine wpAnyH_take (i := 2) (oi := _) (v := ?_) rfl (by kernel_rfl) (by kernel_rfl) (by kernel_rfl) (fun _ _ _ h => h) (Or.inl ⟨by rfl, ?_⟩) ⟨0, hH_0⟩ ?_
      (rotate_left); (focus (intro wv hSw; (obtain ⟨qq, qH⟩ := hSw);  go_simp; (try with_reducible rfl)))
      try simp only [Act.put, List.getElem_toArray, List.getElem_cons_succ, List.getElem_cons_zero, List.setIfInBounds_toArray, List.set_cons_zero, List.set_cons_succ]
      refine wpAnyH_take (i := 3) (oi := _) (v := ?_) rfl (by kernel_rfl) (by kernel_rfl) (by kernel_rfl) (fun _ _ _ h => h) (Or.inl ⟨by rfl, ?_⟩) ⟨0, hH_0⟩ ?_
      (rotate_left); (focus (intro wv hSw; (obtain ⟨qq, qH⟩ := hSw);  go_simp; (try with_reducible rfl)))
      try simp only [Act.put, List.getElem_toArray, List.getElem_cons_succ, List.getElem_cons_zero, List.setIfInBounds_toArray, List.set_cons_zero, List.set_cons_succ]
      refine wpAnyH_ready (rs := [4]) (by kernel_rfl) (by simp) ?_
      refine AllReadyH.cons (o := _) rfl (fun K hK => ?_) AllReadyH.nil
      go_simp
      (go_at_call 41; refine (pick_any B _ 10 _ hR_0 (by omega) (by omega) (by omega)).mono ?_; rintro e x0c ⟨z, rfl, z0, z1, hR_0c, hw_0c⟩)
      refine hK.out _ _ ⟨0, blk_ext hH_0 hw_0c hCB⟩ (fun hHeld => ?_)
      clear hK K
      try simp only [Act.put, List.getElem_toArray, List.getElem_cons_succ, List.getElem_cons_zero, List.setIfInBounds_toArray, List.set_cons_zero, List.set_cons_succ]
      clear hHeld
      have hH_0c := blk_ext hH_0 hw_0c hCB
      have hE_0c := hE_0.trans hw_0c
      have hO_0c := hO_0.extK hw_0c hBw
      refine wpAnyH_take (i := 5) (oi := _) (v := ?_) rfl (by kernel_rfl) (by kernel_rfl) (by kernel_rfl) (fun _ _ _ h => h) (Or.inl ⟨by rfl, ?_⟩) ⟨0, hH_0c⟩ ?_
      (rotate_left); (focus (intro wv hSw; (obtain ⟨qq, qH⟩ := hSw);  go_simp; (try with_reducible rfl)))
      try simp only [Act.put, List.getElem_toArray, List.getElem_cons_succ, List.getElem_cons_zero, List.setIfInBounds_toArray, List.set_cons_zero, List.set_cons_succ]
      refine wpAnyH_take (i := 6) (oi := _) (v := ?_) rfl (by kernel_rfl) (by kernel_rfl) (by kernel_rfl) (fun _ _ _ h => h) (Or.inl ⟨by rfl, ?_⟩) ⟨0, hH_0c⟩ ?_
      (rotate_left); (focus (intro wv hSw; (obtain ⟨qq, qH⟩ := hSw);  go_simp; (try with_reducible rfl)))
      try simp only [Act.put, List.getElem_toArray, List.getElem_cons_succ, List.getElem_cons_zero, List.setIfInBounds_toArray, List.set_cons_zero, List.set_cons_succ]
      have hwz : IntKind.i64.wrap (f + 1 + z) = f + 1 + z := IntWalk.i64_in _ (by omega)
      obtain ⟨_, _, _, _, _, _, hCl⟩ := blk3 hH_0c
      have hBl := hR_0c.lt
      have hH_1 := blk3_at1 (v := .int .i64 (f + 1 + z)) hH_0c
      have hR_1 := hR_0c.setOther (C := C) (by omega) (i := 1) (.int .i64 (f + 1 + z))
      have hE_1 := hE_0c.setNew (C := C) (by omega) 1 (.int .i64 (f + 1 + z))
      refine wpAnyH_ready (rs := [7]) (by kernel_rfl) (by simp) ?_
      refine AllReadyH.cons (o := _) rfl (fun K hK => ?_) AllReadyH.nil
      go_simp
      refine hK.out _ _ ⟨_, hH_1⟩ (fun hHeld => ?_)
      clear hHeld hK K
      try simp only [Act.put, List.getElem_toArray, List.getElem_cons_succ, List.getElem_cons_zero, List.setIfInBounds_toArray, List.set_cons_zero, List.set_cons_succ]
      refine wpAnyH_done (by kernel_rfl) ?_ _
      have hO_1 : SOwn encHouse (World.setCell x0c ⟨C, 1, none⟩ (.int .i64 (f + 1 + z))) w.heap.size 35 (some ⟨g, 0, none⟩) cp xs := hO_0c.grown_far (row := some C) (setAll_grown [.int .i64 (f + 1 + z)] 1 ⟨rfl, rfl, rfl, Nat.le_refl _, fun _ _ _ => rfl⟩) (fun g9 hg e9 => by cases e9; simp at hg <;> omega)
      clear hH_0c hR_0c hE_0c hO_0c hH_0 hR_0 hE_0 hO_0
      generalize World.setCell x0c ⟨C, 1, none⟩ (.int .i64 (f + 1 + z)) = w5 at hH_1 hR_1 hE_1 hO_1 ⊢
      obtain ⟨q0, q1, q2, _, _, _, _⟩ := blk3 hH_1
      have hz5 := hE_1.size
      go_wp2_with (at_builtin; refine wpList_append_lies _ rfl (.tmp 28) (.tmp 30) _ rfl w.heap.size 35 i0 _ 3 24 Try.underlying31 HI.out.1 HI.out.2.1 HI.out.2.2.1 HI.out.2.2.2 rfl (by omega) (.slice (some ⟨g, 0, none⟩) m cp) m (encHouse.flat xs) rfl (by have q := hO_1.alloc (.cells (encHouse.enc (f, f + 1 + z, 1 + t)).toArray 35); unfold SOwn at q; rw [HM.out] at q; exact q) ⟨w5.heap.size, 0, none⟩ 1 1 (encHouse.enc (f, f + 1 + z, 1 + t)) rfl rfl (new_enc (E := encHouse) w5 (f, f + 1 + z, 1 + t) _) (encHouse.one _) (by omega) (by simp only [maxLen]; omega) (by omega) (by simp; omega) _ rfl ?_; intro g5 cap5 w6 hown5 hgr5 hat5 hlt5)
      have hne : ∀ k, Value.ownBlock (.slice (some ⟨g, 0, none⟩) m cp) = some k → B < k := fun k hk => by have := SOwn.ge_baseK (hO_1.alloc (.cells (encHouse.enc (f, f + 1 + z, 1 + t)).toArray 35)) k hk; omega
      have hB5 := (hR_1.alloc (.cells (encHouse.enc (f, f + 1 + z, 1 + t)).toArray 35)).farK hgr5 hne
      have hE5 := (hE_1.alloc (.cells (encHouse.enc (f, f + 1 + z, 1 + t)).toArray 35)).far_grownK hgr5 (SOwn.ge_baseK (hO_1.alloc (.cells (encHouse.enc (f, f + 1 + z, 1 + t)).toArray 35)))
      go_wp2_with fail
      go_roundw
      case rel => exact ⟨k - 1, xs ++ [(f, f + 1 + z, 1 + t)], g5, cap5, m + 1, by go_num, rfl, by omega, by push_cast; omega, (by show _ = _; rw [List.length_append, HM.out]; rfl), SOwn.snoc (E := encHouse) (by rw [HM.out]; exact hown5), hB5.mono (by omega), hE5⟩
      case measure => simp [intOf]; omega
    · obtain rfl : k = 0 := by omega
      have hm5 : m ≤ 6 := by omega
      go_wp2_with fail
      refine (odd0_any B _ n _ hR (by omega) hn hn1).mono ?_; rintro e w3 ⟨b, rfl, h3, hx3⟩
      have hO3 := hO.extK hx3 hBw
      have hX3 := hX.trans hx3
      cases b
      · go_wp2_with fail
        go_ret
        exact ⟨xs, _, cp, (by rw [HM.out]; rfl), (by rw [HM.out]; omega), hO3, h3.mono (by omega), hX3⟩
      · go_wp2_with fail
        refine (pick_any B _ 3 _ h3 (by omega) (by omega) (by omega)).mono ?_; rintro e w4 ⟨j, rfl, j0, j1, h4, hx4⟩
        have hO4 := hO3.extK hx4 hBw
        have hX4 := hX3.trans hx4
        have hz4 := hX4.size
        by_cases c : j = 0
        · subst c
          go_wp2_with (at_make; refine wpList_make_structs _ encHouse (0, 0, 0) rfl _ _ 31 rfl 35 i0 _ Try.underlying31 HI.out.1 HI.out.2.1 HI.out.2.2.1 rfl .i64 .i64 7 rfl rfl (by rw [HI.out.2.2.2]; omega) (by omega) ?_)
          go_ret
          exact ⟨List.replicate 7 (0, 0, 0), _, 7, by simp, by simp, SOwn.of_blk (E := encHouse) (blk_new w4 _) hz4 (by simp) (by unfold maxLen; omega), (h4.alloc _).mono (by omega), hX4.alloc _⟩
        · have e0 : (j == 0) = false := by rw [beq_eq_false_iff_ne]; omega
          by_cases d : j = 1
          · subst d
            clear c
            obtain ⟨hcp, _⟩ := hO4.cap
            rw [HM.out] at hcp
            by_cases hm0 : m = 0
            · subst hm0
              have HYL : Hid (([] : List VHouse).length = 0) := by show _ = _; rfl
              have hL : SOwn encHouse (w4.alloc (.cells (encHouse.enc (3, 3, 1)).toArray 35)) w.heap.size 35 (some ⟨w4.heap.size, 0, none⟩) 1 [(3, 3, 1)] := SOwn.of_blk (E := encHouse) (xs := [(3, 3, 1)]) (blk_new w4 (.cells (encHouse.enc (3, 3, 1)).toArray 35)) hz4 rfl (by unfold maxLen; omega)
              have hO_d := hO4.alloc (.cells (encHouse.enc (3, 3, 1)).toArray 35)
              have hz9 : w.heap.size ≤ (w4.alloc (.cells (encHouse.enc (3, 3, 1)).toArray 35)).heap.size := by simp; omega
              have hB4 := h4.lt
              go_wp2_with (at_builtin; refine wpList_append_own _ rfl (.tmp 51) (.tmp 56) _ rfl w.heap.size 35 i0 _ 3 24 Try.underlying31 HI.out.1 HI.out.2.1 HI.out.2.2.1 HI.out.2.2.2 rfl (by omega) (.slice (some ⟨w4.heap.size, 0, none⟩) 1 1) 1 (encHouse.flat [(3, 3, 1)]) rfl hL ⟨g, 0, none⟩ 0 cp (encHouse.flat ([] : List VHouse)) rfl (by rw [encHouse.flat_len, HYL.out]; rfl) (by intro j u hu; simp [Enc.flat] at hu) (encHouse.flat_one _) (by simp only [maxLen]; omega) (by omega) hz9 ?_; intro v9 w9 hown9 hgr9 hnil9)
              obtain ⟨A9, cap9, rfl⟩ := own_valK hown9
              go_wp2_with fail
              go_ret
              have hne : ∀ k, Value.ownBlock (.slice (some ⟨w4.heap.size, 0, none⟩) 1 1) = some k → B < k := fun k hk => by simp [Value.ownBlock] at hk; omega
              exact ⟨(3, 3, 1) :: ([] : List VHouse), A9, cap9, (by simp [HM.out]; try omega), (by simp [HM.out]; try omega), SOwn.of_raw (E := encHouse) hown9 (by rw [encHouse.flat_cons]; simp [Enc.flat]) (by simp [HM.out]; try omega), ((h4.alloc (.cells (encHouse.enc (3, 3, 1)).toArray 35)).farK hgr9 hne).mono (by omega), (hX4.alloc (.cells (encHouse.enc (3, 3, 1)).toArray 35)).far_grownK hgr9 (fun k hk => by simp [Value.ownBlock] at hk; omega)⟩
            · have hm1 : 1 ≤ m := by omega
              have hmi : (1 : Int) ≤ (m : Int) := by omega
              have hml : ¬ (m : Int) < 1 := by omega
              by_cases hc : cp = 1
              · obtain rfl : m = 1 := by omega
                have HYL : Hid (([] : List VHouse).length = 0) := by show _ = _; rfl
                have hL : SOwn encHouse (w4.alloc (.cells (encHouse.enc (3, 3, 1)).toArray 35)) w.heap.size 35 (some ⟨w4.heap.size, 0, none⟩) 1 [(3, 3, 1)] := SOwn.of_blk (E := encHouse) (xs := [(3, 3, 1)]) (blk_new w4 (.cells (encHouse.enc (3, 3, 1)).toArray 35)) hz4 rfl (by unfold maxLen; omega)
                have hO_d := hO4.alloc (.cells (encHouse.enc (3, 3, 1)).toArray 35)
                have hz9 : w.heap.size ≤ (w4.alloc (.cells (encHouse.enc (3, 3, 1)).toArray 35)).heap.size := by simp; omega
                have hB4 := h4.lt
                go_wp2_with (at_builtin; refine wpList_append_own _ rfl (.tmp 51) (.tmp 56) _ rfl w.heap.size 35 i0 _ 3 24 Try.underlying31 HI.out.1 HI.out.2.1 HI.out.2.2.1 HI.out.2.2.2 rfl (by omega) (.slice (some ⟨w4.heap.size, 0, none⟩) 1 1) 1 (encHouse.flat [(3, 3, 1)]) rfl hL ⟨g, 0, none⟩ 0 0 (encHouse.flat ([] : List VHouse)) rfl (by rw [encHouse.flat_len, HYL.out]; rfl) (by intro j u hu; simp [Enc.flat] at hu) (encHouse.flat_one _) (by simp only [maxLen]; omega) (by omega) hz9 ?_; intro v9 w9 hown9 hgr9 hnil9)
                obtain ⟨A9, cap9, rfl⟩ := own_valK hown9
                go_wp2_with fail
                go_ret
                have hne : ∀ k, Value.ownBlock (.slice (some ⟨w4.heap.size, 0, none⟩) 1 1) = some k → B < k := fun k hk => by simp [Value.ownBlock] at hk; omega
                exact ⟨(3, 3, 1) :: ([] : List VHouse), A9, cap9, (by simp [HM.out]; try omega), (by simp [HM.out]; try omega), SOwn.of_raw (E := encHouse) hown9 (by rw [encHouse.flat_cons]; simp [Enc.flat]) (by simp [HM.out]; try omega), ((h4.alloc (.cells (encHouse.enc (3, 3, 1)).toArray 35)).farK hgr9 hne).mono (by omega), (hX4.alloc (.cells (encHouse.enc (3, 3, 1)).toArray 35)).far_grownK hgr9 (fun k hk => by simp [Value.ownBlock] at hk; omega)⟩
              · have HYL : Hid ((xs.drop 1).length = m - 1) := by show _ = _; rw [List.length_drop, HM.out]
                have hL : SOwn encHouse (w4.alloc (.cells (encHouse.enc (3, 3, 1)).toArray 35)) w.heap.size 35 (some ⟨w4.heap.size, 0, none⟩) 1 [(3, 3, 1)] := SOwn.of_blk (E := encHouse) (xs := [(3, 3, 1)]) (blk_new w4 (.cells (encHouse.enc (3, 3, 1)).toArray 35)) hz4 rfl (by unfold maxLen; omega)
                have hO_d := hO4.alloc (.cells (encHouse.enc (3, 3, 1)).toArray 35)
                have hz9 : w.heap.size ≤ (w4.alloc (.cells (encHouse.enc (3, 3, 1)).toArray 35)).heap.size := by simp; omega
                have hB4 := h4.lt
                go_wp2_with (at_builtin; refine wpList_append_own _ rfl (.tmp 51) (.tmp 56) _ rfl w.heap.size 35 i0 _ 3 24 Try.underlying31 HI.out.1 HI.out.2.1 HI.out.2.2.1 HI.out.2.2.2 rfl (by omega) (.slice (some ⟨w4.heap.size, 0, none⟩) 1 1) 1 (encHouse.flat [(3, 3, 1)]) rfl hL ⟨g, 3, none⟩ (m - 1) (cp - 1) (encHouse.flat (xs.drop 1)) rfl (by rw [encHouse.flat_len, HYL.out]; rfl) (SRow.newsK (SOwn.tailK hO_d)) (encHouse.flat_one _) (by simp only [maxLen]; omega) (by omega) hz9 ?_; intro v9 w9 hown9 hgr9 hnil9)
                obtain ⟨A9, cap9, rfl⟩ := own_valK hown9
                go_wp2_with fail
                go_ret
                have hne : ∀ k, Value.ownBlock (.slice (some ⟨w4.heap.size, 0, none⟩) 1 1) = some k → B < k := fun k hk => by simp [Value.ownBlock] at hk; omega
                exact ⟨(3, 3, 1) :: (xs.drop 1), A9, cap9, (by simp [HM.out]; try omega), (by simp [HM.out]; try omega), SOwn.of_raw (E := encHouse) hown9 (by rw [encHouse.flat_cons]; simp [Enc.flat]) (by simp [HM.out]; try omega), ((h4.alloc (.cells (encHouse.enc (3, 3, 1)).toArray 35)).farK hgr9 hne).mono (by omega), (hX4.alloc (.cells (encHouse.enc (3, 3, 1)).toArray 35)).far_grownK hgr9 (fun k hk => by simp [Value.ownBlock] at hk; omega)⟩
          · have e1 : (j == 1) = false := by rw [beq_eq_false_iff_ne]; omega
            clear c d
            obtain ⟨hcp, _⟩ := hO4.cap
            rw [HM.out] at hcp
            by_cases hm0 : m = 0
            · subst hm0
              have HYL : Hid (([] : List VHouse).length = 0) := by show _ = _; rfl
              have hL : SOwn encHouse (w4.alloc (.cells (encHouse.enc (3, 41, 1)).toArray 35)) w.heap.size 35 (some ⟨w4.heap.size, 0, none⟩) 1 [(3, 41, 1)] := SOwn.of_blk (E := encHouse) (xs := [(3, 41, 1)]) (blk_new w4 (.cells (encHouse.enc (3, 41, 1)).toArray 35)) hz4 rfl (by unfold maxLen; omega)
              have hO_d := hO4.alloc (.cells (encHouse.enc (3, 41, 1)).toArray 35)
              have hz9 : w.heap.size ≤ (w4.alloc (.cells (encHouse.enc (3, 41, 1)).toArray 35)).heap.size := by simp; omega
              have hB4 := h4.lt
              go_wp2_with (at_builtin; refine wpList_append_own _ rfl (.tmp 38) (.tmp 43) _ rfl w.heap.size 35 i0 _ 3 24 Try.underlying31 HI.out.1 HI.out.2.1 HI.out.2.2.1 HI.out.2.2.2 rfl (by omega) (.slice (some ⟨w4.heap.size, 0, none⟩) 1 1) 1 (encHouse.flat [(3, 41, 1)]) rfl hL ⟨g, 0, none⟩ 0 cp (encHouse.flat ([] : List VHouse)) rfl (by rw [encHouse.flat_len, HYL.out]; rfl) (by intro j u hu; simp [Enc.flat] at hu) (encHouse.flat_one _) (by simp only [maxLen]; omega) (by omega) hz9 ?_; intro v9 w9 hown9 hgr9 hnil9)
              obtain ⟨A9, cap9, rfl⟩ := own_valK hown9
              go_wp2_with fail
              go_ret
              have hne : ∀ k, Value.ownBlock (.slice (some ⟨w4.heap.size, 0, none⟩) 1 1) = some k → B < k := fun k hk => by simp [Value.ownBlock] at hk; omega
              exact ⟨(3, 41, 1) :: ([] : List VHouse), A9, cap9, (by simp [HM.out]; try omega), (by simp [HM.out]; try omega), SOwn.of_raw (E := encHouse) hown9 (by rw [encHouse.flat_cons]; simp [Enc.flat]) (by simp [HM.out]; try omega), ((h4.alloc (.cells (encHouse.enc (3, 41, 1)).toArray 35)).farK hgr9 hne).mono (by omega), (hX4.alloc (.cells (encHouse.enc (3, 41, 1)).toArray 35)).far_grownK hgr9 (fun k hk => by simp [Value.ownBlock] at hk; omega)⟩
            · have hm1 : 1 ≤ m := by omega
              have hmi : (1 : Int) ≤ (m : Int) := by omega
              have hml : ¬ (m : Int) < 1 := by omega
              by_cases hc : cp = 1
              · obtain rfl : m = 1 := by omega
                have HYL : Hid (([] : List VHouse).length = 0) := by show _ = _; rfl
                have hL : SOwn encHouse (w4.alloc (.cells (encHouse.enc (3, 41, 1)).toArray 35)) w.heap.size 35 (some ⟨w4.heap.size, 0, none⟩) 1 [(3, 41, 1)] := SOwn.of_blk (E := encHouse) (xs := [(3, 41, 1)]) (blk_new w4 (.cells (encHouse.enc (3, 41, 1)).toArray 35)) hz4 rfl (by unfold maxLen; omega)
                have hO_d := hO4.alloc (.cells (encHouse.enc (3, 41, 1)).toArray 35)
                have hz9 : w.heap.size ≤ (w4.alloc (.cells (encHouse.enc (3, 41, 1)).toArray 35)).heap.size := by simp; omega
                have hB4 := h4.lt
                go_wp2_with (at_builtin; refine wpList_append_own _ rfl (.tmp 38) (.tmp 43) _ rfl w.heap.size 35 i0 _ 3 24 Try.underlying31 HI.out.1 HI.out.2.1 HI.out.2.2.1 HI.out.2.2.2 rfl (by omega) (.slice (some ⟨w4.heap.size, 0, none⟩) 1 1) 1 (encHouse.flat [(3, 41, 1)]) rfl hL ⟨g, 0, none⟩ 0 0 (encHouse.flat ([] : List VHouse)) rfl (by rw [encHouse.flat_len, HYL.out]; rfl) (by intro j u hu; simp [Enc.flat] at hu) (encHouse.flat_one _) (by simp only [maxLen]; omega) (by omega) hz9 ?_; intro v9 w9 hown9 hgr9 hnil9)
                obtain ⟨A9, cap9, rfl⟩ := own_valK hown9
                go_wp2_with fail
                go_ret
                have hne : ∀ k, Value.ownBlock (.slice (some ⟨w4.heap.size, 0, none⟩) 1 1) = some k → B < k := fun k hk => by simp [Value.ownBlock] at hk; omega
                exact ⟨(3, 41, 1) :: ([] : List VHouse), A9, cap9, (by simp [HM.out]; try omega), (by simp [HM.out]; try omega), SOwn.of_raw (E := encHouse) hown9 (by rw [encHouse.flat_cons]; simp [Enc.flat]) (by simp [HM.out]; try omega), ((h4.alloc (.cells (encHouse.enc (3, 41, 1)).toArray 35)).farK hgr9 hne).mono (by omega), (hX4.alloc (.cells (encHouse.enc (3, 41, 1)).toArray 35)).far_grownK hgr9 (fun k hk => by simp [Value.ownBlock] at hk; omega)⟩
              · have HYL : Hid ((xs.drop 1).length = m - 1) := by show _ = _; rw [List.length_drop, HM.out]
                have hL : SOwn encHouse (w4.alloc (.cells (encHouse.enc (3, 41, 1)).toArray 35)) w.heap.size 35 (some ⟨w4.heap.size, 0, none⟩) 1 [(3, 41, 1)] := SOwn.of_blk (E := encHouse) (xs := [(3, 41, 1)]) (blk_new w4 (.cells (encHouse.enc (3, 41, 1)).toArray 35)) hz4 rfl (by unfold maxLen; omega)
                have hO_d := hO4.alloc (.cells (encHouse.enc (3, 41, 1)).toArray 35)
                have hz9 : w.heap.size ≤ (w4.alloc (.cells (encHouse.enc (3, 41, 1)).toArray 35)).heap.size := by simp; omega
                have hB4 := h4.lt
                go_wp2_with (at_builtin; refine wpList_append_own _ rfl (.tmp 38) (.tmp 43) _ rfl w.heap.size 35 i0 _ 3 24 Try.underlying31 HI.out.1 HI.out.2.1 HI.out.2.2.1 HI.out.2.2.2 rfl (by omega) (.slice (some ⟨w4.heap.size, 0, none⟩) 1 1) 1 (encHouse.flat [(3, 41, 1)]) rfl hL ⟨g, 3, none⟩ (m - 1) (cp - 1) (encHouse.flat (xs.drop 1)) rfl (by rw [encHouse.flat_len, HYL.out]; rfl) (SRow.newsK (SOwn.tailK hO_d)) (encHouse.flat_one _) (by simp only [maxLen]; omega) (by omega) hz9 ?_; intro v9 w9 hown9 hgr9 hnil9)
                obtain ⟨A9, cap9, rfl⟩ := own_valK hown9
                go_wp2_with fail
                go_ret
                have hne : ∀ k, Value.ownBlock (.slice (some ⟨w4.heap.size, 0, none⟩) 1 1) = some k → B < k := fun k hk => by simp [Value.ownBlock] at hk; omega
                exact ⟨(3, 41, 1) :: (xs.drop 1), A9, cap9, (by simp [HM.out]; try omega), (by simp [HM.out]; try omega), SOwn.of_raw (E := encHouse) hown9 (by rw [encHouse.flat_cons]; simp [Enc.flat]) (by simp [HM.out]; try omega), ((h4.alloc (.cells (encHouse.enc (3, 41, 1)).toArray 35)).farK hgr9 hne).mono (by omega), (hX4.alloc (.cells (encHouse.enc (3, 41, 1)).toArray 35)).far_grownK hgr9 (fun k hk => by simp [Value.ownBlock] at hk; omega)⟩
end Go.Proofs.Ytifnengegbiijab
