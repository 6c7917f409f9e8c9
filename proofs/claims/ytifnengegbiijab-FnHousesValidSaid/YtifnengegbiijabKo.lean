/- Contracts of chapter 6: outlines, as lists of edges. -/
import Derived.Test.YtifnengegbiijabKs
import Derived.Test.YtifnengegbiijabKe
import Derived.Test.YtifnengegbiijabGs
import Derived.Laws.AppendOwn
namespace Go.Proofs.Ytifnengegbiijab
open Go Go.ChangeShapes Go.WideShapes Go.ChangeAt Go.RowKit
set_option linter.unusedSimpArgs false
set_option linter.unusedVariables false

theorem blk1K {w : World} {b : Nat} {x : Value} {t : TypeId} (h : w.heap[b]? = some (.cells #[x] t (0, 0))) : w.cell? ⟨b, 0, none⟩ = some x ∧ w.frozen? ⟨b, 0, none⟩ = false ∧ b < w.heap.size :=
  ⟨by simp [World.cell?, h], by simp [World.frozen?, h], blk_lt h⟩
theorem blk_grownK {w w' : World} {row : Option Nat} {k : Nat} {o : Obj} (h : w.heap[k]? = some o) (hg : w.grownBy w' row) (hne : row ≠ some k) : w'.heap[k]? = some o := by
  rw [hg.block k (blk_lt h) (fun e => hne e.symm)]; exact h
theorem SOwn.ne_lowK {α : Type} {E : Enc α} {w : World} {base : Nat} {T : TypeId} {A : Option Addr} {cap n k : Nat} {xs : List α} (h : SOwn E w base T A cap xs) (hk : k < base) : Value.ownBlock (.slice A n cap) ≠ some k := by
  rcases h.form with ⟨rfl, _⟩ | ⟨g, rfl, hb, _⟩
  · simp [Value.ownBlock]
  · simp [Value.ownBlock]; omega
def haF (xs : List VHouse) (p : Nat) : Int := haI xs p
theorem ooL_eqF {xs : List VHouse} (h : hsB xs = true) : ooL xs = owL (haF xs) 41 := by unfold ooL; rw [if_pos h]; rfl
theorem ret_sliceK {A : Option Addr} {n m c : Nat} (h : n = m) : Ending.returned (.slice A n c) = .returned (.slice A m c) := by rw [h]
def EdgesRet (l : List VEdge) (w : World) (e : Ending) (w' : World) : Prop := ∃ (A : Option Addr) (cap : Nat), e = .returned (.slice A l.length cap) ∧ SOwn encEdge w' w.heap.size 48 A cap l ∧ Below w.heap.size w w'
theorem lenKeep {f : Nat → Int} {n m : Nat} (h : f n = bfI f n) (hm : (owL f n).length = m) : (owL f (n + 1)).length = m := by rw [owL_keep h]; exact hm
theorem lenAdd {f : Nat → Int} {n m : Nat} (h : ¬ f n = bfI f n) (hm : (owL f n).length = m) : (owL f (n + 1)).length = m + 1 := by rw [owL_add h]; simp [hm]
set_option maxHeartbeats 4000000 in
theorem cloH {A : Option Addr} {cap n : Nat} {xs : List VHouse} (P0 : Nat) (p : Int) (w : World) (hn : xs.length = n) (h : SRow encHouse w A xs) (hl : n ≤ 2000000) (hP : w.heap[P0]? = some (.cells #[.slice A n cap] 31 (0, 0))) {r : Int} (hr : haI xs p = r) :
    Calls Try.prog 50 #[.int .i64 p, .pointer (some ⟨P0, 0, none⟩)] w fun E w' => E = .returned (.int .i64 r) ∧ Below w.heap.size w w' := by
  have HR := Lib.hid hr
  clear hr
  have HN := Lib.hid hn
  clear hn
  obtain ⟨c0, f0, z0⟩ := blk1K hP
  clear hP
  go_enter Try.func50, Try.ntmps50
  go_wp2_with fail
  refine (iHa_is A cap xs _ HN.out h hl HR.out).mono ?_; rintro E w1 ⟨rfl, hw1⟩
  go_wp2
  go_ret
  exact ⟨rfl, hw1⟩
set_option maxRecDepth 100000 in
set_option maxHeartbeats 4000000 in
theorem cloJ {A C : Option Addr} {ca cc n m : Nat} {xs ys : List VEdge} (P0 Q0 : Nat) (p : Int) (w : World) (hn : xs.length = n) (hm : ys.length = m) (h : SRow encEdge w A xs) (h2 : SRow encEdge w C ys) (hl : n ≤ 2000000) (hl2 : m ≤ 2000000) (hP : w.heap[P0]? = some (.cells #[.slice A n ca] 39 (0, 0))) (hQ : w.heap[Q0]? = some (.cells #[.slice C m cc] 39 (0, 0))) {r : Int} (hr : max (oaI xs p) (oaI ys p) = r) :
    Calls Try.prog 51 #[.int .i64 p, .pointer (some ⟨P0, 0, none⟩), .pointer (some ⟨Q0, 0, none⟩)] w fun E w' => E = .returned (.int .i64 r) ∧ Below w.heap.size w w' := by
  have HN := Lib.hid hn
  clear hn
  have HM := Lib.hid hm
  clear hm
  obtain ⟨c0, f0, z0⟩ := blk1K hP
  obtain ⟨e0, g0, y0⟩ := blk1K hQ
  clear hP hQ
  obtain ⟨x, hx⟩ : ∃ x, oaI xs p = x := ⟨_, rfl⟩
  obtain ⟨y, hy⟩ : ∃ y, oaI ys p = y := ⟨_, rfl⟩
  rw [hx, hy] at hr
  have HX := Lib.hid hx
  have HY := Lib.hid hy
  clear hx hy
  by_cases hxy : x < y
  · have hg : max x y = y := by omega
    rw [hg] at hr
    subst hr
    have HG := Lib.hid hg
    clear hg
    go_enter Try.func51, Try.ntmps51
    go_wp2_with fail
    refine wp_region_held_drew (S := (fun w' => w'.cell? ⟨P0, 0, none⟩ = some (.slice A n ca) ∧ w'.cell? ⟨Q0, 0, none⟩ = some (.slice C m cc) ∧ Below w.heap.size w w')) (by kernel_rfl) ⟨c0, e0, (Below.refl _ _).drew⟩ (fun hHeld => ?_)
    obtain ⟨hP_0, hQ_0, hB_0⟩ := id hHeld
    refine wpAnyH_take (i := 0) (oi := _) (v := ?_) rfl (by kernel_rfl) (by kernel_rfl) (by kernel_rfl) (fun _ _ _ h => h) (Or.inl ⟨by rfl, ?_⟩) (by assumption) ?_
    (rotate_left); (focus (intro wv hSw; (obtain ⟨qP, qQ, qB⟩ := hSw);  go_simp; (try with_reducible rfl)))
    try simp only [Act.put, List.getElem_toArray, List.getElem_cons_succ, List.getElem_cons_zero, List.setIfInBounds_toArray, List.set_cons_zero, List.set_cons_succ]
    refine wpAnyH_take (i := 1) (oi := _) (v := ?_) rfl (by kernel_rfl) (by kernel_rfl) (by kernel_rfl) (fun _ _ _ h => h) (Or.inl ⟨by rfl, ?_⟩) (by assumption) ?_
    (rotate_left); (focus (intro wv hSw; (obtain ⟨qP, qQ, qB⟩ := hSw);  go_simp; (try with_reducible rfl)))
    try simp only [Act.put, List.getElem_toArray, List.getElem_cons_succ, List.getElem_cons_zero, List.setIfInBounds_toArray, List.set_cons_zero, List.set_cons_succ]
    refine wpAnyH_take (i := 3) (oi := _) (v := ?_) rfl (by kernel_rfl) (by kernel_rfl) (by kernel_rfl) (fun _ _ _ h => h) (Or.inl ⟨by rfl, ?_⟩) (by assumption) ?_
    (rotate_left); (focus (intro wv hSw; (obtain ⟨qP, qQ, qB⟩ := hSw);  go_simp; (try with_reducible rfl)))
    try simp only [Act.put, List.getElem_toArray, List.getElem_cons_succ, List.getElem_cons_zero, List.setIfInBounds_toArray, List.set_cons_zero, List.set_cons_succ]
    refine wpAnyH_take (i := 4) (oi := _) (v := ?_) rfl (by kernel_rfl) (by kernel_rfl) (by kernel_rfl) (fun _ _ _ h => h) (Or.inl ⟨by rfl, ?_⟩) (by assumption) ?_
    (rotate_left); (focus (intro wv hSw; (obtain ⟨qP, qQ, qB⟩ := hSw);  go_simp; (try with_reducible rfl)))
    try simp only [Act.put, List.getElem_toArray, List.getElem_cons_succ, List.getElem_cons_zero, List.setIfInBounds_toArray, List.set_cons_zero, List.set_cons_succ]
    refine wpAnyH_ready (rs := [2]) (by kernel_rfl) (by simp) ?_
    refine AllReadyH.cons (o := _) rfl (fun K hK => ?_) AllReadyH.nil
    go_simp
    (go_at_call 31; refine (iOa_is A ca xs _ HN.out (h.next hB_0) hl HX.out).mono ?_; rintro e x0c ⟨rfl, hw_0c⟩)
    refine hK.out _ _ ⟨celS_next hP_0 hw_0c, celS_next hQ_0 hw_0c, bel_next hB_0 hw_0c⟩ (fun hHeld => ?_)
    clear hK K
    try simp only [Act.put, List.getElem_toArray, List.getElem_cons_succ, List.getElem_cons_zero, List.setIfInBounds_toArray, List.set_cons_zero, List.set_cons_succ]
    obtain ⟨hP_0c, hQ_0c, hB_0c⟩ := id hHeld
    refine wpAnyH_ready (rs := [5]) (by kernel_rfl) (by simp) ?_
    refine AllReadyH.cons (o := _) rfl (fun K hK => ?_) AllReadyH.nil
    go_simp
    (go_at_call 31; refine (iOa_is C cc ys _ HM.out (h2.next hB_0c) hl2 HY.out).mono ?_; rintro e x0cc ⟨rfl, hw_0cc⟩)
    refine hK.out _ _ ⟨celS_next hP_0c hw_0cc, celS_next hQ_0c hw_0cc, bel_next hB_0c hw_0cc⟩ (fun hHeld => ?_)
    clear hK K
    try simp only [Act.put, List.getElem_toArray, List.getElem_cons_succ, List.getElem_cons_zero, List.setIfInBounds_toArray, List.set_cons_zero, List.set_cons_succ]
    obtain ⟨hP_0cc, hQ_0cc, hB_0cc⟩ := id hHeld
    refine wpAnyH_take (i := 6) (oi := _) (v := ?_) rfl (by kernel_rfl) (by kernel_rfl) (by kernel_rfl) (fun _ _ _ h => h) (Or.inl ⟨by rfl, ?_⟩) (by assumption) ?_
    (rotate_left); (focus (intro wv hSw; (obtain ⟨qP, qQ, qB⟩ := hSw);  go_simp; (try with_reducible rfl)))
    try simp only [Act.put, List.getElem_toArray, List.getElem_cons_succ, List.getElem_cons_zero, List.setIfInBounds_toArray, List.set_cons_zero, List.set_cons_succ]
    refine wpAnyH_take (i := 7) (oi := _) (v := ?_) rfl (by kernel_rfl) (by kernel_rfl) (by kernel_rfl) (fun _ _ _ h => h) (Or.inl ⟨by rfl, ?_⟩) (by assumption) ?_
    (rotate_left); (focus (intro wv hSw; (obtain ⟨qP, qQ, qB⟩ := hSw);  go_simp; (try with_reducible rfl)))
    try simp only [Act.put, List.getElem_toArray, List.getElem_cons_succ, List.getElem_cons_zero, List.setIfInBounds_toArray, List.set_cons_zero, List.set_cons_succ]
    refine wpAnyH_done (by kernel_rfl) ?_ _
    go_wp2
    go_ret
    exact ⟨rfl, by first | exact hB_0cc | exact (hB_0cc).drew⟩
  · have hg : max x y = x := by omega
    rw [hg] at hr
    subst hr
    have HG := Lib.hid hg
    clear hg
    go_enter Try.func51, Try.ntmps51
    go_wp2_with fail
    refine wp_region_held_drew (S := (fun w' => w'.cell? ⟨P0, 0, none⟩ = some (.slice A n ca) ∧ w'.cell? ⟨Q0, 0, none⟩ = some (.slice C m cc) ∧ Below w.heap.size w w')) (by kernel_rfl) ⟨c0, e0, (Below.refl _ _).drew⟩ (fun hHeld => ?_)
    obtain ⟨hP_0, hQ_0, hB_0⟩ := id hHeld
    refine wpAnyH_take (i := 0) (oi := _) (v := ?_) rfl (by kernel_rfl) (by kernel_rfl) (by kernel_rfl) (fun _ _ _ h => h) (Or.inl ⟨by rfl, ?_⟩) (by assumption) ?_
    (rotate_left); (focus (intro wv hSw; (obtain ⟨qP, qQ, qB⟩ := hSw);  go_simp; (try with_reducible rfl)))
    try simp only [Act.put, List.getElem_toArray, List.getElem_cons_succ, List.getElem_cons_zero, List.setIfInBounds_toArray, List.set_cons_zero, List.set_cons_succ]
    refine wpAnyH_take (i := 1) (oi := _) (v := ?_) rfl (by kernel_rfl) (by kernel_rfl) (by kernel_rfl) (fun _ _ _ h => h) (Or.inl ⟨by rfl, ?_⟩) (by assumption) ?_
    (rotate_left); (focus (intro wv hSw; (obtain ⟨qP, qQ, qB⟩ := hSw);  go_simp; (try with_reducible rfl)))
    try simp only [Act.put, List.getElem_toArray, List.getElem_cons_succ, List.getElem_cons_zero, List.setIfInBounds_toArray, List.set_cons_zero, List.set_cons_succ]
    refine wpAnyH_take (i := 3) (oi := _) (v := ?_) rfl (by kernel_rfl) (by kernel_rfl) (by kernel_rfl) (fun _ _ _ h => h) (Or.inl ⟨by rfl, ?_⟩) (by assumption) ?_
    (rotate_left); (focus (intro wv hSw; (obtain ⟨qP, qQ, qB⟩ := hSw);  go_simp; (try with_reducible rfl)))
    try simp only [Act.put, List.getElem_toArray, List.getElem_cons_succ, List.getElem_cons_zero, List.setIfInBounds_toArray, List.set_cons_zero, List.set_cons_succ]
    refine wpAnyH_take (i := 4) (oi := _) (v := ?_) rfl (by kernel_rfl) (by kernel_rfl) (by kernel_rfl) (fun _ _ _ h => h) (Or.inl ⟨by rfl, ?_⟩) (by assumption) ?_
    (rotate_left); (focus (intro wv hSw; (obtain ⟨qP, qQ, qB⟩ := hSw);  go_simp; (try with_reducible rfl)))
    try simp only [Act.put, List.getElem_toArray, List.getElem_cons_succ, List.getElem_cons_zero, List.setIfInBounds_toArray, List.set_cons_zero, List.set_cons_succ]
    refine wpAnyH_ready (rs := [2]) (by kernel_rfl) (by simp) ?_
    refine AllReadyH.cons (o := _) rfl (fun K hK => ?_) AllReadyH.nil
    go_simp
    (go_at_call 31; refine (iOa_is A ca xs _ HN.out (h.next hB_0) hl HX.out).mono ?_; rintro e x0c ⟨rfl, hw_0c⟩)
    refine hK.out _ _ ⟨celS_next hP_0 hw_0c, celS_next hQ_0 hw_0c, bel_next hB_0 hw_0c⟩ (fun hHeld => ?_)
    clear hK K
    try simp only [Act.put, List.getElem_toArray, List.getElem_cons_succ, List.getElem_cons_zero, List.setIfInBounds_toArray, List.set_cons_zero, List.set_cons_succ]
    obtain ⟨hP_0c, hQ_0c, hB_0c⟩ := id hHeld
    refine wpAnyH_ready (rs := [5]) (by kernel_rfl) (by simp) ?_
    refine AllReadyH.cons (o := _) rfl (fun K hK => ?_) AllReadyH.nil
    go_simp
    (go_at_call 31; refine (iOa_is C cc ys _ HM.out (h2.next hB_0c) hl2 HY.out).mono ?_; rintro e x0cc ⟨rfl, hw_0cc⟩)
    refine hK.out _ _ ⟨celS_next hP_0c hw_0cc, celS_next hQ_0c hw_0cc, bel_next hB_0c hw_0cc⟩ (fun hHeld => ?_)
    clear hK K
    try simp only [Act.put, List.getElem_toArray, List.getElem_cons_succ, List.getElem_cons_zero, List.setIfInBounds_toArray, List.set_cons_zero, List.set_cons_succ]
    obtain ⟨hP_0cc, hQ_0cc, hB_0cc⟩ := id hHeld
    refine wpAnyH_take (i := 6) (oi := _) (v := ?_) rfl (by kernel_rfl) (by kernel_rfl) (by kernel_rfl) (fun _ _ _ h => h) (Or.inl ⟨by rfl, ?_⟩) (by assumption) ?_
    (rotate_left); (focus (intro wv hSw; (obtain ⟨qP, qQ, qB⟩ := hSw);  go_simp; (try with_reducible rfl)))
    try simp only [Act.put, List.getElem_toArray, List.getElem_cons_succ, List.getElem_cons_zero, List.setIfInBounds_toArray, List.set_cons_zero, List.set_cons_succ]
    refine wpAnyH_take (i := 7) (oi := _) (v := ?_) rfl (by kernel_rfl) (by kernel_rfl) (by kernel_rfl) (fun _ _ _ h => h) (Or.inl ⟨by rfl, ?_⟩) (by assumption) ?_
    (rotate_left); (focus (intro wv hSw; (obtain ⟨qP, qQ, qB⟩ := hSw);  go_simp; (try with_reducible rfl)))
    try simp only [Act.put, List.getElem_toArray, List.getElem_cons_succ, List.getElem_cons_zero, List.setIfInBounds_toArray, List.set_cons_zero, List.set_cons_succ]
    refine wpAnyH_done (by kernel_rfl) ?_ _
    go_wp2
    go_ret
    exact ⟨rfl, by first | exact hB_0cc | exact (hB_0cc).drew⟩
set_option maxRecDepth 100000 in
set_option maxHeartbeats 4000000 in
theorem owH {A : Option Addr} {cap n : Nat} {xs : List VHouse} (P0 : Nat) (w : World) (hn : xs.length = n) (h : SRow encHouse w A xs) (hl : n ≤ 2000000) (hP : w.heap[P0]? = some (.cells #[.slice A n cap] 31 (0, 0))) :
    Calls Try.prog 49 #[.func (.func 50) #[] #[.pointer (some ⟨P0, 0, none⟩)]] w fun E w' => EdgesRet (owL (haF xs) 41) w E w' := by
  obtain ⟨i0, hi0, hz0, hz1, hz2⟩ := info_parts infoEdge
  have HI := Lib.hid (And.intro hi0 (And.intro hz0 (And.intro hz1 hz2)))
  clear hi0 hz0 hz1 hz2
  have hz := blk_lt hP
  have HN := Lib.hid hn
  clear hn
  go_enter Try.func49, Try.ntmps49
  go_wp2_with fail
  go_loopw [3, 4, 5] (fun v q i wr => ∃ (k m : Nat) (V : Option Addr) (cv : Nat), k ≤ 41 ∧ m ≤ k ∧ Hid ((owL (haF xs) k).length = m) ∧ i = .int .i64 k ∧ q = .int .i64 (bfI (haF xs) k) ∧ v = .slice V m cv ∧ SOwn encEdge wr w.heap.size 48 V cv (owL (haF xs) k) ∧ wr.heap[P0]? = some (.cells #[.slice A n cap] 31 (0, 0)) ∧ Below w.heap.size w wr) (fun _ _ i _ => (41 - intOf i).toNat)
  case atStart => exact ⟨0, 0, none, 0, by omega, by omega, (by show _ = _; rfl), rfl, rfl, rfl, SOwn.nil _ _ _, hP, Below.refl _ _⟩
  case round =>
    obtain ⟨k, m, V, cv, k1, mk, HM, rfl, rfl, rfl, hO, hPr, hB⟩ := hrel
    by_cases hlt : k < 41
    · have hki : (k : Int) ≤ 40 := by omega
      obtain ⟨x, hx⟩ : ∃ x, haI xs (k : Int) = x := ⟨_, rfl⟩
      have hfx : (haF xs) k = x := hx
      have HX := Lib.hid hx
      have HF := Lib.hid hfx
      clear hx hfx
      obtain ⟨q, hq⟩ : ∃ q, bfI (haF xs) k = q := ⟨_, rfl⟩
      have hbs : bfI (haF xs) (k + 1) = x := HF.out
      rw [hq]
      have HQ := Lib.hid hq
      have HBS := Lib.hid hbs
      clear hq hbs
      go_wp2_with fail
      refine (cloH P0 (k : Int) _ HN.out (h.next hB) hl hPr HX.out).mono ?_; rintro E w7 ⟨rfl, hw7⟩
      have hB7 := bel_next hB hw7
      have hP7 := blk_next hPr hw7
      by_cases hxq : x = q
      · subst hxq
        have HK : Hid ((haF xs) k = bfI (haF xs) k) := by show _ = _; rw [HF.out, HQ.out]
        go_wp2_with fail
        go_roundw
        case rel => exact ⟨k + 1, m, V, cv, by omega, by omega, Lib.hid (lenKeep HK.out HM.out), by go_num, by rw [HBS.out], rfl, by rw [owL_keep HK.out]; exact hO.next hw7, hP7, hB7⟩
        case measure => simp [intOf]; omega
      · have HK : Hid (¬ (haF xs) k = bfI (haF xs) k) := by show ¬ _; rw [HF.out, HQ.out]; exact hxq
        have hxb : (x == q) = false := by rw [beq_eq_false_iff_ne]; exact hxq
        have hOa := (hO.next hw7).alloc (.cells (encEdge.enc ((k : Int), x)).toArray 48)
        have hcp := hB7.size
        go_wp2_with (at_builtin; refine wpList_append_lies _ rfl (.tmp 17) (.tmp 21) _ rfl w.heap.size 48 i0 _ 2 16 Try.underlying39 HI.out.1 HI.out.2.1 HI.out.2.2.1 HI.out.2.2.2 rfl (by omega) (.slice V m cv) m (encEdge.flat (owL (haF xs) k)) rfl (by unfold SOwn at hOa; rw [HM.out] at hOa; exact hOa) ⟨w7.heap.size, 0, none⟩ 1 1 (encEdge.enc ((k : Int), x)) rfl rfl (new_enc _ ((k : Int), x) _) (encEdge.one _) (by omega) (by simp only [maxLen]; omega) (by omega) (by simp; omega) _ rfl ?_; intro g5 cap5 w5 hown5 hgr5 hat5 hlt5)
        have hB5 := SOwn.below_grown (hOa.mono (base' := w.heap.size) (by omega)) (hB7.alloc hB7.size _) hgr5
        have hPrz := blk_grownK (blk_old hP7 _) hgr5 (SOwn.ne_lowK hOa (n := m) (by omega))
        go_wp2_with fail
        go_roundw
        case rel =>
          have hsn := SOwn.snoc (E := encEdge) (xs := owL (haF xs) k) (x := ((k : Int), x)) (by rw [HM.out]; exact hown5)
          have e : owL (haF xs) (k + 1) = owL (haF xs) k ++ [((k : Int), x)] := by rw [owL_add HK.out, HF.out]
          rw [← e] at hsn
          exact ⟨k + 1, m + 1, some ⟨g5, 0, none⟩, cap5, by omega, by omega, Lib.hid (lenAdd HK.out HM.out), by go_num, by rw [HBS.out], rfl, hsn, hPrz, hB5⟩
        case measure => simp [intOf]; omega
    · obtain rfl : k = 41 := by omega
      go_wp2_with fail
      go_ret
      exact ⟨V, cv, ret_sliceK HM.out.symm, hO, hB⟩
set_option maxRecDepth 100000 in
set_option maxHeartbeats 4000000 in
theorem owJ {A C : Option Addr} {ca cc n m0 : Nat} {xs ys : List VEdge} (P0 Q0 : Nat) (w : World) (hn : xs.length = n) (hm : ys.length = m0) (h : SRow encEdge w A xs) (h2 : SRow encEdge w C ys) (hl : n ≤ 2000000) (hl2 : m0 ≤ 2000000) (hP : w.heap[P0]? = some (.cells #[.slice A n ca] 39 (0, 0))) (hQ : w.heap[Q0]? = some (.cells #[.slice C m0 cc] 39 (0, 0))) :
    Calls Try.prog 49 #[.func (.func 51) #[] #[.pointer (some ⟨P0, 0, none⟩), .pointer (some ⟨Q0, 0, none⟩)]] w fun E w' => EdgesRet (owL (ojF xs ys) 41) w E w' := by
  obtain ⟨i0, hi0, hz0, hz1, hz2⟩ := info_parts infoEdge
  have HI := Lib.hid (And.intro hi0 (And.intro hz0 (And.intro hz1 hz2)))
  clear hi0 hz0 hz1 hz2
  have hz := blk_lt hP
  have hz2 := blk_lt hQ
  have HN := Lib.hid hn
  have HN2 := Lib.hid hm
  clear hn hm
  go_enter Try.func49, Try.ntmps49
  go_wp2_with fail
  go_loopw [3, 4, 5] (fun v q i wr => ∃ (k m : Nat) (V : Option Addr) (cv : Nat), k ≤ 41 ∧ m ≤ k ∧ Hid ((owL (ojF xs ys) k).length = m) ∧ i = .int .i64 k ∧ q = .int .i64 (bfI (ojF xs ys) k) ∧ v = .slice V m cv ∧ SOwn encEdge wr w.heap.size 48 V cv (owL (ojF xs ys) k) ∧ wr.heap[P0]? = some (.cells #[.slice A n ca] 39 (0, 0)) ∧ wr.heap[Q0]? = some (.cells #[.slice C m0 cc] 39 (0, 0)) ∧ Below w.heap.size w wr) (fun _ _ i _ => (41 - intOf i).toNat)
  case atStart => exact ⟨0, 0, none, 0, by omega, by omega, (by show _ = _; rfl), rfl, rfl, rfl, SOwn.nil _ _ _, hP, hQ, Below.refl _ _⟩
  case round =>
    obtain ⟨k, m, V, cv, k1, mk, HM, rfl, rfl, rfl, hO, hPr, hQr, hB⟩ := hrel
    by_cases hlt : k < 41
    · have hki : (k : Int) ≤ 40 := by omega
      obtain ⟨x, hx⟩ : ∃ x, max (oaI xs (k : Int)) (oaI ys (k : Int)) = x := ⟨_, rfl⟩
      have hfx : (ojF xs ys) k = x := hx
      have HX := Lib.hid hx
      have HF := Lib.hid hfx
      clear hx hfx
      obtain ⟨q, hq⟩ : ∃ q, bfI (ojF xs ys) k = q := ⟨_, rfl⟩
      have hbs : bfI (ojF xs ys) (k + 1) = x := HF.out
      rw [hq]
      have HQ := Lib.hid hq
      have HBS := Lib.hid hbs
      clear hq hbs
      go_wp2_with fail
      refine (cloJ P0 Q0 (k : Int) _ HN.out HN2.out (h.next hB) (h2.next hB) hl hl2 hPr hQr HX.out).mono ?_; rintro E w7 ⟨rfl, hw7⟩
      have hB7 := bel_next hB hw7
      have hP7 := blk_next hPr hw7
      have hQ7 := blk_next hQr hw7
      by_cases hxq : x = q
      · subst hxq
        have HK : Hid ((ojF xs ys) k = bfI (ojF xs ys) k) := by show _ = _; rw [HF.out, HQ.out]
        go_wp2_with fail
        go_roundw
        case rel => exact ⟨k + 1, m, V, cv, by omega, by omega, Lib.hid (lenKeep HK.out HM.out), by go_num, by rw [HBS.out], rfl, by rw [owL_keep HK.out]; exact hO.next hw7, hP7, hQ7, hB7⟩
        case measure => simp [intOf]; omega
      · have HK : Hid (¬ (ojF xs ys) k = bfI (ojF xs ys) k) := by show ¬ _; rw [HF.out, HQ.out]; exact hxq
        have hxb : (x == q) = false := by rw [beq_eq_false_iff_ne]; exact hxq
        have hOa := (hO.next hw7).alloc (.cells (encEdge.enc ((k : Int), x)).toArray 48)
        have hcp := hB7.size
        go_wp2_with (at_builtin; refine wpList_append_lies _ rfl (.tmp 17) (.tmp 21) _ rfl w.heap.size 48 i0 _ 2 16 Try.underlying39 HI.out.1 HI.out.2.1 HI.out.2.2.1 HI.out.2.2.2 rfl (by omega) (.slice V m cv) m (encEdge.flat (owL (ojF xs ys) k)) rfl (by unfold SOwn at hOa; rw [HM.out] at hOa; exact hOa) ⟨w7.heap.size, 0, none⟩ 1 1 (encEdge.enc ((k : Int), x)) rfl rfl (new_enc _ ((k : Int), x) _) (encEdge.one _) (by omega) (by simp only [maxLen]; omega) (by omega) (by simp; omega) _ rfl ?_; intro g5 cap5 w5 hown5 hgr5 hat5 hlt5)
        have hB5 := SOwn.below_grown (hOa.mono (base' := w.heap.size) (by omega)) (hB7.alloc hB7.size _) hgr5
        have hPrz := blk_grownK (blk_old hP7 _) hgr5 (SOwn.ne_lowK hOa (n := m) (by omega))
        have hQrz := blk_grownK (blk_old hQ7 _) hgr5 (SOwn.ne_lowK hOa (n := m) (by omega))
        go_wp2_with fail
        go_roundw
        case rel =>
          have hsn := SOwn.snoc (E := encEdge) (xs := owL (ojF xs ys) k) (x := ((k : Int), x)) (by rw [HM.out]; exact hown5)
          have e : owL (ojF xs ys) (k + 1) = owL (ojF xs ys) k ++ [((k : Int), x)] := by rw [owL_add HK.out, HF.out]
          rw [← e] at hsn
          exact ⟨k + 1, m + 1, some ⟨g5, 0, none⟩, cap5, by omega, by omega, Lib.hid (lenAdd HK.out HM.out), by go_num, by rw [HBS.out], rfl, hsn, hPrz, hQrz, hB5⟩
        case measure => simp [intOf]; omega
    · obtain rfl : k = 41 := by omega
      go_wp2_with fail
      go_ret
      exact ⟨V, cv, ret_sliceK HM.out.symm, hO, hB⟩
set_option maxHeartbeats 4000000 in
theorem iOo_any (A : Option Addr) (cap : Nat) (xs : List VHouse) {n : Nat} (w : World) (hn : xs.length = n) (h : SRow encHouse w A xs) (hl : n ≤ 2000000) :
    Calls Try.prog 28 #[.slice A n cap] w fun E w' => EdgesRet (ooL xs) w E w' := by
  cases hv : hsB xs
  · have e : ooL xs = [] := by unfold ooL; rw [hv]; rfl
    rw [e]
    clear e
    have HV := Lib.hid hv
    clear hv
    have HN := Lib.hid hn
    clear hn
    go_enter Try.func28, Try.ntmps28
    go_wp2_with fail
    refine (iHs_is A cap xs _ HN.out (h.next (bel1 w (.cells #[.slice A n cap] 31 (0, 0)))) hl HV.out).mono ?_; rintro E w1 ⟨rfl, hw1⟩
    obtain ⟨hP1, hB1⟩ := ownb hw1
    obtain ⟨c0, f0, z0⟩ := blk1K hP1
    go_wp2
    go_ret
    exact ⟨none, 0, rfl, SOwn.nil _ _ _, hB1⟩
  · rw [ooL_eqF hv]
    have HV := Lib.hid hv
    clear hv
    have HN := Lib.hid hn
    clear hn
    go_enter Try.func28, Try.ntmps28
    go_wp2_with fail
    refine (iHs_is A cap xs _ HN.out (h.next (bel1 w (.cells #[.slice A n cap] 31 (0, 0)))) hl HV.out).mono ?_; rintro E w1 ⟨rfl, hw1⟩
    obtain ⟨hP1, hB1⟩ := ownb hw1
    obtain ⟨c0, f0, z0⟩ := blk1K hP1
    go_wp2_with fail
    refine (owH _ _ HN.out (h.next hB1) hl hP1).mono ?_; rintro E w2 ⟨V, cv, rfl, hO, hw2⟩
    go_wp2
    go_ret
    exact ⟨V, cv, rfl, hO.mono hB1.size, bel_next hB1 hw2⟩
def EdgesRetG (l : List VEdge) (w : World) (e : Ending) (w' : World) : Prop := ∃ (g cap : Nat), e = .returned (.slice (some ⟨g, 0, none⟩) l.length cap) ∧ SOwn encEdge w' w.heap.size 48 (some ⟨g, 0, none⟩) cap l ∧ Below w.heap.size w w'
set_option maxRecDepth 100000 in
set_option maxHeartbeats 4000000 in
theorem sOo_some (A : Option Addr) (cap : Nat) (xs : List VHouse) {n : Nat} (w : World) (hn : xs.length = n) (h : SRow encHouse w A xs) (hl : n ≤ 2000000) :
    Calls Try.prog 30 #[.slice A n cap] w fun E w' => EdgesRetG (ooL xs) w E w' := by
  obtain ⟨i0, hi0, hz0, hz1, hz2⟩ := info_parts infoEdge
  have HI := Lib.hid (And.intro hi0 (And.intro hz0 (And.intro hz1 hz2)))
  clear hi0 hz0 hz1 hz2
  cases hv : hsB xs
  · have e : ooL xs = [] := by unfold ooL; rw [hv]; rfl
    rw [e]
    clear e
    have HV := Lib.hid hv
    clear hv
    have HN := Lib.hid hn
    clear hn
    go_enter Try.func30, Try.ntmps30
    go_wp2_with fail
    go_loopw [3, 4, 5] (fun v q i wr => ∃ (k m gV cv : Nat), k ≤ 0 ∧ m ≤ k ∧ Hid ((owL (haF xs) k).length = m) ∧ i = .int .i64 k ∧ q = .int .i64 (bfI (haF xs) k) ∧ v = .slice (some ⟨gV, 0, none⟩) m cv ∧ SOwn encEdge wr w.heap.size 48 (some ⟨gV, 0, none⟩) cv (owL (haF xs) k) ∧ Below w.heap.size w wr) (fun _ _ i _ => (41 - intOf i).toNat)
    case atStart => exact ⟨0, 0, w.heap.size, 0, by omega, by omega, (by show _ = _; rfl), rfl, rfl, rfl, SOwn.empty (blk_new w _) (Nat.le_refl _), bel1 w _⟩
    case round =>
      obtain ⟨k, m, gV, cv, k1, mk, HM, rfl, rfl, rfl, hO, hB⟩ := hrel
      obtain rfl : k = 0 := by omega
      obtain rfl : m = 0 := by omega
      have hki : (0 : Int) ≤ 40 := by omega
      go_wp2_with fail
      refine (sHs_is A cap xs _ HN.out (h.next hB) hl HV.out).mono ?_; rintro E w1 ⟨rfl, hw1⟩
      have hB1 := bel_next hB hw1
      go_wp2
      go_ret
      exact ⟨gV, cv, rfl, hO.next hw1, hB1⟩
  · rw [ooL_eqF hv]
    have HV := Lib.hid hv
    clear hv
    have HN := Lib.hid hn
    clear hn
    go_enter Try.func30, Try.ntmps30
    go_wp2_with fail
    go_loopw [3, 4, 5] (fun v q i wr => ∃ (k m gV cv : Nat), k ≤ 41 ∧ m ≤ k ∧ Hid ((owL (haF xs) k).length = m) ∧ i = .int .i64 k ∧ q = .int .i64 (bfI (haF xs) k) ∧ v = .slice (some ⟨gV, 0, none⟩) m cv ∧ SOwn encEdge wr w.heap.size 48 (some ⟨gV, 0, none⟩) cv (owL (haF xs) k) ∧ Below w.heap.size w wr) (fun _ _ i _ => (41 - intOf i).toNat)
    case atStart => exact ⟨0, 0, w.heap.size, 0, by omega, by omega, (by show _ = _; rfl), rfl, rfl, rfl, SOwn.empty (blk_new w _) (Nat.le_refl _), bel1 w _⟩
    case round =>
      obtain ⟨k, m, gV, cv, k1, mk, HM, rfl, rfl, rfl, hO, hB⟩ := hrel
      by_cases hlt : k < 41
      · have hki : (k : Int) ≤ 40 := by omega
        obtain ⟨x, hx⟩ : ∃ x, haI xs (k : Int) = x := ⟨_, rfl⟩
        have hfx : (haF xs) k = x := hx
        have HX := Lib.hid hx
        have HF := Lib.hid hfx
        clear hx hfx
        obtain ⟨q, hq⟩ : ∃ q, bfI (haF xs) k = q := ⟨_, rfl⟩
        have hbs : bfI (haF xs) (k + 1) = x := HF.out
        rw [hq]
        have HQ := Lib.hid hq
        have HBS := Lib.hid hbs
        clear hq hbs
        go_wp2_with fail
        refine (sHs_is A cap xs _ HN.out (h.next hB) hl HV.out).mono ?_; rintro E w1 ⟨rfl, hw1⟩
        have hB1 := bel_next hB hw1
        go_wp2_with fail
        refine (sHa_is A cap xs _ HN.out (h.next hB1) hl HX.out).mono ?_; rintro E w7 ⟨rfl, hw7b⟩
        have hw7 := bel_next hw1 hw7b
        have hB7 := bel_next hB hw7
        by_cases hxq : x = q
        · subst hxq
          have HK : Hid ((haF xs) k = bfI (haF xs) k) := by show _ = _; rw [HF.out, HQ.out]
          go_wp2_with fail
          go_roundw
          case rel => exact ⟨k + 1, m, gV, cv, by omega, by omega, Lib.hid (lenKeep HK.out HM.out), by go_num, by rw [HBS.out], rfl, by rw [owL_keep HK.out]; exact hO.next hw7, hB7⟩
          case measure => simp [intOf]; omega
        · have HK : Hid (¬ (haF xs) k = bfI (haF xs) k) := by show ¬ _; rw [HF.out, HQ.out]; exact hxq
          have hxb : (x == q) = false := by rw [beq_eq_false_iff_ne]; exact hxq
          have hOa := (hO.next hw7).alloc (.cells (encEdge.enc ((k : Int), x)).toArray 48)
          have hcp := hB7.size
          go_wp2_with (at_builtin; refine wpList_append_lies _ rfl (.tmp 22) (.tmp 26) _ rfl w.heap.size 48 i0 _ 2 16 Try.underlying39 HI.out.1 HI.out.2.1 HI.out.2.2.1 HI.out.2.2.2 rfl (by omega) (.slice (some ⟨gV, 0, none⟩) m cv) m (encEdge.flat (owL (haF xs) k)) rfl (by unfold SOwn at hOa; rw [HM.out] at hOa; exact hOa) ⟨w7.heap.size, 0, none⟩ 1 1 (encEdge.enc ((k : Int), x)) rfl rfl (new_enc _ ((k : Int), x) _) (encEdge.one _) (by omega) (by simp only [maxLen]; omega) (by omega) (by simp; omega) _ rfl ?_; intro g5 cap5 w5 hown5 hgr5 hat5 hlt5)
          have hB5 := SOwn.below_grown (hOa.mono (base' := w.heap.size) (by omega)) (hB7.alloc hB7.size _) hgr5
          go_wp2_with fail
          go_roundw
          case rel =>
            have hsn := SOwn.snoc (E := encEdge) (xs := owL (haF xs) k) (x := ((k : Int), x)) (by rw [HM.out]; exact hown5)
            have e : owL (haF xs) (k + 1) = owL (haF xs) k ++ [((k : Int), x)] := by rw [owL_add HK.out, HF.out]
            rw [← e] at hsn
            exact ⟨k + 1, m + 1, g5, cap5, by omega, by omega, Lib.hid (lenAdd HK.out HM.out), by go_num, by rw [HBS.out], rfl, hsn, hB5⟩
          case measure => simp [intOf]; omega
      · obtain rfl : k = 41 := by omega
        go_wp2_with fail
        go_ret
        exact ⟨gV, cv, ret_sliceK HM.out.symm, hO, hB⟩
theorem sOo_any (A : Option Addr) (cap : Nat) (xs : List VHouse) {n : Nat} (w : World) (hn : xs.length = n) (h : SRow encHouse w A xs) (hl : n ≤ 2000000) : Calls Try.prog 30 #[.slice A n cap] w fun E w' => EdgesRet (ooL xs) w E w' := (sOo_some A cap xs w hn h hl).mono fun _ _ ⟨g, c, he, h1, h2⟩ => ⟨_, c, he, h1, h2⟩
theorem iOo_is (A : Option Addr) (cap : Nat) (xs : List VHouse) {n : Nat} {l : List VEdge} (w : World) (hn : xs.length = n) (h : SRow encHouse w A xs) (hl : n ≤ 2000000) (hr : ooL xs = l) : Calls Try.prog 28 #[.slice A n cap] w (EdgesRet l w) := by subst hr; exact iOo_any A cap xs w hn h hl
theorem sOo_is (A : Option Addr) (cap : Nat) (xs : List VHouse) {n : Nat} {l : List VEdge} (w : World) (hn : xs.length = n) (h : SRow encHouse w A xs) (hl : n ≤ 2000000) (hr : ooL xs = l) : Calls Try.prog 30 #[.slice A n cap] w (EdgesRet l w) := by subst hr; exact sOo_any A cap xs w hn h hl
set_option maxRecDepth 100000 in
set_option maxHeartbeats 4000000 in
theorem iOj_any (A : Option Addr) (ca : Nat) (xs : List VEdge) (C : Option Addr) (cc : Nat) (ys : List VEdge) {n m0 : Nat} (w : World) (hn : xs.length = n) (hm : ys.length = m0) (h : SRow encEdge w A xs) (h2 : SRow encEdge w C ys) (hl : n ≤ 2000000) (hl2 : m0 ≤ 2000000) :
    Calls Try.prog 35 #[.slice A n ca, .slice C m0 cc] w fun E w' => EdgesRet (ojL xs ys) w E w' := by
  cases ha : olB xs
  · rw [ojL_nil (.inl ha)]
    have HA := Lib.hid ha
    clear ha
    have HN := Lib.hid hn
    have HN2 := Lib.hid hm
    clear hn hm
    go_enter Try.func35, Try.ntmps35
    go_wp2_with fail
    refine (iOv_is A ca xs _ HN.out (h.next (bel2 w (.cells #[.slice A n ca] 39 (0, 0)) (.cells #[.slice C m0 cc] 39 (0, 0)))) hl HA.out).mono ?_; rintro E w1 ⟨rfl, hw1⟩
    obtain ⟨hP1, hQ1, hB1⟩ := ownb2 hw1
    obtain ⟨c0, f0, z0⟩ := blk1K hP1
    obtain ⟨e0, g0, y0⟩ := blk1K hQ1
    go_wp2
    go_ret
    exact ⟨none, 0, rfl, SOwn.nil _ _ _, hB1⟩
  · cases hc : olB ys
    · rw [ojL_nil (.inr hc)]
      have HA := Lib.hid ha
      have HC := Lib.hid hc
      clear ha hc
      have HN := Lib.hid hn
      have HN2 := Lib.hid hm
      clear hn hm
      go_enter Try.func35, Try.ntmps35
      go_wp2_with fail
      refine (iOv_is A ca xs _ HN.out (h.next (bel2 w (.cells #[.slice A n ca] 39 (0, 0)) (.cells #[.slice C m0 cc] 39 (0, 0)))) hl HA.out).mono ?_; rintro E w1 ⟨rfl, hw1⟩
      obtain ⟨hP1, hQ1, hB1⟩ := ownb2 hw1
      obtain ⟨c0, f0, z0⟩ := blk1K hP1
      obtain ⟨e0, g0, y0⟩ := blk1K hQ1
      go_wp2_with fail
      refine (iOv_is C cc ys _ HN2.out (h2.next hB1) hl2 HC.out).mono ?_; rintro E w2 ⟨rfl, hw2⟩
      have hP2 := blk_next hP1 hw2
      have hQ2 := blk_next hQ1 hw2
      have hB2 := bel_next hB1 hw2
      clear c0 e0 f0 g0
      obtain ⟨c0, f0, _⟩ := blk1K hP2
      obtain ⟨e0, g0, _⟩ := blk1K hQ2
      go_wp2
      go_ret
      exact ⟨none, 0, rfl, SOwn.nil _ _ _, hB2⟩
    · rw [ojL_eq ha hc]
      have HA := Lib.hid ha
      have HC := Lib.hid hc
      clear ha hc
      have HN := Lib.hid hn
      have HN2 := Lib.hid hm
      clear hn hm
      go_enter Try.func35, Try.ntmps35
      go_wp2_with fail
      refine (iOv_is A ca xs _ HN.out (h.next (bel2 w (.cells #[.slice A n ca] 39 (0, 0)) (.cells #[.slice C m0 cc] 39 (0, 0)))) hl HA.out).mono ?_; rintro E w1 ⟨rfl, hw1⟩
      obtain ⟨hP1, hQ1, hB1⟩ := ownb2 hw1
      obtain ⟨c0, f0, z0⟩ := blk1K hP1
      obtain ⟨e0, g0, y0⟩ := blk1K hQ1
      go_wp2_with fail
      refine (iOv_is C cc ys _ HN2.out (h2.next hB1) hl2 HC.out).mono ?_; rintro E w2 ⟨rfl, hw2⟩
      have hP2 := blk_next hP1 hw2
      have hQ2 := blk_next hQ1 hw2
      have hB2 := bel_next hB1 hw2
      clear c0 e0 f0 g0
      obtain ⟨c0, f0, _⟩ := blk1K hP2
      obtain ⟨e0, g0, _⟩ := blk1K hQ2
      go_wp2_with fail
      refine (owJ _ _ _ HN.out HN2.out (h.next hB2) (h2.next hB2) hl hl2 hP2 hQ2).mono ?_; rintro E w3 ⟨V, cv, rfl, hO, hw3⟩
      go_wp2
      go_ret
      exact ⟨V, cv, rfl, hO.mono hB2.size, bel_next hB2 hw3⟩
set_option maxRecDepth 100000 in
set_option maxHeartbeats 4000000 in
theorem sOj_any (A : Option Addr) (ca : Nat) (xs : List VEdge) (C : Option Addr) (cc : Nat) (ys : List VEdge) {n m0 : Nat} (w : World) (hn : xs.length = n) (hm : ys.length = m0) (h : SRow encEdge w A xs) (h2 : SRow encEdge w C ys) (hl : n ≤ 2000000) (hl2 : m0 ≤ 2000000) :
    Calls Try.prog 36 #[.slice A n ca, .slice C m0 cc] w fun E w' => EdgesRet (ojL xs ys) w E w' := by
  obtain ⟨i0, hi0, hz0, hz1, hz2⟩ := info_parts infoEdge
  have HI := Lib.hid (And.intro hi0 (And.intro hz0 (And.intro hz1 hz2)))
  clear hi0 hz0 hz1 hz2
  cases ha : olB xs
  · rw [ojL_nil (.inl ha)]
    have HA := Lib.hid ha
    clear ha
    have HN := Lib.hid hn
    have HN2 := Lib.hid hm
    clear hn hm
    go_enter Try.func36, Try.ntmps36
    go_wp2_with fail
    go_loopw [5, 6, 7] (fun v q i wr => ∃ (k m : Nat) (V : Option Addr) (cv : Nat), k ≤ 0 ∧ m ≤ k ∧ Hid ((owL (ojF xs ys) k).length = m) ∧ i = .int .i64 k ∧ q = .int .i64 (bfI (ojF xs ys) k) ∧ v = .slice V m cv ∧ SOwn encEdge wr w.heap.size 48 V cv (owL (ojF xs ys) k) ∧ Below w.heap.size w wr) (fun _ _ i _ => (41 - intOf i).toNat)
    case atStart => exact ⟨0, 0, some ⟨w.heap.size, 0, none⟩, 0, by omega, by omega, (by show _ = _; rfl), rfl, rfl, rfl, SOwn.empty (blk_new w _) (Nat.le_refl _), bel1 w _⟩
    case round =>
      obtain ⟨k, m, V, cv, k1, mk, HM, rfl, rfl, rfl, hO, hB⟩ := hrel
      obtain rfl : k = 0 := by omega
      obtain rfl : m = 0 := by omega
      have hki : (0 : Int) ≤ 40 := by omega
      go_wp2_with fail
      refine (sOv_is A ca xs _ HN.out (h.next hB) hl HA.out).mono ?_; rintro E w1 ⟨rfl, hw1⟩
      have hB1 := bel_next hB hw1
      go_wp2
      go_ret
      exact ⟨V, cv, rfl, hO.next hw1, hB1⟩
  · cases hc : olB ys
    · rw [ojL_nil (.inr hc)]
      have HA := Lib.hid ha
      have HC := Lib.hid hc
      clear ha hc
      have HN := Lib.hid hn
      have HN2 := Lib.hid hm
      clear hn hm
      go_enter Try.func36, Try.ntmps36
      go_wp2_with fail
      go_loopw [5, 6, 7] (fun v q i wr => ∃ (k m : Nat) (V : Option Addr) (cv : Nat), k ≤ 0 ∧ m ≤ k ∧ Hid ((owL (ojF xs ys) k).length = m) ∧ i = .int .i64 k ∧ q = .int .i64 (bfI (ojF xs ys) k) ∧ v = .slice V m cv ∧ SOwn encEdge wr w.heap.size 48 V cv (owL (ojF xs ys) k) ∧ Below w.heap.size w wr) (fun _ _ i _ => (41 - intOf i).toNat)
      case atStart => exact ⟨0, 0, some ⟨w.heap.size, 0, none⟩, 0, by omega, by omega, (by show _ = _; rfl), rfl, rfl, rfl, SOwn.empty (blk_new w _) (Nat.le_refl _), bel1 w _⟩
      case round =>
        obtain ⟨k, m, V, cv, k1, mk, HM, rfl, rfl, rfl, hO, hB⟩ := hrel
        obtain rfl : k = 0 := by omega
        obtain rfl : m = 0 := by omega
        have hki : (0 : Int) ≤ 40 := by omega
        go_wp2_with fail
        refine (sOv_is A ca xs _ HN.out (h.next hB) hl HA.out).mono ?_; rintro E w1 ⟨rfl, hw1⟩
        have hB1 := bel_next hB hw1
        go_wp2_with fail
        refine (sOv_is C cc ys _ HN2.out (h2.next hB1) hl2 HC.out).mono ?_; rintro E w2 ⟨rfl, hw2b⟩
        have hw2 := bel_next hw1 hw2b
        have hB2 := bel_next hB hw2
        go_wp2
        go_ret
        exact ⟨V, cv, rfl, hO.next hw2, hB2⟩
    · rw [ojL_eq ha hc]
      have HA := Lib.hid ha
      have HC := Lib.hid hc
      clear ha hc
      have HN := Lib.hid hn
      have HN2 := Lib.hid hm
      clear hn hm
      go_enter Try.func36, Try.ntmps36
      go_wp2_with fail
      go_loopw [5, 6, 7] (fun v q i wr => ∃ (k m : Nat) (V : Option Addr) (cv : Nat), k ≤ 41 ∧ m ≤ k ∧ Hid ((owL (ojF xs ys) k).length = m) ∧ i = .int .i64 k ∧ q = .int .i64 (bfI (ojF xs ys) k) ∧ v = .slice V m cv ∧ SOwn encEdge wr w.heap.size 48 V cv (owL (ojF xs ys) k) ∧ Below w.heap.size w wr) (fun _ _ i _ => (41 - intOf i).toNat)
      case atStart => exact ⟨0, 0, some ⟨w.heap.size, 0, none⟩, 0, by omega, by omega, (by show _ = _; rfl), rfl, rfl, rfl, SOwn.empty (blk_new w _) (Nat.le_refl _), bel1 w _⟩
      case round =>
        obtain ⟨k, m, V, cv, k1, mk, HM, rfl, rfl, rfl, hO, hB⟩ := hrel
        by_cases hlt : k < 41
        · have hki : (k : Int) ≤ 40 := by omega
          obtain ⟨x, hx⟩ : ∃ x, max (oaI xs (k : Int)) (oaI ys (k : Int)) = x := ⟨_, rfl⟩
          have hfx : (ojF xs ys) k = x := hx
          have HX := Lib.hid hx
          have HF := Lib.hid hfx
          clear hx hfx
          obtain ⟨q, hq⟩ : ∃ q, bfI (ojF xs ys) k = q := ⟨_, rfl⟩
          have hbs : bfI (ojF xs ys) (k + 1) = x := HF.out
          rw [hq]
          have HQ := Lib.hid hq
          have HBS := Lib.hid hbs
          clear hq hbs
          obtain ⟨x1, hx1⟩ : ∃ z, oaI xs (k : Int) = z := ⟨_, rfl⟩
          obtain ⟨x2, hx2⟩ : ∃ z, oaI ys (k : Int) = z := ⟨_, rfl⟩
          have hmx : max x1 x2 = x := by rw [← hx1, ← hx2]; exact HX.out
          have HX1 := Lib.hid hx1
          have HX2 := Lib.hid hx2
          clear hx1 hx2
          by_cases h12 : x1 < x2
          · obtain rfl : x = x2 := by omega
            clear hmx
            go_wp2_with fail
            refine (sOv_is A ca xs _ HN.out (h.next hB) hl HA.out).mono ?_; rintro E w1 ⟨rfl, hw1⟩
            have hB1 := bel_next hB hw1
            go_wp2_with fail
            refine (sOv_is C cc ys _ HN2.out (h2.next hB1) hl2 HC.out).mono ?_; rintro E w2 ⟨rfl, hw2b⟩
            have hw2 := bel_next hw1 hw2b
            have hB2 := bel_next hB hw2
            go_wp2_with fail
            refine (sOa_is A ca xs _ HN.out (h.next hB2) hl HX1.out).mono ?_; rintro E w3 ⟨rfl, hw3b⟩
            have hw3 := bel_next hw2 hw3b
            have hB3 := bel_next hB hw3
            go_wp2_with fail
            refine (sOa_is C cc ys _ HN2.out (h2.next hB3) hl2 HX2.out).mono ?_; rintro E w7 ⟨rfl, hw7b⟩
            have hw7 := bel_next hw3 hw7b
            have hB7 := bel_next hB hw7
            by_cases hxq : x = q
            · subst hxq
              have HK : Hid ((ojF xs ys) k = bfI (ojF xs ys) k) := by show _ = _; rw [HF.out, HQ.out]
              go_wp2_with fail
              go_roundw
              case rel => exact ⟨k + 1, m, V, cv, by omega, by omega, Lib.hid (lenKeep HK.out HM.out), by go_num, by rw [HBS.out], rfl, by rw [owL_keep HK.out]; exact hO.next hw7, hB7⟩
              case measure => simp [intOf]; omega
            · have HK : Hid (¬ (ojF xs ys) k = bfI (ojF xs ys) k) := by show ¬ _; rw [HF.out, HQ.out]; exact hxq
              have hxb : (x == q) = false := by rw [beq_eq_false_iff_ne]; exact hxq
              have hOa := (hO.next hw7).alloc (.cells (encEdge.enc ((k : Int), x)).toArray 48)
              have hcp := hB7.size
              go_wp2_with (at_builtin; refine wpList_append_lies _ rfl (.tmp 32) (.tmp 36) _ rfl w.heap.size 48 i0 _ 2 16 Try.underlying39 HI.out.1 HI.out.2.1 HI.out.2.2.1 HI.out.2.2.2 rfl (by omega) (.slice V m cv) m (encEdge.flat (owL (ojF xs ys) k)) rfl (by unfold SOwn at hOa; rw [HM.out] at hOa; exact hOa) ⟨w7.heap.size, 0, none⟩ 1 1 (encEdge.enc ((k : Int), x)) rfl rfl (new_enc _ ((k : Int), x) _) (encEdge.one _) (by omega) (by simp only [maxLen]; omega) (by omega) (by simp; omega) _ rfl ?_; intro g5 cap5 w5 hown5 hgr5 hat5 hlt5)
              have hB5 := SOwn.below_grown (hOa.mono (base' := w.heap.size) (by omega)) (hB7.alloc hB7.size _) hgr5
              go_wp2_with fail
              go_roundw
              case rel =>
                have hsn := SOwn.snoc (E := encEdge) (xs := owL (ojF xs ys) k) (x := ((k : Int), x)) (by rw [HM.out]; exact hown5)
                have e : owL (ojF xs ys) (k + 1) = owL (ojF xs ys) k ++ [((k : Int), x)] := by rw [owL_add HK.out, HF.out]
                rw [← e] at hsn
                exact ⟨k + 1, m + 1, some ⟨g5, 0, none⟩, cap5, by omega, by omega, Lib.hid (lenAdd HK.out HM.out), by go_num, by rw [HBS.out], rfl, hsn, hB5⟩
              case measure => simp [intOf]; omega
          · obtain rfl : x = x1 := by omega
            clear hmx
            go_wp2_with fail
            refine (sOv_is A ca xs _ HN.out (h.next hB) hl HA.out).mono ?_; rintro E w1 ⟨rfl, hw1⟩
            have hB1 := bel_next hB hw1
            go_wp2_with fail
            refine (sOv_is C cc ys _ HN2.out (h2.next hB1) hl2 HC.out).mono ?_; rintro E w2 ⟨rfl, hw2b⟩
            have hw2 := bel_next hw1 hw2b
            have hB2 := bel_next hB hw2
            go_wp2_with fail
            refine (sOa_is A ca xs _ HN.out (h.next hB2) hl HX1.out).mono ?_; rintro E w3 ⟨rfl, hw3b⟩
            have hw3 := bel_next hw2 hw3b
            have hB3 := bel_next hB hw3
            go_wp2_with fail
            refine (sOa_is C cc ys _ HN2.out (h2.next hB3) hl2 HX2.out).mono ?_; rintro E w7 ⟨rfl, hw7b⟩
            have hw7 := bel_next hw3 hw7b
            have hB7 := bel_next hB hw7
            by_cases hxq : x = q
            · subst hxq
              have HK : Hid ((ojF xs ys) k = bfI (ojF xs ys) k) := by show _ = _; rw [HF.out, HQ.out]
              go_wp2_with fail
              go_roundw
              case rel => exact ⟨k + 1, m, V, cv, by omega, by omega, Lib.hid (lenKeep HK.out HM.out), by go_num, by rw [HBS.out], rfl, by rw [owL_keep HK.out]; exact hO.next hw7, hB7⟩
              case measure => simp [intOf]; omega
            · have HK : Hid (¬ (ojF xs ys) k = bfI (ojF xs ys) k) := by show ¬ _; rw [HF.out, HQ.out]; exact hxq
              have hxb : (x == q) = false := by rw [beq_eq_false_iff_ne]; exact hxq
              have hOa := (hO.next hw7).alloc (.cells (encEdge.enc ((k : Int), x)).toArray 48)
              have hcp := hB7.size
              go_wp2_with (at_builtin; refine wpList_append_lies _ rfl (.tmp 32) (.tmp 36) _ rfl w.heap.size 48 i0 _ 2 16 Try.underlying39 HI.out.1 HI.out.2.1 HI.out.2.2.1 HI.out.2.2.2 rfl (by omega) (.slice V m cv) m (encEdge.flat (owL (ojF xs ys) k)) rfl (by unfold SOwn at hOa; rw [HM.out] at hOa; exact hOa) ⟨w7.heap.size, 0, none⟩ 1 1 (encEdge.enc ((k : Int), x)) rfl rfl (new_enc _ ((k : Int), x) _) (encEdge.one _) (by omega) (by simp only [maxLen]; omega) (by omega) (by simp; omega) _ rfl ?_; intro g5 cap5 w5 hown5 hgr5 hat5 hlt5)
              have hB5 := SOwn.below_grown (hOa.mono (base' := w.heap.size) (by omega)) (hB7.alloc hB7.size _) hgr5
              go_wp2_with fail
              go_roundw
              case rel =>
                have hsn := SOwn.snoc (E := encEdge) (xs := owL (ojF xs ys) k) (x := ((k : Int), x)) (by rw [HM.out]; exact hown5)
                have e : owL (ojF xs ys) (k + 1) = owL (ojF xs ys) k ++ [((k : Int), x)] := by rw [owL_add HK.out, HF.out]
                rw [← e] at hsn
                exact ⟨k + 1, m + 1, some ⟨g5, 0, none⟩, cap5, by omega, by omega, Lib.hid (lenAdd HK.out HM.out), by go_num, by rw [HBS.out], rfl, hsn, hB5⟩
              case measure => simp [intOf]; omega
        · obtain rfl : k = 41 := by omega
          go_wp2_with fail
          go_ret
          exact ⟨V, cv, ret_sliceK HM.out.symm, hO, hB⟩
theorem iOj_is (A : Option Addr) (ca : Nat) (xs : List VEdge) (C : Option Addr) (cc : Nat) (ys : List VEdge) {n m0 : Nat} {l : List VEdge} (w : World) (hn : xs.length = n) (hm : ys.length = m0) (h : SRow encEdge w A xs) (h2 : SRow encEdge w C ys) (hl : n ≤ 2000000) (hl2 : m0 ≤ 2000000) (hr : ojL xs ys = l) : Calls Try.prog 35 #[.slice A n ca, .slice C m0 cc] w (EdgesRet l w) := by subst hr; exact iOj_any A ca xs C cc ys w hn hm h h2 hl hl2
theorem sOj_is (A : Option Addr) (ca : Nat) (xs : List VEdge) (C : Option Addr) (cc : Nat) (ys : List VEdge) {n m0 : Nat} {l : List VEdge} (w : World) (hn : xs.length = n) (hm : ys.length = m0) (h : SRow encEdge w A xs) (h2 : SRow encEdge w C ys) (hl : n ≤ 2000000) (hl2 : m0 ≤ 2000000) (hr : ojL xs ys = l) : Calls Try.prog 36 #[.slice A n ca, .slice C m0 cc] w (EdgesRet l w) := by subst hr; exact sOj_any A ca xs C cc ys w hn hm h h2 hl hl2
theorem ooL_len (xs : List VHouse) : (ooL xs).length ≤ 41 := by unfold ooL; split; exact owL_len _ _; simp
theorem ojL_len (xs ys : List VEdge) : (ojL xs ys).length ≤ 41 := by unfold ojL; split; exact owL_len _ _; simp
end Go.Proofs.Ytifnengegbiijab
