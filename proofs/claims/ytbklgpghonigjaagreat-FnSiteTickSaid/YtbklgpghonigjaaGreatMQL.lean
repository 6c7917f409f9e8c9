/- QL: texts joined. -/
import Derived.Laws.Rows
import Derived.Laws.AppendOwn
import Derived.Test.YtbklgpghonigjaaGreatMEb
import Derived.Test.YtbklgpghonigjaaGreatMQK
import Derived.Test.YtbklgpghonigjaaGreatMQJ
import Derived.Test.YtbklgpghonigjaaGreatMBp
namespace Go.Proofs.YtbklgpghonigjaaGreat
open Go Go.Deep Go.ChangeShapes Go.WideShapes Go.ChangeAt Go.RowKit
set_option linter.unusedSimpArgs false
set_option linter.unusedVariables false
theorem SRow.newsE {α : Type} {E : Enc α} {w : World} {ad : Addr} {xs : List α} (h : SRow E w (some ad) xs) : ∀ j u, (E.flat xs)[j]? = some u → w.cell? (ad.add j) = some u := by
  intro j u hu
  rcases h with rfl | ⟨b, off, e, hc⟩
  · simp [E.flat_nil] at hu
  · obtain rfl := Option.some.inj e
    have hk := E.pos
    have hj : j < xs.length * E.k := by
      have := (List.getElem?_eq_some_iff.1 hu).1
      rwa [E.flat_len] at this
    have hq : j / E.k < xs.length := by rw [Nat.div_lt_iff_lt_mul hk]; exact hj
    have hm : j / E.k * E.k + j % E.k = j := by rw [Nat.mul_comm]; exact Nat.div_add_mod j E.k
    have e1 := E.flat_at xs (j / E.k) hq (j % E.k) (Nat.mod_lt j hk)
    rw [hm, hu] at e1
    have := hc (j / E.k) hq (j % E.k) u e1.symm
    rw [hm] at this
    unfold Addr.add
    split
    · rename_i e; subst e; exact this
    · exact this
theorem blk_grownE {w w' : World} {row : Option Nat} {k : Nat} {o : Obj} (h : w.heap[k]? = some o) (hg : w.grownBy w' row) (hne : row ≠ some k) : w'.heap[k]? = some o := by
  rw [hg.block k (blk_lt h) (fun e => hne e.symm)]; exact h
theorem SOwn.ne_typeE {α : Type} {E : Enc α} {w : World} {base : Nat} {T T' : TypeId} {A : Option Addr} {cap n k : Nat} {xs : List α} {c : Array Value} {z : Nat × Nat} (h : SOwn E w base T A cap xs) (hk : w.heap[k]? = some (.cells c T' z)) (hT : T ≠ T') : Value.ownBlock (.slice A n cap) ≠ some k := by
  rcases h.2 with ⟨e, _⟩ | ⟨g, cap', cur, e, hb, hg, _⟩
  · simp only [Value.slice.injEq] at e
    rw [e.1]; simp [Value.ownBlock]
  · simp only [Value.slice.injEq] at e
    rw [e.1]
    simp only [Value.ownBlock, ne_eq]
    intro h2
    have e2 : g = k := by simpa using h2
    rw [e2, hk] at hg
    simp at hg
    exact hT hg.2.1.symm
theorem blk_drwE {w : World} {k : Nat} {o : Obj} (h : w.heap[k]? = some o) : w.drew.heap[k]? = some o := h
/-- A copy of blocks: a row of the call's own, or none. -/
def CloneB (xs : List VBlock) (w : World) (e : Ending) (w' : World) : Prop := ∃ (A : Option Addr) (cp : Nat), e = .returned (.slice A xs.length cp) ∧ SOwn encBlock w' w.heap.size 40 A cp xs ∧ Below w.heap.size w w'
def CopyB (la dy mi e1 n1 fe fn fu ho ha ne lo hi st : Int) (up : Bool) (xs : List VBlock) (w : World) (e : Ending) (w' : World) : Prop := ∃ (A : Option Addr) (cp : Nat), e = .returned (.agg #[.int .i64 la, .int .i64 dy, .int .i64 mi, .slice A xs.length cp, .int .i64 e1, .int .i64 n1, .int .i64 fe, .int .i64 fn, .int .i64 fu, .int .i64 ho, .int .i64 ha, .int .i64 ne, .int .i64 lo, .int .i64 hi, .bool up, .int .i64 st]) ∧ SOwn encBlock w' w.heap.size 40 A cp xs ∧ Below w.heap.size w w'
theorem SOwn.far16 {α : Type} {E : Enc α} {w : World} {base b cap : Nat} {T : TypeId} {A : Option Addr} {xs : List α} {c : Array Value} {T' : TypeId} {z : Nat × Nat} (h : SOwn E w base T A cap xs) (hk : w.heap[b]? = some (.cells c T' z)) (hT : T ≠ T') (y0 y1 y2 y3 y4 y5 y6 y7 y8 y9 y10 y11 y12 y13 y14 y15 : Value) : SOwn E (World.setCell (World.setCell (World.setCell (World.setCell (World.setCell (World.setCell (World.setCell (World.setCell (World.setCell (World.setCell (World.setCell (World.setCell (World.setCell (World.setCell (World.setCell (World.setCell w ⟨b, 0, none⟩ y0) ⟨b, 1, none⟩ y1) ⟨b, 2, none⟩ y2) ⟨b, 3, none⟩ y3) ⟨b, 4, none⟩ y4) ⟨b, 5, none⟩ y5) ⟨b, 6, none⟩ y6) ⟨b, 7, none⟩ y7) ⟨b, 8, none⟩ y8) ⟨b, 9, none⟩ y9) ⟨b, 10, none⟩ y10) ⟨b, 11, none⟩ y11) ⟨b, 12, none⟩ y12) ⟨b, 13, none⟩ y13) ⟨b, 14, none⟩ y14) ⟨b, 15, none⟩ y15) base T A cap xs :=
  h.grown_far (row := some b) (setAll_grown [y0, y1, y2, y3, y4, y5, y6, y7, y8, y9, y10, y11, y12, y13, y14, y15] 0 ⟨rfl, rfl, rfl, Nat.le_refl _, fun _ _ _ => rfl⟩) (fun g hg e => by
    have := SOwn.ne_typeE (n := 0) h hk hT
    rw [hg] at this; simp [Value.ownBlock] at this e; exact this e.symm)
set_option maxRecDepth 100000 in
set_option maxHeartbeats 4000000 in
theorem cloneB_some (a : Addr) (cap : Nat) (xs : List VBlock) (w : World) {n : Nat} (hn : xs.length = n) (h : SRow encBlock w (some a) xs) (hl : n ≤ 2000000) : Calls Tryz.prog 103 #[.slice (some a) n cap] w (CloneB xs w) := by
  have HN := Lib.hid hn
  have H := Lib.hid h
  clear hn h
  obtain ⟨i0, hi0, hz0, hz1, hz2⟩ := info_parts infoBlock
  have HI := Lib.hid (And.intro hi0 (And.intro hz0 (And.intro hz1 hz2)))
  clear hi0 hz0 hz1 hz2
  have q25 : ∀ (w : World) (a : Option Addr) (n c n' c' : Nat), (binOp .eql 23 (.slice a n c) (.slice none n' c')).run Tryz.prog w = .ok (.bool a.isNone) w := fun w a n c n' c' => Lib.run_eql_slice_nil w _ _ a n c n' c' Tryz.underlying23
  have hsrc := SRow.newsE (H.out.next (bel1 w (.cells #[] 40)))
  have hOe := SOwn.empty (E := encBlock) (blk_new w (.cells #[] 40)) (Nat.le_refl _)
  go_enter Tryz.func103, Tryz.ntmps103
  go_wp2_with (at_builtin; refine wpList_append_own _ rfl (.tmp 5) (.tmp 6) _ rfl w.heap.size 40 i0 _ 5 40 Tryz.underlying23 HI.out.1 HI.out.2.1 HI.out.2.2.1 HI.out.2.2.2 rfl (by omega) (.slice (some ⟨w.heap.size, 0, none⟩) 0 0) 0 [] rfl hOe a n cap (encBlock.flat xs) rfl (by rw [encBlock.flat_len, HN.out]; rfl) hsrc (encBlock.flat_one _) (by simp only [maxLen]; omega) (by omega) (by simp) ?_; intro v9 w9 hown9 hgr9 hnil9)
  have hn9 : 0 + n = n := by omega
  rw [hn9] at hown9
  have hv9 : v9 ≠ .slice none 0 0 := fun e => by have := (hnil9.1 e).1; simp at this
  obtain ⟨g, cp, rfl⟩ : ∃ g cp, v9 = .slice (some ⟨g, 0, none⟩) n cp := by
    rcases hown9.2 with ⟨e, _⟩ | ⟨g, cap', cur, e, _⟩
    · exact absurd e hv9
    · exact ⟨g, cap', e⟩
  clear hnil9 hv9 hsrc q25
  have hO9 : SOwn encBlock w9 w.heap.size 40 (some ⟨g, 0, none⟩) cp xs := SOwn.of_raw hown9 (by simp) HN.out
  have hB9 := SOwn.below_grown (w0 := w) hOe (bel1 w _) hgr9
  clear hown9 hgr9 hOe
  go_wp2
  go_ret
  exact ⟨some ⟨g, 0, none⟩, cp, by rw [HN.out]; rfl, hO9, hB9⟩
set_option maxRecDepth 100000 in
set_option maxHeartbeats 4000000 in
theorem cloneB_nil (n cap : Nat) (w : World) : Calls Tryz.prog 103 #[.slice none n cap] w fun e w' => e = .returned (.slice none 0 0) ∧ w = w' := by
  have q25 : ∀ (w : World) (a : Option Addr) (n c n' c' : Nat), (binOp .eql 23 (.slice a n c) (.slice none n' c')).run Tryz.prog w = .ok (.bool a.isNone) w := fun w a n c n' c' => Lib.run_eql_slice_nil w _ _ a n c n' c' Tryz.underlying23
  go_enter Tryz.func103, Tryz.ntmps103
  go_wp2
  go_ret
  exact ⟨rfl, rfl⟩
theorem cloneB_is (A : Option Addr) (cap : Nat) (xs : List VBlock) (w : World) {n : Nat} (hn : xs.length = n) (h : SRow encBlock w A xs) (hl : n ≤ 2000000) : Calls Tryz.prog 103 #[.slice A n cap] w (CloneB xs w) := by
  cases A with
  | none =>
    have hx : xs = [] := by
      rcases h with e | ⟨b, off, e, _⟩
      · exact e
      · cases e
    subst hx
    refine (cloneB_nil n cap w).mono ?_
    rintro e w' ⟨rfl, rfl⟩
    exact ⟨none, 0, rfl, SOwn.nil _ _ _, Below.refl _ _⟩
  | some a => exact cloneB_some a cap xs w hn h hl
theorem SOwn.boxE {α : Type} {E : Enc α} {w : World} {base b i cap : Nat} {T : TypeId} {A : Option Addr} {xs : List α} {c : Array Value} {T' : TypeId} {z : Nat × Nat} (h : SOwn E w base T A cap xs) (hk : w.heap[b]? = some (.cells c T' z)) (hT : T ≠ T') (v : Value) : SOwn E (w.setCell ⟨b, i, none⟩ v) base T A cap xs :=
  h.grown_far (row := some b) (setAll_grown [v] i ⟨rfl, rfl, rfl, Nat.le_refl _, fun _ _ _ => rfl⟩) (fun g hg e => by
    have := SOwn.ne_typeE (n := 0) h hk hT
    rw [hg] at this; simp [Value.ownBlock] at this e; exact this e.symm)
set_option maxRecDepth 100000 in
set_option maxHeartbeats 4000000 in
theorem iWhole_is (la dy mi e1 n1 fe fn fu ho ha ne lo hi st : Int) (up : Bool) (A : Option Addr) (cap : Nat) (xs : List VBlock) {n : Nat} (w : World) (hn : xs.length = n) (h : SRow encBlock w A xs) (hl : n ≤ 2000000) : Calls Tryz.prog 80 #[.agg #[.int .i64 la, .int .i64 dy, .int .i64 mi, .int .i64 fe, .int .i64 fn, .int .i64 fu, .int .i64 ho, .int .i64 ha, .int .i64 ne, .slice A n cap, .int .i64 e1, .int .i64 n1, .int .i64 lo, .int .i64 hi, .bool up, .int .i64 st]] w (CopyB la dy mi e1 n1 fe fn fu ho ha ne lo hi st up xs w) := by
  have HN := Lib.hid hn
  have h0 := h
  clear hn h
  have hP0 := blk_old (blk_new w (.cells #[.int .i64 la, .int .i64 dy, .int .i64 mi, .int .i64 fe, .int .i64 fn, .int .i64 fu, .int .i64 ho, .int .i64 ha, .int .i64 ne, .slice A n cap, .int .i64 e1, .int .i64 n1, .int .i64 lo, .int .i64 hi, .bool up, .int .i64 st] 77 (0, 0))) (.cells #[.int .i64 0, .int .i64 0, .int .i64 0, .slice none 0 0, .int .i64 0, .int .i64 0, .int .i64 0, .int .i64 0, .int .i64 0, .int .i64 0, .int .i64 0, .int .i64 0, .int .i64 0, .int .i64 0, .bool false, .int .i64 0] 33 (0, 0))
  have hQ0 := blk_new (w.alloc (.cells #[.int .i64 la, .int .i64 dy, .int .i64 mi, .int .i64 fe, .int .i64 fn, .int .i64 fu, .int .i64 ho, .int .i64 ha, .int .i64 ne, .slice A n cap, .int .i64 e1, .int .i64 n1, .int .i64 lo, .int .i64 hi, .bool up, .int .i64 st] 77 (0, 0))) (.cells #[.int .i64 0, .int .i64 0, .int .i64 0, .slice none 0 0, .int .i64 0, .int .i64 0, .int .i64 0, .int .i64 0, .int .i64 0, .int .i64 0, .int .i64 0, .int .i64 0, .int .i64 0, .int .i64 0, .bool false, .int .i64 0] 33 (0, 0))
  have hsz : (w.alloc (.cells #[.int .i64 la, .int .i64 dy, .int .i64 mi, .int .i64 fe, .int .i64 fn, .int .i64 fu, .int .i64 ho, .int .i64 ha, .int .i64 ne, .slice A n cap, .int .i64 e1, .int .i64 n1, .int .i64 lo, .int .i64 hi, .bool up, .int .i64 st] 77 (0, 0))).heap.size = w.heap.size + 1 := by simp
  rw [hsz] at hQ0
  have hzz : ((w.alloc (.cells #[.int .i64 la, .int .i64 dy, .int .i64 mi, .int .i64 fe, .int .i64 fn, .int .i64 fu, .int .i64 ho, .int .i64 ha, .int .i64 ne, .slice A n cap, .int .i64 e1, .int .i64 n1, .int .i64 lo, .int .i64 hi, .bool up, .int .i64 st] 77 (0, 0))).alloc (.cells #[.int .i64 0, .int .i64 0, .int .i64 0, .slice none 0 0, .int .i64 0, .int .i64 0, .int .i64 0, .int .i64 0, .int .i64 0, .int .i64 0, .int .i64 0, .int .i64 0, .int .i64 0, .int .i64 0, .bool false, .int .i64 0] 33 (0, 0))).heap.size = w.heap.size + 1 + 1 := by simp
  go_enter Tryz.func80, Tryz.ntmps80
  go_wp2_with fail
  refine wp_region_held_drew (S := (fun w' => w'.heap[w.heap.size]? = some (.cells #[.int .i64 la, .int .i64 dy, .int .i64 mi, .int .i64 fe, .int .i64 fn, .int .i64 fu, .int .i64 ho, .int .i64 ha, .int .i64 ne, .slice A n cap, .int .i64 e1, .int .i64 n1, .int .i64 lo, .int .i64 hi, .bool up, .int .i64 st] 77 (0, 0)) ∧ Below w.heap.size w w')) (by kernel_rfl) ⟨hP0, (bel2 w (.cells #[.int .i64 la, .int .i64 dy, .int .i64 mi, .int .i64 fe, .int .i64 fn, .int .i64 fu, .int .i64 ho, .int .i64 ha, .int .i64 ne, .slice A n cap, .int .i64 e1, .int .i64 n1, .int .i64 lo, .int .i64 hi, .bool up, .int .i64 st] 77 (0, 0)) (.cells #[.int .i64 0, .int .i64 0, .int .i64 0, .slice none 0 0, .int .i64 0, .int .i64 0, .int .i64 0, .int .i64 0, .int .i64 0, .int .i64 0, .int .i64 0, .int .i64 0, .int .i64 0, .int .i64 0, .bool false, .int .i64 0] 33 (0, 0))).drew⟩ (fun hHeld => ?_)
  have hQ_0 := blk_drwE hQ0
  refine wpAnyH_take (i := 0) (oi := _) (v := ?_) rfl (by kernel_rfl) (by kernel_rfl) (by kernel_rfl) (fun _ _ _ h => h) (Or.inl ⟨by rfl, ?_⟩) (by assumption) ?_
  (rotate_left); (focus (intro wv hSw; go_simp; (try with_reducible rfl)))
  try simp only [Act.put, List.getElem_toArray, List.getElem_cons_succ, List.getElem_cons_zero, List.setIfInBounds_toArray, List.set_cons_zero, List.set_cons_succ]
  refine wpAnyH_take (i := 1) (oi := _) (v := ?_) rfl (by kernel_rfl) (by kernel_rfl) (by kernel_rfl) (fun _ _ _ h => h) (Or.inl ⟨by rfl, ?_⟩) (by assumption) ?_
  (rotate_left); (focus (intro wv hSw; go_simp; (try with_reducible rfl)))
  try simp only [Act.put, List.getElem_toArray, List.getElem_cons_succ, List.getElem_cons_zero, List.setIfInBounds_toArray, List.set_cons_zero, List.set_cons_succ]
  refine wpAnyH_take (i := 2) (oi := _) (v := ?_) rfl (by kernel_rfl) (by kernel_rfl) (by kernel_rfl) (fun _ _ _ h => h) (Or.inl ⟨by rfl, ?_⟩) (by assumption) ?_
  (rotate_left); (focus (intro wv hSw; obtain ⟨qP, _⟩ := id hSw; obtain ⟨_, _, _, _, _, _, _, _, _, _, _, _, _, _, _, _, _, _, _, _, _, _, _, _, _, _, _, _, _, _, _, _, _⟩ := blk16 qP; go_simp; (try with_reducible rfl)))
  try simp only [Act.put, List.getElem_toArray, List.getElem_cons_succ, List.getElem_cons_zero, List.setIfInBounds_toArray, List.set_cons_zero, List.set_cons_succ]
  refine wpAnyH_take (i := 3) (oi := _) (v := ?_) rfl (by kernel_rfl) (by kernel_rfl) (by kernel_rfl) (fun _ _ _ h => h) (Or.inl ⟨by rfl, ?_⟩) (by assumption) ?_
  (rotate_left); (focus (intro wv hSw; go_simp; (try with_reducible rfl)))
  try simp only [Act.put, List.getElem_toArray, List.getElem_cons_succ, List.getElem_cons_zero, List.setIfInBounds_toArray, List.set_cons_zero, List.set_cons_succ]
  refine wpAnyH_take (i := 4) (oi := _) (v := ?_) rfl (by kernel_rfl) (by kernel_rfl) (by kernel_rfl) (fun _ _ _ h => h) (Or.inl ⟨by rfl, ?_⟩) (by assumption) ?_
  (rotate_left); (focus (intro wv hSw; go_simp; (try with_reducible rfl)))
  try simp only [Act.put, List.getElem_toArray, List.getElem_cons_succ, List.getElem_cons_zero, List.setIfInBounds_toArray, List.set_cons_zero, List.set_cons_succ]
  refine wpAnyH_take (i := 5) (oi := _) (v := ?_) rfl (by kernel_rfl) (by kernel_rfl) (by kernel_rfl) (fun _ _ _ h => h) (Or.inl ⟨by rfl, ?_⟩) (by assumption) ?_
  (rotate_left); (focus (intro wv hSw; obtain ⟨qP, _⟩ := id hSw; obtain ⟨_, _, _, _, _, _, _, _, _, _, _, _, _, _, _, _, _, _, _, _, _, _, _, _, _, _, _, _, _, _, _, _, _⟩ := blk16 qP; go_simp; (try with_reducible rfl)))
  try simp only [Act.put, List.getElem_toArray, List.getElem_cons_succ, List.getElem_cons_zero, List.setIfInBounds_toArray, List.set_cons_zero, List.set_cons_succ]
  refine wpAnyH_take (i := 6) (oi := _) (v := ?_) rfl (by kernel_rfl) (by kernel_rfl) (by kernel_rfl) (fun _ _ _ h => h) (Or.inl ⟨by rfl, ?_⟩) (by assumption) ?_
  (rotate_left); (focus (intro wv hSw; go_simp; (try with_reducible rfl)))
  try simp only [Act.put, List.getElem_toArray, List.getElem_cons_succ, List.getElem_cons_zero, List.setIfInBounds_toArray, List.set_cons_zero, List.set_cons_succ]
  refine wpAnyH_take (i := 7) (oi := _) (v := ?_) rfl (by kernel_rfl) (by kernel_rfl) (by kernel_rfl) (fun _ _ _ h => h) (Or.inl ⟨by rfl, ?_⟩) (by assumption) ?_
  (rotate_left); (focus (intro wv hSw; go_simp; (try with_reducible rfl)))
  try simp only [Act.put, List.getElem_toArray, List.getElem_cons_succ, List.getElem_cons_zero, List.setIfInBounds_toArray, List.set_cons_zero, List.set_cons_succ]
  refine wpAnyH_take (i := 8) (oi := _) (v := ?_) rfl (by kernel_rfl) (by kernel_rfl) (by kernel_rfl) (fun _ _ _ h => h) (Or.inl ⟨by rfl, ?_⟩) (by assumption) ?_
  (rotate_left); (focus (intro wv hSw; obtain ⟨qP, _⟩ := id hSw; obtain ⟨_, _, _, _, _, _, _, _, _, _, _, _, _, _, _, _, _, _, _, _, _, _, _, _, _, _, _, _, _, _, _, _, _⟩ := blk16 qP; go_simp; (try with_reducible rfl)))
  try simp only [Act.put, List.getElem_toArray, List.getElem_cons_succ, List.getElem_cons_zero, List.setIfInBounds_toArray, List.set_cons_zero, List.set_cons_succ]
  refine wpAnyH_take (i := 9) (oi := _) (v := ?_) rfl (by kernel_rfl) (by kernel_rfl) (by kernel_rfl) (fun _ _ _ h => h) (Or.inl ⟨by rfl, ?_⟩) (by assumption) ?_
  (rotate_left); (focus (intro wv hSw; go_simp; (try with_reducible rfl)))
  try simp only [Act.put, List.getElem_toArray, List.getElem_cons_succ, List.getElem_cons_zero, List.setIfInBounds_toArray, List.set_cons_zero, List.set_cons_succ]
  refine wpAnyH_take (i := 10) (oi := _) (v := ?_) rfl (by kernel_rfl) (by kernel_rfl) (by kernel_rfl) (fun _ _ _ h => h) (Or.inl ⟨by rfl, ?_⟩) (by assumption) ?_
  (rotate_left); (focus (intro wv hSw; obtain ⟨qP, _⟩ := id hSw; obtain ⟨_, _, _, _, _, _, _, _, _, _, _, _, _, _, _, _, _, _, _, _, _, _, _, _, _, _, _, _, _, _, _, _, _⟩ := blk16 qP; go_simp; (try with_reducible rfl)))
  try simp only [Act.put, List.getElem_toArray, List.getElem_cons_succ, List.getElem_cons_zero, List.setIfInBounds_toArray, List.set_cons_zero, List.set_cons_succ]
  refine wpAnyH_take (i := 12) (oi := _) (v := ?_) rfl (by kernel_rfl) (by kernel_rfl) (by kernel_rfl) (fun _ _ _ h => h) (Or.inl ⟨by rfl, ?_⟩) (by assumption) ?_
  (rotate_left); (focus (intro wv hSw; go_simp; (try with_reducible rfl)))
  try simp only [Act.put, List.getElem_toArray, List.getElem_cons_succ, List.getElem_cons_zero, List.setIfInBounds_toArray, List.set_cons_zero, List.set_cons_succ]
  refine wpAnyH_take (i := 13) (oi := _) (v := ?_) rfl (by kernel_rfl) (by kernel_rfl) (by kernel_rfl) (fun _ _ _ h => h) (Or.inl ⟨by rfl, ?_⟩) (by assumption) ?_
  (rotate_left); (focus (intro wv hSw; obtain ⟨qP, _⟩ := id hSw; obtain ⟨_, _, _, _, _, _, _, _, _, _, _, _, _, _, _, _, _, _, _, _, _, _, _, _, _, _, _, _, _, _, _, _, _⟩ := blk16 qP; go_simp; (try with_reducible rfl)))
  try simp only [Act.put, List.getElem_toArray, List.getElem_cons_succ, List.getElem_cons_zero, List.setIfInBounds_toArray, List.set_cons_zero, List.set_cons_succ]
  refine wpAnyH_take (i := 14) (oi := _) (v := ?_) rfl (by kernel_rfl) (by kernel_rfl) (by kernel_rfl) (fun _ _ _ h => h) (Or.inl ⟨by rfl, ?_⟩) (by assumption) ?_
  (rotate_left); (focus (intro wv hSw; go_simp; (try with_reducible rfl)))
  try simp only [Act.put, List.getElem_toArray, List.getElem_cons_succ, List.getElem_cons_zero, List.setIfInBounds_toArray, List.set_cons_zero, List.set_cons_succ]
  refine wpAnyH_take (i := 15) (oi := _) (v := ?_) rfl (by kernel_rfl) (by kernel_rfl) (by kernel_rfl) (fun _ _ _ h => h) (Or.inl ⟨by rfl, ?_⟩) (by assumption) ?_
  (rotate_left); (focus (intro wv hSw; go_simp; (try with_reducible rfl)))
  try simp only [Act.put, List.getElem_toArray, List.getElem_cons_succ, List.getElem_cons_zero, List.setIfInBounds_toArray, List.set_cons_zero, List.set_cons_succ]
  refine wpAnyH_take (i := 16) (oi := _) (v := ?_) rfl (by kernel_rfl) (by kernel_rfl) (by kernel_rfl) (fun _ _ _ h => h) (Or.inl ⟨by rfl, ?_⟩) (by assumption) ?_
  (rotate_left); (focus (intro wv hSw; obtain ⟨qP, _⟩ := id hSw; obtain ⟨_, _, _, _, _, _, _, _, _, _, _, _, _, _, _, _, _, _, _, _, _, _, _, _, _, _, _, _, _, _, _, _, _⟩ := blk16 qP; go_simp; (try with_reducible rfl)))
  try simp only [Act.put, List.getElem_toArray, List.getElem_cons_succ, List.getElem_cons_zero, List.setIfInBounds_toArray, List.set_cons_zero, List.set_cons_succ]
  refine wpAnyH_take (i := 17) (oi := _) (v := ?_) rfl (by kernel_rfl) (by kernel_rfl) (by kernel_rfl) (fun _ _ _ h => h) (Or.inl ⟨by rfl, ?_⟩) (by assumption) ?_
  (rotate_left); (focus (intro wv hSw; go_simp; (try with_reducible rfl)))
  try simp only [Act.put, List.getElem_toArray, List.getElem_cons_succ, List.getElem_cons_zero, List.setIfInBounds_toArray, List.set_cons_zero, List.set_cons_succ]
  refine wpAnyH_take (i := 18) (oi := _) (v := ?_) rfl (by kernel_rfl) (by kernel_rfl) (by kernel_rfl) (fun _ _ _ h => h) (Or.inl ⟨by rfl, ?_⟩) (by assumption) ?_
  (rotate_left); (focus (intro wv hSw; go_simp; (try with_reducible rfl)))
  try simp only [Act.put, List.getElem_toArray, List.getElem_cons_succ, List.getElem_cons_zero, List.setIfInBounds_toArray, List.set_cons_zero, List.set_cons_succ]
  refine wpAnyH_take (i := 19) (oi := _) (v := ?_) rfl (by kernel_rfl) (by kernel_rfl) (by kernel_rfl) (fun _ _ _ h => h) (Or.inl ⟨by rfl, ?_⟩) (by assumption) ?_
  (rotate_left); (focus (intro wv hSw; obtain ⟨qP, _⟩ := id hSw; obtain ⟨_, _, _, _, _, _, _, _, _, _, _, _, _, _, _, _, _, _, _, _, _, _, _, _, _, _, _, _, _, _, _, _, _⟩ := blk16 qP; go_simp; (try with_reducible rfl)))
  try simp only [Act.put, List.getElem_toArray, List.getElem_cons_succ, List.getElem_cons_zero, List.setIfInBounds_toArray, List.set_cons_zero, List.set_cons_succ]
  refine wpAnyH_take (i := 20) (oi := _) (v := ?_) rfl (by kernel_rfl) (by kernel_rfl) (by kernel_rfl) (fun _ _ _ h => h) (Or.inl ⟨by rfl, ?_⟩) (by assumption) ?_
  (rotate_left); (focus (intro wv hSw; go_simp; (try with_reducible rfl)))
  try simp only [Act.put, List.getElem_toArray, List.getElem_cons_succ, List.getElem_cons_zero, List.setIfInBounds_toArray, List.set_cons_zero, List.set_cons_succ]
  refine wpAnyH_take (i := 21) (oi := _) (v := ?_) rfl (by kernel_rfl) (by kernel_rfl) (by kernel_rfl) (fun _ _ _ h => h) (Or.inl ⟨by rfl, ?_⟩) (by assumption) ?_
  (rotate_left); (focus (intro wv hSw; go_simp; (try with_reducible rfl)))
  try simp only [Act.put, List.getElem_toArray, List.getElem_cons_succ, List.getElem_cons_zero, List.setIfInBounds_toArray, List.set_cons_zero, List.set_cons_succ]
  refine wpAnyH_take (i := 22) (oi := _) (v := ?_) rfl (by kernel_rfl) (by kernel_rfl) (by kernel_rfl) (fun _ _ _ h => h) (Or.inl ⟨by rfl, ?_⟩) (by assumption) ?_
  (rotate_left); (focus (intro wv hSw; obtain ⟨qP, _⟩ := id hSw; obtain ⟨_, _, _, _, _, _, _, _, _, _, _, _, _, _, _, _, _, _, _, _, _, _, _, _, _, _, _, _, _, _, _, _, _⟩ := blk16 qP; go_simp; (try with_reducible rfl)))
  try simp only [Act.put, List.getElem_toArray, List.getElem_cons_succ, List.getElem_cons_zero, List.setIfInBounds_toArray, List.set_cons_zero, List.set_cons_succ]
  refine wpAnyH_take (i := 23) (oi := _) (v := ?_) rfl (by kernel_rfl) (by kernel_rfl) (by kernel_rfl) (fun _ _ _ h => h) (Or.inl ⟨by rfl, ?_⟩) (by assumption) ?_
  (rotate_left); (focus (intro wv hSw; go_simp; (try with_reducible rfl)))
  try simp only [Act.put, List.getElem_toArray, List.getElem_cons_succ, List.getElem_cons_zero, List.setIfInBounds_toArray, List.set_cons_zero, List.set_cons_succ]
  refine wpAnyH_take (i := 24) (oi := _) (v := ?_) rfl (by kernel_rfl) (by kernel_rfl) (by kernel_rfl) (fun _ _ _ h => h) (Or.inl ⟨by rfl, ?_⟩) (by assumption) ?_
  (rotate_left); (focus (intro wv hSw; go_simp; (try with_reducible rfl)))
  try simp only [Act.put, List.getElem_toArray, List.getElem_cons_succ, List.getElem_cons_zero, List.setIfInBounds_toArray, List.set_cons_zero, List.set_cons_succ]
  refine wpAnyH_take (i := 25) (oi := _) (v := ?_) rfl (by kernel_rfl) (by kernel_rfl) (by kernel_rfl) (fun _ _ _ h => h) (Or.inl ⟨by rfl, ?_⟩) (by assumption) ?_
  (rotate_left); (focus (intro wv hSw; obtain ⟨qP, _⟩ := id hSw; obtain ⟨_, _, _, _, _, _, _, _, _, _, _, _, _, _, _, _, _, _, _, _, _, _, _, _, _, _, _, _, _, _, _, _, _⟩ := blk16 qP; go_simp; (try with_reducible rfl)))
  try simp only [Act.put, List.getElem_toArray, List.getElem_cons_succ, List.getElem_cons_zero, List.setIfInBounds_toArray, List.set_cons_zero, List.set_cons_succ]
  refine wpAnyH_take (i := 26) (oi := _) (v := ?_) rfl (by kernel_rfl) (by kernel_rfl) (by kernel_rfl) (fun _ _ _ h => h) (Or.inl ⟨by rfl, ?_⟩) (by assumption) ?_
  (rotate_left); (focus (intro wv hSw; go_simp; (try with_reducible rfl)))
  try simp only [Act.put, List.getElem_toArray, List.getElem_cons_succ, List.getElem_cons_zero, List.setIfInBounds_toArray, List.set_cons_zero, List.set_cons_succ]
  refine wpAnyH_take (i := 27) (oi := _) (v := ?_) rfl (by kernel_rfl) (by kernel_rfl) (by kernel_rfl) (fun _ _ _ h => h) (Or.inl ⟨by rfl, ?_⟩) (by assumption) ?_
  (rotate_left); (focus (intro wv hSw; obtain ⟨qP, _⟩ := id hSw; obtain ⟨_, _, _, _, _, _, _, _, _, _, _, _, _, _, _, _, _, _, _, _, _, _, _, _, _, _, _, _, _, _, _, _, _⟩ := blk16 qP; go_simp; (try with_reducible rfl)))
  try simp only [Act.put, List.getElem_toArray, List.getElem_cons_succ, List.getElem_cons_zero, List.setIfInBounds_toArray, List.set_cons_zero, List.set_cons_succ]
  refine wpAnyH_take (i := 28) (oi := _) (v := ?_) rfl (by kernel_rfl) (by kernel_rfl) (by kernel_rfl) (fun _ _ _ h => h) (Or.inl ⟨by rfl, ?_⟩) (by assumption) ?_
  (rotate_left); (focus (intro wv hSw; go_simp; (try with_reducible rfl)))
  try simp only [Act.put, List.getElem_toArray, List.getElem_cons_succ, List.getElem_cons_zero, List.setIfInBounds_toArray, List.set_cons_zero, List.set_cons_succ]
  refine wpAnyH_take (i := 29) (oi := _) (v := ?_) rfl (by kernel_rfl) (by kernel_rfl) (by kernel_rfl) (fun _ _ _ h => h) (Or.inl ⟨by rfl, ?_⟩) (by assumption) ?_
  (rotate_left); (focus (intro wv hSw; obtain ⟨qP, _⟩ := id hSw; obtain ⟨_, _, _, _, _, _, _, _, _, _, _, _, _, _, _, _, _, _, _, _, _, _, _, _, _, _, _, _, _, _, _, _, _⟩ := blk16 qP; go_simp; (try with_reducible rfl)))
  try simp only [Act.put, List.getElem_toArray, List.getElem_cons_succ, List.getElem_cons_zero, List.setIfInBounds_toArray, List.set_cons_zero, List.set_cons_succ]
  refine wpAnyH_ready (rs := [11]) (by kernel_rfl) (by simp) ?_
  refine AllReadyH.cons (o := _) rfl (fun K hK => ?_) (AllReadyH.nil)
  go_simp
  (go_at_call 103; refine (cloneB_is A cap xs _ HN.out (h0.next hHeld.2) hl).mono ?_; rintro e w1 ⟨A2, cp2, rfl, hO1, hw1⟩)
  rw [HN.out]
  rw [show (World.drew ((w.alloc (.cells #[.int .i64 la, .int .i64 dy, .int .i64 mi, .int .i64 fe, .int .i64 fn, .int .i64 fu, .int .i64 ho, .int .i64 ha, .int .i64 ne, .slice A n cap, .int .i64 e1, .int .i64 n1, .int .i64 lo, .int .i64 hi, .bool up, .int .i64 st] 77 (0, 0))).alloc (.cells #[.int .i64 0, .int .i64 0, .int .i64 0, .slice none 0 0, .int .i64 0, .int .i64 0, .int .i64 0, .int .i64 0, .int .i64 0, .int .i64 0, .int .i64 0, .int .i64 0, .int .i64 0, .int .i64 0, .bool false, .int .i64 0] 33 (0, 0)))).heap.size = w.heap.size + 1 + 1 from hzz] at hO1
  refine hK.out _ _ ⟨blk_next hHeld.1 hw1, bel_next hHeld.2 hw1⟩ (fun hHeld1 => ?_)
  clear hK K
  try simp only [Act.put, List.getElem_toArray, List.getElem_cons_succ, List.getElem_cons_zero, List.setIfInBounds_toArray, List.set_cons_zero, List.set_cons_succ]
  have hQ1 := blk_next hQ_0 hw1
  refine wpAnyH_take (i := 30) (oi := _) (v := ?_) rfl (by kernel_rfl) (by kernel_rfl) (by kernel_rfl) (fun _ _ _ h => h) (Or.inl ⟨by rfl, ?_⟩) (by assumption) ?_
  (rotate_left); (focus (intro wv hSw; go_simp; (try with_reducible rfl)))
  try simp only [Act.put, List.getElem_toArray, List.getElem_cons_succ, List.getElem_cons_zero, List.setIfInBounds_toArray, List.set_cons_zero, List.set_cons_succ]
  obtain ⟨cQ0, cQ1, cQ2, cQ3, cQ4, cQ5, cQ6, cQ7, cQ8, cQ9, cQ10, cQ11, cQ12, cQ13, cQ14, cQ15, fQ0, fQ1, fQ2, fQ3, fQ4, fQ5, fQ6, fQ7, fQ8, fQ9, fQ10, fQ11, fQ12, fQ13, fQ14, fQ15, zQ⟩ := blk16 hQ1
  refine wpAnyH_ready (rs := [31]) (by kernel_rfl) (by simp) ?_
  refine AllReadyH.cons (o := _) rfl (fun K hK => ?_) (AllReadyH.nil)
  go_simp
  refine hK.out _ _ ⟨(blk_far (C := (w.heap.size + 1)) (i := 15) (blk_far (C := (w.heap.size + 1)) (i := 14) (blk_far (C := (w.heap.size + 1)) (i := 13) (blk_far (C := (w.heap.size + 1)) (i := 12) (blk_far (C := (w.heap.size + 1)) (i := 11) (blk_far (C := (w.heap.size + 1)) (i := 10) (blk_far (C := (w.heap.size + 1)) (i := 9) (blk_far (C := (w.heap.size + 1)) (i := 8) (blk_far (C := (w.heap.size + 1)) (i := 7) (blk_far (C := (w.heap.size + 1)) (i := 6) (blk_far (C := (w.heap.size + 1)) (i := 5) (blk_far (C := (w.heap.size + 1)) (i := 4) (blk_far (C := (w.heap.size + 1)) (i := 3) (blk_far (C := (w.heap.size + 1)) (i := 2) (blk_far (C := (w.heap.size + 1)) (i := 1) (blk_far (C := (w.heap.size + 1)) (i := 0) hHeld1.1 (by omega) (.int .i64 la)) (by omega) (.int .i64 dy)) (by omega) (.int .i64 mi)) (by omega) (.slice A2 n cp2)) (by omega) (.int .i64 e1)) (by omega) (.int .i64 n1)) (by omega) (.int .i64 fe)) (by omega) (.int .i64 fn)) (by omega) (.int .i64 fu)) (by omega) (.int .i64 ho)) (by omega) (.int .i64 ha)) (by omega) (.int .i64 ne)) (by omega) (.int .i64 lo)) (by omega) (.int .i64 hi)) (by omega) (.bool up)) (by omega) (.int .i64 st)), store16_bel (C := (w.heap.size + 1)) hHeld1.2 (by omega) (.int .i64 la) (.int .i64 dy) (.int .i64 mi) (.slice A2 n cp2) (.int .i64 e1) (.int .i64 n1) (.int .i64 fe) (.int .i64 fn) (.int .i64 fu) (.int .i64 ho) (.int .i64 ha) (.int .i64 ne) (.int .i64 lo) (.int .i64 hi) (.bool up) (.int .i64 st)⟩ (fun hHeld2 => ?_)
  clear hK K
  try simp only [Act.put, List.getElem_toArray, List.getElem_cons_succ, List.getElem_cons_zero, List.setIfInBounds_toArray, List.set_cons_zero, List.set_cons_succ]
  refine wpAnyH_done (by kernel_rfl) ?_ _
  clear cQ0 fQ0 cQ1 fQ1 cQ2 fQ2 cQ3 fQ3 cQ4 fQ4 cQ5 fQ5 cQ6 fQ6 cQ7 fQ7 cQ8 fQ8 cQ9 fQ9 cQ10 fQ10 cQ11 fQ11 cQ12 fQ12 cQ13 fQ13 cQ14 fQ14 cQ15 fQ15 zQ
  have hO2 := SOwn.mono (base' := w.heap.size) hO1 (by omega)
  have hB2 := hHeld1.2
  go_wp2_with fail
  have hQ9 := blk16_put (y0 := .int .i64 la) (y1 := .int .i64 dy) (y2 := .int .i64 mi) (y3 := .slice A2 n cp2) (y4 := .int .i64 e1) (y5 := .int .i64 n1) (y6 := .int .i64 fe) (y7 := .int .i64 fn) (y8 := .int .i64 fu) (y9 := .int .i64 ho) (y10 := .int .i64 ha) (y11 := .int .i64 ne) (y12 := .int .i64 lo) (y13 := .int .i64 hi) (y14 := .bool up) (y15 := .int .i64 st) hQ1
  have hO9 := SOwn.far16 hO2 hQ1 (by decide) (.int .i64 la) (.int .i64 dy) (.int .i64 mi) (.slice A2 n cp2) (.int .i64 e1) (.int .i64 n1) (.int .i64 fe) (.int .i64 fn) (.int .i64 fu) (.int .i64 ho) (.int .i64 ha) (.int .i64 ne) (.int .i64 lo) (.int .i64 hi) (.bool up) (.int .i64 st)
  have hB9 := store16_bel (C := (w.heap.size + 1)) hB2 (by omega) (.int .i64 la) (.int .i64 dy) (.int .i64 mi) (.slice A2 n cp2) (.int .i64 e1) (.int .i64 n1) (.int .i64 fe) (.int .i64 fn) (.int .i64 fu) (.int .i64 ho) (.int .i64 ha) (.int .i64 ne) (.int .i64 lo) (.int .i64 hi) (.bool up) (.int .i64 st)
  exact bodyPost_ret (v := .agg #[.int .i64 la, .int .i64 dy, .int .i64 mi, .slice A2 n cp2, .int .i64 e1, .int .i64 n1, .int .i64 fe, .int .i64 fn, .int .i64 fu, .int .i64 ho, .int .i64 ha, .int .i64 ne, .int .i64 lo, .int .i64 hi, .bool up, .int .i64 st]) (results_cell_row Tryz.results80 _ _ _ _ _ (0, 0) _ rfl hQ9 Tryz.underlying33 rfl (by kernel_rfl)) rfl ⟨A2, cp2, by rw [HN.out], hO9, hB9⟩
end Go.Proofs.YtbklgpghonigjaaGreat
namespace Go.Proofs.YtbklgpghonigjaaGreat
open Go Go.ChangeShapes Go.WideShapes Go.ChangeAt Go.RowKit
set_option linter.unusedSimpArgs false
set_option linter.unusedVariables false
theorem iPass_is (la dy mi e1 n1 fe fn fu ho ha ne lo hi st : Int) (up : Bool) (A : Option Addr) (n cap b : Nat) (w : World) (hP : w.heap[b]? = some (.cells #[.int .i64 la, .int .i64 dy, .int .i64 mi, .int .i64 fe, .int .i64 fn, .int .i64 fu, .int .i64 ho, .int .i64 ha, .int .i64 ne, .slice A n cap, .int .i64 e1, .int .i64 n1, .int .i64 lo, .int .i64 hi, .bool up, .int .i64 st] 77 (0, 0))) (h0 : 0 ≤ mi) (h1 : mi ≤ 1425) (d0 : 1 ≤ dy) (d1 : dy ≤ 365) :
    Calls Tryz.prog 124 #[.pointer (some ⟨b, 0, none⟩)] w (InBox w b (.cells #[.int .i64 la, .int .i64 (tkD dy mi), .int .i64 (tkM mi), .int .i64 fe, .int .i64 fn, .int .i64 fu, .int .i64 ho, .int .i64 ha, .int .i64 ne, .slice A n cap, .int .i64 e1, .int .i64 n1, .int .i64 lo, .int .i64 hi, .bool up, .int .i64 st] 77 (0, 0))) := by
  by_cases hm : mi + 15 = 1440
  · have e1' := tkM_end hm
    have e2' := tkD_endE hm d0
    rw [e1', e2']
    exact iPass_end la dy mi e1 n1 fe fn fu ho ha ne lo hi st up A n cap b w hP h0 h1 hm d0 d1
  · have e1' := (tkM_mid h0 h1 hm).1
    have e2' := tkD_mid (dy := dy) h0 h1 hm
    rw [e1', e2']
    exact iPass_mid la dy mi e1 n1 fe fn fu ho ha ne lo hi st up A n cap b w hP h0 h1 hm
theorem iLgx_is (la dy mi e1 n1 fe fn fu ho ha ne lo hi st : Int) (up : Bool) (A : Option Addr) (cap : Nat) (xs : List VBlock) {r : Int} {n : Nat} (w : World) (hn : xs.length = n) (h : SRow encBlock w A xs) (hl : n ≤ 2000000) (hs : skyB la (tiltI dy) = true) (hr : lxI la e1 n1 xs dy mi = r) : Calls Tryz.prog 46 #[.agg #[.int .i64 la, .int .i64 dy, .int .i64 mi, .int .i64 fe, .int .i64 fn, .int .i64 fu, .int .i64 ho, .int .i64 ha, .int .i64 ne, .slice A n cap, .int .i64 e1, .int .i64 n1, .int .i64 lo, .int .i64 hi, .bool up, .int .i64 st]] w fun E w' => E = .returned (.int .i64 r) ∧ Below w.heap.size w w' := by
  subst hr
  unfold lxI
  cases hL : liB e1 n1 xs (ryE la dy mi) (ryN la dy mi) (ryU la dy mi)
  · exact iLg_no la dy mi e1 n1 fe fn fu ho ha ne lo hi st up A cap xs w hn h hl hs rfl rfl rfl hL
  · exact iLg_yes la dy mi e1 n1 fe fn fu ho ha ne lo hi st up A cap xs w hn h hl hs rfl rfl rfl hL
theorem iGnx_is (la dy mi e1 n1 fe fn fu ho ha ne lo hi st : Int) (up : Bool) (A : Option Addr) (cap : Nat) (xs : List VBlock) {r : Int} {n : Nat} (w : World) (hn : xs.length = n) (h : SRow encBlock w A xs) (hl : n ≤ 2000000) (hs : skyB la (tiltI dy) = true) (hr : gxI la e1 n1 fe fn fu xs dy mi = r) : Calls Tryz.prog 54 #[.agg #[.int .i64 la, .int .i64 dy, .int .i64 mi, .int .i64 fe, .int .i64 fn, .int .i64 fu, .int .i64 ho, .int .i64 ha, .int .i64 ne, .slice A n cap, .int .i64 e1, .int .i64 n1, .int .i64 lo, .int .i64 hi, .bool up, .int .i64 st]] w fun E w' => E = .returned (.int .i64 r) ∧ Below w.heap.size w w' := by
  subst hr
  unfold gxI
  cases hL : liB e1 n1 xs (ryE la dy mi) (ryN la dy mi) (ryU la dy mi)
  · exact iGn_no la dy mi e1 n1 fe fn fu ho ha ne lo hi st up A cap xs w hn h hl hs rfl rfl rfl hL
  · exact iGn_yes la dy mi e1 n1 fe fn fu ho ha ne lo hi st up A cap xs w hn h hl hs rfl rfl rfl hL rfl rfl
theorem sky_la {la dy d : Int} (h : skyB la (tiltI dy) = true) : skyB la (tiltI d) = true := by
  have ht := tilt_bd d
  rw [skyB_iff] at h ⊢
  exact ⟨h.1, h.2.1, ht.1, ht.2⟩
set_option maxRecDepth 100000 in
set_option maxHeartbeats 4000000 in
theorem iTick_is (la dy mi e1 n1 fe fn fu ho ha ne lo hi st : Int) (up : Bool) (A : Option Addr) (cap : Nat) (xs : List VBlock) {n : Nat} {s : TkS} (b : Nat) (w0 w : World) (hn : xs.length = n) (hA0 : SRow encBlock w0 A xs) (hw0 : Below w0.heap.size w0 w) (hb0 : w0.heap.size ≤ b) (hl : n ≤ 2000000) (hP : w.heap[b]? = some (.cells #[.int .i64 la, .int .i64 dy, .int .i64 mi, .int .i64 fe, .int .i64 fn, .int .i64 fu, .int .i64 ho, .int .i64 ha, .int .i64 ne, .slice A n cap, .int .i64 e1, .int .i64 n1, .int .i64 lo, .int .i64 hi, .bool up, .int .i64 st] 77 (0, 0))) (hb : siB la dy mi e1 n1 fe fn fu ho ha ne lo hi st xs = true) (hs : tk1 la e1 n1 fe fn fu ho ne lo hi xs (dy, mi, ha, up, st) = s) :
    Calls Tryz.prog 79 #[.pointer (some ⟨b, 0, none⟩)] w (InBox w b (.cells #[.int .i64 la, .int .i64 s.1, .int .i64 s.2.1, .int .i64 fe, .int .i64 fn, .int .i64 fu, .int .i64 ho, .int .i64 s.2.2.1, .int .i64 ne, .slice A n cap, .int .i64 e1, .int .i64 n1, .int .i64 lo, .int .i64 hi, .bool s.2.2.2.1, .int .i64 s.2.2.2.2] 77 (0, 0))) := by
  have hv := siB_iff.1 hb
  have hsk := sky_la (d := tkD dy mi) (sky_of hb)
  obtain ⟨v1, v2, v3, v4, v5, v6, v7, v8, v9, v10, v11, v12⟩ := hv
  have hpb : psB st lo hi 2 = true := psB_iff.2 ⟨v12, v11, by omega⟩
  obtain ⟨g0, g1⟩ := gxI_bd la e1 n1 fe fn fu xs (tkD dy mi) (tkM mi)
  obtain ⟨d1, hd⟩ : ∃ d, tkD dy mi = d := ⟨_, rfl⟩
  obtain ⟨m1, hm⟩ : ∃ d, tkM mi = d := ⟨_, rfl⟩
  obtain ⟨g, hg⟩ : ∃ d, gxI la e1 n1 fe fn fu xs d1 m1 = d := ⟨_, rfl⟩
  obtain ⟨r, hr⟩ : ∃ d, stS ho ha (g, ne) = d := ⟨_, rfl⟩
  obtain ⟨x, hx⟩ : ∃ d, lxI la e1 n1 xs d1 m1 = d := ⟨_, rfl⟩
  obtain ⟨u, hu⟩ : ∃ d, psS up st lo hi 2 x = d := ⟨_, rfl⟩
  obtain ⟨t, ht⟩ : ∃ d, psT up st lo hi 2 x = d := ⟨_, rfl⟩
  have hs9 : s = (d1, m1, r, u, t) := by rw [← hs]; unfold tk1; dsimp only; rw [hd, hm, hg, hr, hx, hu, ht]
  subst hs9
  rw [hd, hm] at g0 g1
  rw [hg] at g0 g1
  rw [hd] at hsk
  have hu9 : pqS up st lo hi 2 x = u := by rw [← hu]; exact (pq_yes hpb).1
  have ht9 : pqT up st lo hi 2 x = t := by rw [← ht]; exact (pq_yes hpb).2
  have HPA := Lib.hid (fun w (hP : w.heap[b]? = some (.cells #[.int .i64 la, .int .i64 dy, .int .i64 mi, .int .i64 fe, .int .i64 fn, .int .i64 fu, .int .i64 ho, .int .i64 ha, .int .i64 ne, .slice A n cap, .int .i64 e1, .int .i64 n1, .int .i64 lo, .int .i64 hi, .bool up, .int .i64 st] 77 (0, 0))) => iPass_is la dy mi e1 n1 fe fn fu ho ha ne lo hi st up A n cap b w hP v3.1 v3.2 v2.1 v2.2)
  rw [hd, hm] at HPA
  have HG := Lib.hid hg
  have HX := Lib.hid hx
  have HR := Lib.hid hr
  have HU := Lib.hid hu9
  have HT := Lib.hid ht9
  have HN := Lib.hid hn
  have HS := Lib.hid hsk
  clear hs hd hm hg hx hr hu9 ht9 hu ht hn hsk hpb v1 v2 v3 v4 v5 v6 v7 v11 v12 hb
  go_enter Tryz.func79, Tryz.ntmps79
  go_wp2_with fail
  refine (HPA.out _ hP).mono ?_; rintro E w1 ⟨rfl, hP1, hK1⟩
  clear hP HPA
  go_wp2_with fail
  refine wp_region_held_drew (S := (Keeps w b)) (by kernel_rfl) (Keeps.drew (w := w) (w' := w1) (b := b) hK1) (fun hHeld => ?_)
  have hB_x := id hHeld
  have hP_x := blk_drw hP1
  clear hP1
  refine wpAnyH_take (i := 0) (oi := _) (v := ?_) rfl (by kernel_rfl) (by kernel_rfl) (by kernel_rfl) (fun _ _ _ h => h) (Or.inl ⟨by rfl, ?_⟩) (by assumption) ?_
  (rotate_left); (focus (intro wv hSw; go_simp; (try with_reducible rfl)))
  try simp only [Act.put, List.getElem_toArray, List.getElem_cons_succ, List.getElem_cons_zero, List.setIfInBounds_toArray, List.set_cons_zero, List.set_cons_succ]
  refine wpAnyH_take (i := 1) (oi := _) (v := ?_) rfl (by kernel_rfl) (by kernel_rfl) (by kernel_rfl) (fun _ _ _ h => h) (Or.inl ⟨by rfl, ?_⟩) (by assumption) ?_
  (rotate_left); (focus (intro wv hSw; go_simp; (try with_reducible rfl)))
  try simp only [Act.put, List.getElem_toArray, List.getElem_cons_succ, List.getElem_cons_zero, List.setIfInBounds_toArray, List.set_cons_zero, List.set_cons_succ]
  refine wpAnyH_take (i := 2) (oi := _) (v := ?_) rfl (by kernel_rfl) (by kernel_rfl) (by kernel_rfl) (fun _ _ _ h => h) (Or.inl ⟨by rfl, ?_⟩) (by assumption) ?_
  (rotate_left); (focus (intro wv hSw; go_simp; (try with_reducible rfl)))
  try simp only [Act.put, List.getElem_toArray, List.getElem_cons_succ, List.getElem_cons_zero, List.setIfInBounds_toArray, List.set_cons_zero, List.set_cons_succ]
  refine wpAnyH_take (i := 3) (oi := _) (v := ?_) rfl (by kernel_rfl) (by kernel_rfl) (by kernel_rfl) (fun _ _ _ h => h) (Or.inl ⟨by rfl, ?_⟩) (by assumption) ?_
  (rotate_left); (focus (intro wv hSw; go_simp; (try with_reducible rfl)))
  try simp only [Act.put, List.getElem_toArray, List.getElem_cons_succ, List.getElem_cons_zero, List.setIfInBounds_toArray, List.set_cons_zero, List.set_cons_succ]
  refine wpAnyH_take (i := 4) (oi := _) (v := ?_) rfl (by kernel_rfl) (by kernel_rfl) (by kernel_rfl) (fun _ _ _ h => h) (Or.inl ⟨by rfl, ?_⟩) (by assumption) ?_
  (rotate_left); (focus (intro wv hSw; go_simp; (try with_reducible rfl)))
  try simp only [Act.put, List.getElem_toArray, List.getElem_cons_succ, List.getElem_cons_zero, List.setIfInBounds_toArray, List.set_cons_zero, List.set_cons_succ]
  refine wpAnyH_ready (rs := [5]) (by kernel_rfl) (by simp) ?_
  refine AllReadyH.cons (o := _) rfl (fun K hK => ?_) (AllReadyH.nil)
  rw [if_pos (by kernel_rfl)]
  refine wp_load_row 77 _ rfl b rfl _ _ (0, 0) _ hP_x Tryz.underlying77 rfl (by kernel_rfl) ?_
  refine hK.out _ _ hB_x (fun hHeld => ?_)
  clear hK K
  try simp only [Act.put, List.getElem_toArray, List.getElem_cons_succ, List.getElem_cons_zero, List.setIfInBounds_toArray, List.set_cons_zero, List.set_cons_succ]
  refine wpAnyH_ready (rs := [6]) (by kernel_rfl) (by simp) ?_
  refine AllReadyH.cons (o := _) rfl (fun K hK => ?_) (AllReadyH.nil)
  go_simp
  (go_at_call 54; refine (iGnx_is la d1 m1 e1 n1 fe fn fu ho ha ne lo hi st up A cap xs _ HN.out (hA0.next (Keeps.below hB_x hb0 hw0)) hl HS.out HG.out).mono ?_; rintro e xy ⟨rfl, hw_y⟩)
  refine hK.out _ _ (hB_x.call hw_y) (fun hHeld => ?_)
  clear hK K
  try simp only [Act.put, List.getElem_toArray, List.getElem_cons_succ, List.getElem_cons_zero, List.setIfInBounds_toArray, List.set_cons_zero, List.set_cons_succ]
  have hB_y := id hHeld
  have hP_y := blk_next hP_x hw_y
  clear hP_x
  refine wpAnyH_ready (rs := [7]) (by kernel_rfl) (by simp) ?_
  refine AllReadyH.cons (o := _) rfl (fun K hK => ?_) (AllReadyH.nil)
  go_simp
  (go_at_call 125; refine (iFill_is la d1 m1 e1 n1 fe fn fu ho ha ne lo hi st up A n cap b _ hP_y v8.1 v8.2 v9.1 v9.2 g0 g1 v10.1 v10.2 HR.out).mono ?_; rintro e xz ⟨rfl, hP_z, hK_z⟩)
  refine hK.out _ _ (hB_y.trans hK_z) (fun hHeld => ?_)
  clear hK K
  try simp only [Act.put, List.getElem_toArray, List.getElem_cons_succ, List.getElem_cons_zero, List.setIfInBounds_toArray, List.set_cons_zero, List.set_cons_succ]
  have hB_z := id hHeld
  clear hP_y
  refine wpAnyH_done (by kernel_rfl) ?_ _
  clear hB_x hB_y
  have hP_0 := blk_drw hP_z
  obtain ⟨cO0, cO1, cO2, cO3, cO4, cO5, cO6, cO7, cO8, cO9, cO10, cO11, cO12, cO13, cO14, cO15, fO0, fO1, fO2, fO3, fO4, fO5, fO6, fO7, fO8, fO9, fO10, fO11, fO12, fO13, fO14, fO15, zO⟩ := blk16 hP_0
  go_wp2_with fail
  refine wp_region_held_drew (S := (fun w' => w'.cell? ⟨b, 12, none⟩ = some (.int .i64 lo) ∧ w'.cell? ⟨b, 13, none⟩ = some (.int .i64 hi) ∧ Keeps w b w')) (by kernel_rfl) ⟨cO12, cO13, hB_z.drew⟩ (fun hHeld => ?_)
  clear cO0 fO0 cO1 fO1 cO2 fO2 cO3 fO3 cO4 fO4 cO5 fO5 cO6 fO6 cO7 fO7 cO8 fO8 cO9 fO9 cO10 fO10 cO11 fO11 cO12 fO12 cO13 fO13 cO14 fO14 cO15 fO15 zO
  have hB_0 := hHeld.2.2
  refine wpAnyH_take (i := 0) (oi := _) (v := ?_) rfl (by kernel_rfl) (by kernel_rfl) (by kernel_rfl) (fun _ _ _ h => h) (Or.inl ⟨by rfl, ?_⟩) (by assumption) ?_
  (rotate_left); (focus (intro wv hSw; go_simp; (try with_reducible rfl)))
  try simp only [Act.put, List.getElem_toArray, List.getElem_cons_succ, List.getElem_cons_zero, List.setIfInBounds_toArray, List.set_cons_zero, List.set_cons_succ]
  refine wpAnyH_take (i := 1) (oi := _) (v := ?_) rfl (by kernel_rfl) (by kernel_rfl) (by kernel_rfl) (fun _ _ _ h => h) (Or.inl ⟨by rfl, ?_⟩) (by assumption) ?_
  (rotate_left); (focus (intro wv hSw; go_simp; (try with_reducible rfl)))
  try simp only [Act.put, List.getElem_toArray, List.getElem_cons_succ, List.getElem_cons_zero, List.setIfInBounds_toArray, List.set_cons_zero, List.set_cons_succ]
  refine wpAnyH_take (i := 2) (oi := _) (v := ?_) rfl (by kernel_rfl) (by kernel_rfl) (by kernel_rfl) (fun _ _ _ h => h) (Or.inl ⟨by rfl, ?_⟩) (by assumption) ?_
  (rotate_left); (focus (intro wv hSw; go_simp; (try with_reducible rfl)))
  try simp only [Act.put, List.getElem_toArray, List.getElem_cons_succ, List.getElem_cons_zero, List.setIfInBounds_toArray, List.set_cons_zero, List.set_cons_succ]
  refine wpAnyH_take (i := 3) (oi := _) (v := ?_) rfl (by kernel_rfl) (by kernel_rfl) (by kernel_rfl) (fun _ _ _ h => h) (Or.inl ⟨by rfl, ?_⟩) (by assumption) ?_
  (rotate_left); (focus (intro wv hSw; go_simp; (try with_reducible rfl)))
  try simp only [Act.put, List.getElem_toArray, List.getElem_cons_succ, List.getElem_cons_zero, List.setIfInBounds_toArray, List.set_cons_zero, List.set_cons_succ]
  refine wpAnyH_take (i := 5) (oi := _) (v := ?_) rfl (by kernel_rfl) (by kernel_rfl) (by kernel_rfl) (fun _ _ _ h => h) (Or.inl ⟨by rfl, ?_⟩) (by assumption) ?_
  (rotate_left); (focus (intro wv hSw; go_simp; (try with_reducible rfl)))
  try simp only [Act.put, List.getElem_toArray, List.getElem_cons_succ, List.getElem_cons_zero, List.setIfInBounds_toArray, List.set_cons_zero, List.set_cons_succ]
  refine wpAnyH_take (i := 6) (oi := _) (v := ?_) rfl (by kernel_rfl) (by kernel_rfl) (by kernel_rfl) (fun _ _ _ h => h) (Or.inl ⟨by rfl, ?_⟩) (by assumption) ?_
  (rotate_left); (focus (intro wv hSw; go_simp; (try with_reducible rfl)))
  try simp only [Act.put, List.getElem_toArray, List.getElem_cons_succ, List.getElem_cons_zero, List.setIfInBounds_toArray, List.set_cons_zero, List.set_cons_succ]
  refine wpAnyH_take (i := 7) (oi := _) (v := ?_) rfl (by kernel_rfl) (by kernel_rfl) (by kernel_rfl) (fun _ _ _ h => h) (Or.inl ⟨by rfl, ?_⟩) (by assumption) ?_
  (rotate_left); (focus (intro wv hSw; go_simp; (try with_reducible rfl)))
  try simp only [Act.put, List.getElem_toArray, List.getElem_cons_succ, List.getElem_cons_zero, List.setIfInBounds_toArray, List.set_cons_zero, List.set_cons_succ]
  refine wpAnyH_take (i := 8) (oi := _) (v := ?_) rfl (by kernel_rfl) (by kernel_rfl) (by kernel_rfl) (fun _ _ _ h => h) (Or.inl ⟨by rfl, ?_⟩) (by assumption) ?_
  (rotate_left); (focus (intro wv hSw; obtain ⟨q12, q13, _⟩ := id hSw; go_simp; (try with_reducible rfl)))
  try simp only [Act.put, List.getElem_toArray, List.getElem_cons_succ, List.getElem_cons_zero, List.setIfInBounds_toArray, List.set_cons_zero, List.set_cons_succ]
  refine wpAnyH_take (i := 9) (oi := _) (v := ?_) rfl (by kernel_rfl) (by kernel_rfl) (by kernel_rfl) (fun _ _ _ h => h) (Or.inl ⟨by rfl, ?_⟩) (by assumption) ?_
  (rotate_left); (focus (intro wv hSw; go_simp; (try with_reducible rfl)))
  try simp only [Act.put, List.getElem_toArray, List.getElem_cons_succ, List.getElem_cons_zero, List.setIfInBounds_toArray, List.set_cons_zero, List.set_cons_succ]
  refine wpAnyH_take (i := 10) (oi := _) (v := ?_) rfl (by kernel_rfl) (by kernel_rfl) (by kernel_rfl) (fun _ _ _ h => h) (Or.inl ⟨by rfl, ?_⟩) (by assumption) ?_
  (rotate_left); (focus (intro wv hSw; go_simp; (try with_reducible rfl)))
  try simp only [Act.put, List.getElem_toArray, List.getElem_cons_succ, List.getElem_cons_zero, List.setIfInBounds_toArray, List.set_cons_zero, List.set_cons_succ]
  refine wpAnyH_ready (rs := [4, 11]) (by kernel_rfl) (by simp) ?_
  refine AllReadyH.cons (o := _) rfl (fun K hK => ?_) (AllReadyH.cons (o := _) rfl (fun K hK => ?_) (AllReadyH.nil))
  · obtain ⟨cX0, cX1, cX2, cX3, cX4, cX5, cX6, cX7, cX8, cX9, cX10, cX11, cX12, cX13, cX14, cX15, fX0, fX1, fX2, fX3, fX4, fX5, fX6, fX7, fX8, fX9, fX10, fX11, fX12, fX13, fX14, fX15, zX⟩ := blk16 hP_0
    go_simp
    refine hK.out _ _ (id hHeld) (fun hHeld => ?_)
    clear hK K
    try simp only [Act.put, List.getElem_toArray, List.getElem_cons_succ, List.getElem_cons_zero, List.setIfInBounds_toArray, List.set_cons_zero, List.set_cons_succ]
    clear cX0 fX0 cX1 fX1 cX2 fX2 cX3 fX3 cX4 fX4 cX5 fX5 cX6 fX6 cX7 fX7 cX8 fX8 cX9 fX9 cX10 fX10 cX11 fX11 cX12 fX12 cX13 fX13 cX14 fX14 cX15 fX15 zX
    have hB_0a := hB_0
    have hP_0a := hP_0
    refine wpAnyH_ready (rs := [11]) (by kernel_rfl) (by simp) ?_
    refine AllReadyH.cons (o := _) rfl (fun K hK => ?_) (AllReadyH.nil)
    rw [if_pos (by kernel_rfl)]
    refine wp_load_row 77 _ rfl b rfl _ _ (0, 0) _ hP_0a Tryz.underlying77 rfl (by kernel_rfl) ?_
    refine hK.out _ _ (id hHeld) (fun hHeld => ?_)
    clear hK K
    try simp only [Act.put, List.getElem_toArray, List.getElem_cons_succ, List.getElem_cons_zero, List.setIfInBounds_toArray, List.set_cons_zero, List.set_cons_succ]
    have hB_0ab := hB_0a
    have hP_0ab := hP_0a
    refine wpAnyH_ready (rs := [12]) (by kernel_rfl) (by simp) ?_
    refine AllReadyH.cons (o := _) rfl (fun K hK => ?_) (AllReadyH.nil)
    go_simp
    (go_at_call 46; refine (iLgx_is la d1 m1 e1 n1 fe fn fu ho r ne lo hi st up A cap xs _ HN.out (hA0.next (Keeps.below hB_0ab hb0 hw0)) hl HS.out HX.out).mono ?_; rintro e x0abc ⟨rfl, hw_0abc⟩)
    refine hK.out _ _ (by have hq := blk_next hP_0ab hw_0abc; obtain ⟨u0, u1, u2, u3, u4, u5, u6, u7, u8, u9, u10, u11, u12, u13, u14, u15, _⟩ := blk16 hq; exact ⟨u12, u13, hB_0ab.call hw_0abc⟩) (fun hHeld => ?_)
    clear hK K
    try simp only [Act.put, List.getElem_toArray, List.getElem_cons_succ, List.getElem_cons_zero, List.setIfInBounds_toArray, List.set_cons_zero, List.set_cons_succ]
    have hB_0abc := hHeld.2.2
    have hP_0abc := blk_next hP_0ab hw_0abc
    refine wpAnyH_ready (rs := [13]) (by kernel_rfl) (by simp) ?_
    refine AllReadyH.cons (o := _) rfl (fun K hK => ?_) (AllReadyH.nil)
    go_simp
    (go_at_call 29; refine (iPs_is _ HU.out HT.out).mono ?_; rintro e x0abcp ⟨rfl, hw_0abcp⟩)
    refine hK.out _ _ (by have hq := blk_next hP_0abc hw_0abcp; obtain ⟨u0, u1, u2, u3, u4, u5, u6, u7, u8, u9, u10, u11, u12, u13, u14, u15, _⟩ := blk16 hq; exact ⟨u12, u13, hB_0abc.call hw_0abcp⟩) (fun hHeld => ?_)
    clear hK K
    try simp only [Act.put, List.getElem_toArray, List.getElem_cons_succ, List.getElem_cons_zero, List.setIfInBounds_toArray, List.set_cons_zero, List.set_cons_succ]
    have hB_0abcp := hHeld.2.2
    have hP_0abcp := blk_next hP_0abc hw_0abcp
    refine wpAnyH_take (i := 14) (oi := _) (v := ?_) rfl (by kernel_rfl) (by kernel_rfl) (by kernel_rfl) (fun _ _ _ h => h) (Or.inl ⟨by rfl, ?_⟩) (by assumption) ?_
    (rotate_left); (focus (intro wv hSw; go_simp; (try with_reducible rfl)))
    try simp only [Act.put, List.getElem_toArray, List.getElem_cons_succ, List.getElem_cons_zero, List.setIfInBounds_toArray, List.set_cons_zero, List.set_cons_succ]
    refine wpAnyH_take (i := 15) (oi := _) (v := ?_) rfl (by kernel_rfl) (by kernel_rfl) (by kernel_rfl) (fun _ _ _ h => h) (Or.inl ⟨by rfl, ?_⟩) (by assumption) ?_
    (rotate_left); (focus (intro wv hSw; go_simp; (try with_reducible rfl)))
    try simp only [Act.put, List.getElem_toArray, List.getElem_cons_succ, List.getElem_cons_zero, List.setIfInBounds_toArray, List.set_cons_zero, List.set_cons_succ]
    obtain ⟨cY0, cY1, cY2, cY3, cY4, cY5, cY6, cY7, cY8, cY9, cY10, cY11, cY12, cY13, cY14, cY15, fY0, fY1, fY2, fY3, fY4, fY5, fY6, fY7, fY8, fY9, fY10, fY11, fY12, fY13, fY14, fY15, zY⟩ := blk16 hP_0abcp
    have hQ := blk16_at15 (v := .int .i64 t) (blk16_at14 (v := .bool u) hP_0abcp)
    refine wpAnyH_ready (rs := [16]) (by kernel_rfl) (by simp) ?_
    refine AllReadyH.cons (o := _) rfl (fun K hK => ?_) (AllReadyH.nil)
    go_simp
    refine hK.out _ _ (by obtain ⟨u0, u1, u2, u3, u4, u5, u6, u7, u8, u9, u10, u11, u12, u13, u14, u15, _⟩ := blk16 hQ; exact ⟨u12, u13, (hB_0abcp.cell 14 _).cell 15 _⟩) (fun hHeld => ?_)
    clear hK K
    try simp only [Act.put, List.getElem_toArray, List.getElem_cons_succ, List.getElem_cons_zero, List.setIfInBounds_toArray, List.set_cons_zero, List.set_cons_succ]
    have hKQ := hHeld.2.2
    refine wpAnyH_done (by kernel_rfl) ?_ _
    go_wp2
    go_end0
    exact ⟨rfl, hQ, hKQ⟩
  · rw [if_pos (by kernel_rfl)]
    refine wp_load_row 77 _ rfl b rfl _ _ (0, 0) _ hP_0 Tryz.underlying77 rfl (by kernel_rfl) ?_
    refine hK.out _ _ (id hHeld) (fun hHeld => ?_)
    clear hK K
    try simp only [Act.put, List.getElem_toArray, List.getElem_cons_succ, List.getElem_cons_zero, List.setIfInBounds_toArray, List.set_cons_zero, List.set_cons_succ]
    have hB_0b := hB_0
    have hP_0b := hP_0
    refine wpAnyH_ready (rs := [4, 12]) (by kernel_rfl) (by simp) ?_
    refine AllReadyH.cons (o := _) rfl (fun K hK => ?_) (AllReadyH.cons (o := _) rfl (fun K hK => ?_) (AllReadyH.nil))
    · obtain ⟨cX0, cX1, cX2, cX3, cX4, cX5, cX6, cX7, cX8, cX9, cX10, cX11, cX12, cX13, cX14, cX15, fX0, fX1, fX2, fX3, fX4, fX5, fX6, fX7, fX8, fX9, fX10, fX11, fX12, fX13, fX14, fX15, zX⟩ := blk16 hP_0b
      go_simp
      refine hK.out _ _ (id hHeld) (fun hHeld => ?_)
      clear hK K
      try simp only [Act.put, List.getElem_toArray, List.getElem_cons_succ, List.getElem_cons_zero, List.setIfInBounds_toArray, List.set_cons_zero, List.set_cons_succ]
      clear cX0 fX0 cX1 fX1 cX2 fX2 cX3 fX3 cX4 fX4 cX5 fX5 cX6 fX6 cX7 fX7 cX8 fX8 cX9 fX9 cX10 fX10 cX11 fX11 cX12 fX12 cX13 fX13 cX14 fX14 cX15 fX15 zX
      have hB_0ba := hB_0b
      have hP_0ba := hP_0b
      refine wpAnyH_ready (rs := [12]) (by kernel_rfl) (by simp) ?_
      refine AllReadyH.cons (o := _) rfl (fun K hK => ?_) (AllReadyH.nil)
      go_simp
      (go_at_call 46; refine (iLgx_is la d1 m1 e1 n1 fe fn fu ho r ne lo hi st up A cap xs _ HN.out (hA0.next (Keeps.below hB_0ba hb0 hw0)) hl HS.out HX.out).mono ?_; rintro e x0bac ⟨rfl, hw_0bac⟩)
      refine hK.out _ _ (by have hq := blk_next hP_0ba hw_0bac; obtain ⟨u0, u1, u2, u3, u4, u5, u6, u7, u8, u9, u10, u11, u12, u13, u14, u15, _⟩ := blk16 hq; exact ⟨u12, u13, hB_0ba.call hw_0bac⟩) (fun hHeld => ?_)
      clear hK K
      try simp only [Act.put, List.getElem_toArray, List.getElem_cons_succ, List.getElem_cons_zero, List.setIfInBounds_toArray, List.set_cons_zero, List.set_cons_succ]
      have hB_0bac := hHeld.2.2
      have hP_0bac := blk_next hP_0ba hw_0bac
      refine wpAnyH_ready (rs := [13]) (by kernel_rfl) (by simp) ?_
      refine AllReadyH.cons (o := _) rfl (fun K hK => ?_) (AllReadyH.nil)
      go_simp
      (go_at_call 29; refine (iPs_is _ HU.out HT.out).mono ?_; rintro e x0bacp ⟨rfl, hw_0bacp⟩)
      refine hK.out _ _ (by have hq := blk_next hP_0bac hw_0bacp; obtain ⟨u0, u1, u2, u3, u4, u5, u6, u7, u8, u9, u10, u11, u12, u13, u14, u15, _⟩ := blk16 hq; exact ⟨u12, u13, hB_0bac.call hw_0bacp⟩) (fun hHeld => ?_)
      clear hK K
      try simp only [Act.put, List.getElem_toArray, List.getElem_cons_succ, List.getElem_cons_zero, List.setIfInBounds_toArray, List.set_cons_zero, List.set_cons_succ]
      have hB_0bacp := hHeld.2.2
      have hP_0bacp := blk_next hP_0bac hw_0bacp
      refine wpAnyH_take (i := 14) (oi := _) (v := ?_) rfl (by kernel_rfl) (by kernel_rfl) (by kernel_rfl) (fun _ _ _ h => h) (Or.inl ⟨by rfl, ?_⟩) (by assumption) ?_
      (rotate_left); (focus (intro wv hSw; go_simp; (try with_reducible rfl)))
      try simp only [Act.put, List.getElem_toArray, List.getElem_cons_succ, List.getElem_cons_zero, List.setIfInBounds_toArray, List.set_cons_zero, List.set_cons_succ]
      refine wpAnyH_take (i := 15) (oi := _) (v := ?_) rfl (by kernel_rfl) (by kernel_rfl) (by kernel_rfl) (fun _ _ _ h => h) (Or.inl ⟨by rfl, ?_⟩) (by assumption) ?_
      (rotate_left); (focus (intro wv hSw; go_simp; (try with_reducible rfl)))
      try simp only [Act.put, List.getElem_toArray, List.getElem_cons_succ, List.getElem_cons_zero, List.setIfInBounds_toArray, List.set_cons_zero, List.set_cons_succ]
      obtain ⟨cY0, cY1, cY2, cY3, cY4, cY5, cY6, cY7, cY8, cY9, cY10, cY11, cY12, cY13, cY14, cY15, fY0, fY1, fY2, fY3, fY4, fY5, fY6, fY7, fY8, fY9, fY10, fY11, fY12, fY13, fY14, fY15, zY⟩ := blk16 hP_0bacp
      have hQ := blk16_at15 (v := .int .i64 t) (blk16_at14 (v := .bool u) hP_0bacp)
      refine wpAnyH_ready (rs := [16]) (by kernel_rfl) (by simp) ?_
      refine AllReadyH.cons (o := _) rfl (fun K hK => ?_) (AllReadyH.nil)
      go_simp
      refine hK.out _ _ (by obtain ⟨u0, u1, u2, u3, u4, u5, u6, u7, u8, u9, u10, u11, u12, u13, u14, u15, _⟩ := blk16 hQ; exact ⟨u12, u13, (hB_0bacp.cell 14 _).cell 15 _⟩) (fun hHeld => ?_)
      clear hK K
      try simp only [Act.put, List.getElem_toArray, List.getElem_cons_succ, List.getElem_cons_zero, List.setIfInBounds_toArray, List.set_cons_zero, List.set_cons_succ]
      have hKQ := hHeld.2.2
      refine wpAnyH_done (by kernel_rfl) ?_ _
      go_wp2
      go_end0
      exact ⟨rfl, hQ, hKQ⟩
    · go_simp
      (go_at_call 46; refine (iLgx_is la d1 m1 e1 n1 fe fn fu ho r ne lo hi st up A cap xs _ HN.out (hA0.next (Keeps.below hB_0b hb0 hw0)) hl HS.out HX.out).mono ?_; rintro e x0bc ⟨rfl, hw_0bc⟩)
      refine hK.out _ _ (by have hq := blk_next hP_0b hw_0bc; obtain ⟨u0, u1, u2, u3, u4, u5, u6, u7, u8, u9, u10, u11, u12, u13, u14, u15, _⟩ := blk16 hq; exact ⟨u12, u13, hB_0b.call hw_0bc⟩) (fun hHeld => ?_)
      clear hK K
      try simp only [Act.put, List.getElem_toArray, List.getElem_cons_succ, List.getElem_cons_zero, List.setIfInBounds_toArray, List.set_cons_zero, List.set_cons_succ]
      have hB_0bc := hHeld.2.2
      have hP_0bc := blk_next hP_0b hw_0bc
      refine wpAnyH_ready (rs := [4]) (by kernel_rfl) (by simp) ?_
      refine AllReadyH.cons (o := _) rfl (fun K hK => ?_) (AllReadyH.nil)
      obtain ⟨cX0, cX1, cX2, cX3, cX4, cX5, cX6, cX7, cX8, cX9, cX10, cX11, cX12, cX13, cX14, cX15, fX0, fX1, fX2, fX3, fX4, fX5, fX6, fX7, fX8, fX9, fX10, fX11, fX12, fX13, fX14, fX15, zX⟩ := blk16 hP_0bc
      go_simp
      refine hK.out _ _ (id hHeld) (fun hHeld => ?_)
      clear hK K
      try simp only [Act.put, List.getElem_toArray, List.getElem_cons_succ, List.getElem_cons_zero, List.setIfInBounds_toArray, List.set_cons_zero, List.set_cons_succ]
      clear cX0 fX0 cX1 fX1 cX2 fX2 cX3 fX3 cX4 fX4 cX5 fX5 cX6 fX6 cX7 fX7 cX8 fX8 cX9 fX9 cX10 fX10 cX11 fX11 cX12 fX12 cX13 fX13 cX14 fX14 cX15 fX15 zX
      have hB_0bca := hB_0bc
      have hP_0bca := hP_0bc
      refine wpAnyH_ready (rs := [13]) (by kernel_rfl) (by simp) ?_
      refine AllReadyH.cons (o := _) rfl (fun K hK => ?_) (AllReadyH.nil)
      go_simp
      (go_at_call 29; refine (iPs_is _ HU.out HT.out).mono ?_; rintro e x0bcap ⟨rfl, hw_0bcap⟩)
      refine hK.out _ _ (by have hq := blk_next hP_0bca hw_0bcap; obtain ⟨u0, u1, u2, u3, u4, u5, u6, u7, u8, u9, u10, u11, u12, u13, u14, u15, _⟩ := blk16 hq; exact ⟨u12, u13, hB_0bca.call hw_0bcap⟩) (fun hHeld => ?_)
      clear hK K
      try simp only [Act.put, List.getElem_toArray, List.getElem_cons_succ, List.getElem_cons_zero, List.setIfInBounds_toArray, List.set_cons_zero, List.set_cons_succ]
      have hB_0bcap := hHeld.2.2
      have hP_0bcap := blk_next hP_0bca hw_0bcap
      refine wpAnyH_take (i := 14) (oi := _) (v := ?_) rfl (by kernel_rfl) (by kernel_rfl) (by kernel_rfl) (fun _ _ _ h => h) (Or.inl ⟨by rfl, ?_⟩) (by assumption) ?_
      (rotate_left); (focus (intro wv hSw; go_simp; (try with_reducible rfl)))
      try simp only [Act.put, List.getElem_toArray, List.getElem_cons_succ, List.getElem_cons_zero, List.setIfInBounds_toArray, List.set_cons_zero, List.set_cons_succ]
      refine wpAnyH_take (i := 15) (oi := _) (v := ?_) rfl (by kernel_rfl) (by kernel_rfl) (by kernel_rfl) (fun _ _ _ h => h) (Or.inl ⟨by rfl, ?_⟩) (by assumption) ?_
      (rotate_left); (focus (intro wv hSw; go_simp; (try with_reducible rfl)))
      try simp only [Act.put, List.getElem_toArray, List.getElem_cons_succ, List.getElem_cons_zero, List.setIfInBounds_toArray, List.set_cons_zero, List.set_cons_succ]
      obtain ⟨cY0, cY1, cY2, cY3, cY4, cY5, cY6, cY7, cY8, cY9, cY10, cY11, cY12, cY13, cY14, cY15, fY0, fY1, fY2, fY3, fY4, fY5, fY6, fY7, fY8, fY9, fY10, fY11, fY12, fY13, fY14, fY15, zY⟩ := blk16 hP_0bcap
      have hQ := blk16_at15 (v := .int .i64 t) (blk16_at14 (v := .bool u) hP_0bcap)
      refine wpAnyH_ready (rs := [16]) (by kernel_rfl) (by simp) ?_
      refine AllReadyH.cons (o := _) rfl (fun K hK => ?_) (AllReadyH.nil)
      go_simp
      refine hK.out _ _ (by obtain ⟨u0, u1, u2, u3, u4, u5, u6, u7, u8, u9, u10, u11, u12, u13, u14, u15, _⟩ := blk16 hQ; exact ⟨u12, u13, (hB_0bcap.cell 14 _).cell 15 _⟩) (fun hHeld => ?_)
      clear hK K
      try simp only [Act.put, List.getElem_toArray, List.getElem_cons_succ, List.getElem_cons_zero, List.setIfInBounds_toArray, List.set_cons_zero, List.set_cons_succ]
      have hKQ := hHeld.2.2
      refine wpAnyH_done (by kernel_rfl) ?_ _
      go_wp2
      go_end0
      exact ⟨rfl, hQ, hKQ⟩
end Go.Proofs.YtbklgpghonigjaaGreat
namespace Go.Proofs.YtbklgpghonigjaaGreat
open Go Go.ChangeShapes Go.WideShapes Go.ChangeAt Go.RowKit
set_option linter.unusedSimpArgs false
set_option linter.unusedVariables false
/-- A site's numbers and blocks. -/
abbrev VSite := Int × Int × Int × Int × Int × Int × Int × Int × Int × Int × Int × Int × Int × Int × Bool × List VBlock
def siZ : VSite := (0, 0, 0, 0, 0, 0, 0, 0, 0, 0, 0, 0, 0, 0, false, [])
/-- A site behind some quarters of an hour. -/
def siT (la dy mi e1 n1 fe fn fu ho ha ne lo hi st : Int) (up : Bool) (xs : List VBlock) (many : Int) : VSite :=
  if siB la dy mi e1 n1 fe fn fu ho ha ne lo hi st xs && inV many 0 96 then
    let s := tkN la e1 n1 fe fn fu ho ne lo hi xs many.toNat (dy, mi, ha, up, st)
    (la, s.1, s.2.1, e1, n1, fe, fn, fu, ho, s.2.2.1, ne, lo, hi, s.2.2.2.2, s.2.2.2.1, xs)
  else siZ
theorem siT_no {la dy mi e1 n1 fe fn fu ho ha ne lo hi st : Int} {up : Bool} {xs : List VBlock} {many : Int} (h : siB la dy mi e1 n1 fe fn fu ho ha ne lo hi st xs = false ∨ inV many 0 96 = false) : siT la dy mi e1 n1 fe fn fu ho ha ne lo hi st up xs many = siZ := by
  unfold siT
  rcases h with h | h <;> rw [h] <;> simp
theorem siT_yes {la dy mi e1 n1 fe fn fu ho ha ne lo hi st d m a t : Int} {up u : Bool} {xs : List VBlock} {M : Nat} (h : siB la dy mi e1 n1 fe fn fu ho ha ne lo hi st xs = true) (hM : M ≤ 96) (hs : tkN la e1 n1 fe fn fu ho ne lo hi xs M (dy, mi, ha, up, st) = (d, m, a, u, t)) : siT la dy mi e1 n1 fe fn fu ho ha ne lo hi st up xs M = (la, d, m, e1, n1, fe, fn, fu, ho, a, ne, lo, hi, t, u, xs) := by
  have h2 : inV (M : Int) 0 96 = true := by simp only [inV, decide_eq_true_eq]; omega
  unfold siT
  rw [h, h2]
  simp only [Bool.and_self, if_true, Int.toNat_natCast, hs]
set_option maxHeartbeats 4000000 in
theorem iQv_is {m : Int} {r : Bool} (w : World) (hr : inV m 0 96 = r) : Calls Tryz.prog 78 #[.int .i64 m] w fun E w' => E = .returned (.bool r) ∧ w = w' := by
  subst hr
  go_enter Tryz.func78, Tryz.ntmps78
  go_wp2_with (go_at_call 99; refine (iIn7 _ _ _ _).mono ?_; rintro E w' ⟨rfl, rfl⟩)
  go_ret
  exact ⟨rfl, rfl⟩
set_option maxRecDepth 100000 in
set_option maxHeartbeats 4000000 in
theorem iSTs_bad1 (la dy mi e1 n1 fe fn fu ho ha ne lo hi st : Int) (up : Bool) (A : Option Addr) (cap : Nat) (xs : List VBlock) {many : Int} {n : Nat} (w : World) (hn : xs.length = n) (h : SRow encBlock w A xs) (hl : n ≤ 2000000) (hb : siB la dy mi e1 n1 fe fn fu ho ha ne lo hi st xs = false) :
    Calls Tryz.prog 31 #[.agg #[.int .i64 la, .int .i64 dy, .int .i64 mi, .slice A n cap, .int .i64 e1, .int .i64 n1, .int .i64 fe, .int .i64 fn, .int .i64 fu, .int .i64 ho, .int .i64 ha, .int .i64 ne, .int .i64 lo, .int .i64 hi, .bool up, .int .i64 st], .int .i64 many] w (CopyB 0 0 0 0 0 0 0 0 0 0 0 0 0 0 false [] w) := by
  have HB := Lib.hid hb
  clear hb
  have HN := Lib.hid hn
  have h0 := h
  clear hn h
  have hP0 := blk_old (blk_new w (.cells #[.int .i64 la, .int .i64 dy, .int .i64 mi, .slice A n cap, .int .i64 e1, .int .i64 n1, .int .i64 fe, .int .i64 fn, .int .i64 fu, .int .i64 ho, .int .i64 ha, .int .i64 ne, .int .i64 lo, .int .i64 hi, .bool up, .int .i64 st] 33 (0, 0))) (.cells #[.int .i64 0, .int .i64 0, .int .i64 0, .slice none 0 0, .int .i64 0, .int .i64 0, .int .i64 0, .int .i64 0, .int .i64 0, .int .i64 0, .int .i64 0, .int .i64 0, .int .i64 0, .int .i64 0, .bool false, .int .i64 0] 33 (0, 0))
  have hQ0 := blk_new (w.alloc (.cells #[.int .i64 la, .int .i64 dy, .int .i64 mi, .slice A n cap, .int .i64 e1, .int .i64 n1, .int .i64 fe, .int .i64 fn, .int .i64 fu, .int .i64 ho, .int .i64 ha, .int .i64 ne, .int .i64 lo, .int .i64 hi, .bool up, .int .i64 st] 33 (0, 0))) (.cells #[.int .i64 0, .int .i64 0, .int .i64 0, .slice none 0 0, .int .i64 0, .int .i64 0, .int .i64 0, .int .i64 0, .int .i64 0, .int .i64 0, .int .i64 0, .int .i64 0, .int .i64 0, .int .i64 0, .bool false, .int .i64 0] 33 (0, 0))
  have hsz : (w.alloc (.cells #[.int .i64 la, .int .i64 dy, .int .i64 mi, .slice A n cap, .int .i64 e1, .int .i64 n1, .int .i64 fe, .int .i64 fn, .int .i64 fu, .int .i64 ho, .int .i64 ha, .int .i64 ne, .int .i64 lo, .int .i64 hi, .bool up, .int .i64 st] 33 (0, 0))).heap.size = w.heap.size + 1 := by simp
  rw [hsz] at hQ0
  have hB0 := bel2 w (.cells #[.int .i64 la, .int .i64 dy, .int .i64 mi, .slice A n cap, .int .i64 e1, .int .i64 n1, .int .i64 fe, .int .i64 fn, .int .i64 fu, .int .i64 ho, .int .i64 ha, .int .i64 ne, .int .i64 lo, .int .i64 hi, .bool up, .int .i64 st] 33 (0, 0)) (.cells #[.int .i64 0, .int .i64 0, .int .i64 0, .slice none 0 0, .int .i64 0, .int .i64 0, .int .i64 0, .int .i64 0, .int .i64 0, .int .i64 0, .int .i64 0, .int .i64 0, .int .i64 0, .int .i64 0, .bool false, .int .i64 0] 33 (0, 0))
  have hA0 := h0.next hB0
  have hzz : ((w.alloc (.cells #[.int .i64 la, .int .i64 dy, .int .i64 mi, .slice A n cap, .int .i64 e1, .int .i64 n1, .int .i64 fe, .int .i64 fn, .int .i64 fu, .int .i64 ho, .int .i64 ha, .int .i64 ne, .int .i64 lo, .int .i64 hi, .bool up, .int .i64 st] 33 (0, 0))).alloc (.cells #[.int .i64 0, .int .i64 0, .int .i64 0, .slice none 0 0, .int .i64 0, .int .i64 0, .int .i64 0, .int .i64 0, .int .i64 0, .int .i64 0, .int .i64 0, .int .i64 0, .int .i64 0, .int .i64 0, .bool false, .int .i64 0] 33 (0, 0))).heap.size = w.heap.size + 1 + 1 := by simp
  generalize hwa : (w.alloc (.cells #[.int .i64 la, .int .i64 dy, .int .i64 mi, .slice A n cap, .int .i64 e1, .int .i64 n1, .int .i64 fe, .int .i64 fn, .int .i64 fu, .int .i64 ho, .int .i64 ha, .int .i64 ne, .int .i64 lo, .int .i64 hi, .bool up, .int .i64 st] 33 (0, 0))).alloc (.cells #[.int .i64 0, .int .i64 0, .int .i64 0, .slice none 0 0, .int .i64 0, .int .i64 0, .int .i64 0, .int .i64 0, .int .i64 0, .int .i64 0, .int .i64 0, .int .i64 0, .int .i64 0, .int .i64 0, .bool false, .int .i64 0] 33 (0, 0)) = wa at hP0 hQ0 hzz hB0 hA0
  go_enter Tryz.func31, Tryz.ntmps31
  go_wp2_with (refine wpList_load_row rfl 33 _ rfl _ rfl _ _ (0, 0) _ hP0 Tryz.underlying33 rfl (by kernel_rfl) ?_)
  refine (iSV_is la dy mi e1 n1 fe fn fu ho ha ne lo hi st up A cap xs _ HN.out hA0 hl HB.out).mono ?_; rintro E w1 ⟨rfl, hw1⟩
  have hP1 := blk_next hP0 hw1
  have hQ1 := blk_next hQ0 hw1
  have hB1 := bel_next hB0 hw1
  have hA1 := h0.next hB1
  clear hP0 hQ0 hA0
  obtain ⟨cQ0, cQ1, cQ2, cQ3, cQ4, cQ5, cQ6, cQ7, cQ8, cQ9, cQ10, cQ11, cQ12, cQ13, cQ14, cQ15, fQ0, fQ1, fQ2, fQ3, fQ4, fQ5, fQ6, fQ7, fQ8, fQ9, fQ10, fQ11, fQ12, fQ13, fQ14, fQ15, zQ⟩ := blk16 hQ1
  go_wp2_with fail
  have hO1 : SOwn encBlock w1 w.heap.size 40 none 0 [] := SOwn.nil _ _ _
  have hQ9 := blk16_put (y0 := .int .i64 0) (y1 := .int .i64 0) (y2 := .int .i64 0) (y3 := .slice none 0 0) (y4 := .int .i64 0) (y5 := .int .i64 0) (y6 := .int .i64 0) (y7 := .int .i64 0) (y8 := .int .i64 0) (y9 := .int .i64 0) (y10 := .int .i64 0) (y11 := .int .i64 0) (y12 := .int .i64 0) (y13 := .int .i64 0) (y14 := .bool false) (y15 := .int .i64 0) hQ1
  have hO9 := SOwn.far16 hO1 hQ1 (by decide) (.int .i64 0) (.int .i64 0) (.int .i64 0) (.slice none 0 0) (.int .i64 0) (.int .i64 0) (.int .i64 0) (.int .i64 0) (.int .i64 0) (.int .i64 0) (.int .i64 0) (.int .i64 0) (.int .i64 0) (.int .i64 0) (.bool false) (.int .i64 0)
  have hB9 := store16_bel (C := (w.heap.size + 1)) hB1 (by omega) (.int .i64 0) (.int .i64 0) (.int .i64 0) (.slice none 0 0) (.int .i64 0) (.int .i64 0) (.int .i64 0) (.int .i64 0) (.int .i64 0) (.int .i64 0) (.int .i64 0) (.int .i64 0) (.int .i64 0) (.int .i64 0) (.bool false) (.int .i64 0)
  exact bodyPost_ret (v := .agg #[.int .i64 0, .int .i64 0, .int .i64 0, .slice none 0 0, .int .i64 0, .int .i64 0, .int .i64 0, .int .i64 0, .int .i64 0, .int .i64 0, .int .i64 0, .int .i64 0, .int .i64 0, .int .i64 0, .bool false, .int .i64 0]) (results_cell_row Tryz.results31 _ _ _ _ _ (0, 0) _ rfl hQ9 Tryz.underlying33 rfl (by kernel_rfl)) rfl ⟨none, 0, rfl, hO9, hB9⟩
set_option maxRecDepth 100000 in
set_option maxHeartbeats 4000000 in
theorem iSTs_bad2 (la dy mi e1 n1 fe fn fu ho ha ne lo hi st : Int) (up : Bool) (A : Option Addr) (cap : Nat) (xs : List VBlock) {many : Int} {n : Nat} (w : World) (hn : xs.length = n) (h : SRow encBlock w A xs) (hl : n ≤ 2000000) (hb : siB la dy mi e1 n1 fe fn fu ho ha ne lo hi st xs = true) (hq : inV many 0 96 = false) :
    Calls Tryz.prog 31 #[.agg #[.int .i64 la, .int .i64 dy, .int .i64 mi, .slice A n cap, .int .i64 e1, .int .i64 n1, .int .i64 fe, .int .i64 fn, .int .i64 fu, .int .i64 ho, .int .i64 ha, .int .i64 ne, .int .i64 lo, .int .i64 hi, .bool up, .int .i64 st], .int .i64 many] w (CopyB 0 0 0 0 0 0 0 0 0 0 0 0 0 0 false [] w) := by
  have HB := Lib.hid hb
  have HQ := Lib.hid hq
  clear hq
  clear hb
  have HN := Lib.hid hn
  have h0 := h
  clear hn h
  have hP0 := blk_old (blk_new w (.cells #[.int .i64 la, .int .i64 dy, .int .i64 mi, .slice A n cap, .int .i64 e1, .int .i64 n1, .int .i64 fe, .int .i64 fn, .int .i64 fu, .int .i64 ho, .int .i64 ha, .int .i64 ne, .int .i64 lo, .int .i64 hi, .bool up, .int .i64 st] 33 (0, 0))) (.cells #[.int .i64 0, .int .i64 0, .int .i64 0, .slice none 0 0, .int .i64 0, .int .i64 0, .int .i64 0, .int .i64 0, .int .i64 0, .int .i64 0, .int .i64 0, .int .i64 0, .int .i64 0, .int .i64 0, .bool false, .int .i64 0] 33 (0, 0))
  have hQ0 := blk_new (w.alloc (.cells #[.int .i64 la, .int .i64 dy, .int .i64 mi, .slice A n cap, .int .i64 e1, .int .i64 n1, .int .i64 fe, .int .i64 fn, .int .i64 fu, .int .i64 ho, .int .i64 ha, .int .i64 ne, .int .i64 lo, .int .i64 hi, .bool up, .int .i64 st] 33 (0, 0))) (.cells #[.int .i64 0, .int .i64 0, .int .i64 0, .slice none 0 0, .int .i64 0, .int .i64 0, .int .i64 0, .int .i64 0, .int .i64 0, .int .i64 0, .int .i64 0, .int .i64 0, .int .i64 0, .int .i64 0, .bool false, .int .i64 0] 33 (0, 0))
  have hsz : (w.alloc (.cells #[.int .i64 la, .int .i64 dy, .int .i64 mi, .slice A n cap, .int .i64 e1, .int .i64 n1, .int .i64 fe, .int .i64 fn, .int .i64 fu, .int .i64 ho, .int .i64 ha, .int .i64 ne, .int .i64 lo, .int .i64 hi, .bool up, .int .i64 st] 33 (0, 0))).heap.size = w.heap.size + 1 := by simp
  rw [hsz] at hQ0
  have hB0 := bel2 w (.cells #[.int .i64 la, .int .i64 dy, .int .i64 mi, .slice A n cap, .int .i64 e1, .int .i64 n1, .int .i64 fe, .int .i64 fn, .int .i64 fu, .int .i64 ho, .int .i64 ha, .int .i64 ne, .int .i64 lo, .int .i64 hi, .bool up, .int .i64 st] 33 (0, 0)) (.cells #[.int .i64 0, .int .i64 0, .int .i64 0, .slice none 0 0, .int .i64 0, .int .i64 0, .int .i64 0, .int .i64 0, .int .i64 0, .int .i64 0, .int .i64 0, .int .i64 0, .int .i64 0, .int .i64 0, .bool false, .int .i64 0] 33 (0, 0))
  have hA0 := h0.next hB0
  have hzz : ((w.alloc (.cells #[.int .i64 la, .int .i64 dy, .int .i64 mi, .slice A n cap, .int .i64 e1, .int .i64 n1, .int .i64 fe, .int .i64 fn, .int .i64 fu, .int .i64 ho, .int .i64 ha, .int .i64 ne, .int .i64 lo, .int .i64 hi, .bool up, .int .i64 st] 33 (0, 0))).alloc (.cells #[.int .i64 0, .int .i64 0, .int .i64 0, .slice none 0 0, .int .i64 0, .int .i64 0, .int .i64 0, .int .i64 0, .int .i64 0, .int .i64 0, .int .i64 0, .int .i64 0, .int .i64 0, .int .i64 0, .bool false, .int .i64 0] 33 (0, 0))).heap.size = w.heap.size + 1 + 1 := by simp
  generalize hwa : (w.alloc (.cells #[.int .i64 la, .int .i64 dy, .int .i64 mi, .slice A n cap, .int .i64 e1, .int .i64 n1, .int .i64 fe, .int .i64 fn, .int .i64 fu, .int .i64 ho, .int .i64 ha, .int .i64 ne, .int .i64 lo, .int .i64 hi, .bool up, .int .i64 st] 33 (0, 0))).alloc (.cells #[.int .i64 0, .int .i64 0, .int .i64 0, .slice none 0 0, .int .i64 0, .int .i64 0, .int .i64 0, .int .i64 0, .int .i64 0, .int .i64 0, .int .i64 0, .int .i64 0, .int .i64 0, .int .i64 0, .bool false, .int .i64 0] 33 (0, 0)) = wa at hP0 hQ0 hzz hB0 hA0
  go_enter Tryz.func31, Tryz.ntmps31
  go_wp2_with (refine wpList_load_row rfl 33 _ rfl _ rfl _ _ (0, 0) _ hP0 Tryz.underlying33 rfl (by kernel_rfl) ?_)
  refine (iSV_is la dy mi e1 n1 fe fn fu ho ha ne lo hi st up A cap xs _ HN.out hA0 hl HB.out).mono ?_; rintro E w1 ⟨rfl, hw1⟩
  have hP1 := blk_next hP0 hw1
  have hQ1 := blk_next hQ0 hw1
  have hB1 := bel_next hB0 hw1
  have hA1 := h0.next hB1
  clear hP0 hQ0 hA0
  go_wp2_with fail
  refine (iQv_is _ HQ.out).mono ?_; rintro E w' ⟨rfl, rfl⟩
  obtain ⟨cQ0, cQ1, cQ2, cQ3, cQ4, cQ5, cQ6, cQ7, cQ8, cQ9, cQ10, cQ11, cQ12, cQ13, cQ14, cQ15, fQ0, fQ1, fQ2, fQ3, fQ4, fQ5, fQ6, fQ7, fQ8, fQ9, fQ10, fQ11, fQ12, fQ13, fQ14, fQ15, zQ⟩ := blk16 hQ1
  go_wp2_with fail
  have hO1 : SOwn encBlock w1 w.heap.size 40 none 0 [] := SOwn.nil _ _ _
  have hQ9 := blk16_put (y0 := .int .i64 0) (y1 := .int .i64 0) (y2 := .int .i64 0) (y3 := .slice none 0 0) (y4 := .int .i64 0) (y5 := .int .i64 0) (y6 := .int .i64 0) (y7 := .int .i64 0) (y8 := .int .i64 0) (y9 := .int .i64 0) (y10 := .int .i64 0) (y11 := .int .i64 0) (y12 := .int .i64 0) (y13 := .int .i64 0) (y14 := .bool false) (y15 := .int .i64 0) hQ1
  have hO9 := SOwn.far16 hO1 hQ1 (by decide) (.int .i64 0) (.int .i64 0) (.int .i64 0) (.slice none 0 0) (.int .i64 0) (.int .i64 0) (.int .i64 0) (.int .i64 0) (.int .i64 0) (.int .i64 0) (.int .i64 0) (.int .i64 0) (.int .i64 0) (.int .i64 0) (.bool false) (.int .i64 0)
  have hB9 := store16_bel (C := (w.heap.size + 1)) hB1 (by omega) (.int .i64 0) (.int .i64 0) (.int .i64 0) (.slice none 0 0) (.int .i64 0) (.int .i64 0) (.int .i64 0) (.int .i64 0) (.int .i64 0) (.int .i64 0) (.int .i64 0) (.int .i64 0) (.int .i64 0) (.int .i64 0) (.bool false) (.int .i64 0)
  exact bodyPost_ret (v := .agg #[.int .i64 0, .int .i64 0, .int .i64 0, .slice none 0 0, .int .i64 0, .int .i64 0, .int .i64 0, .int .i64 0, .int .i64 0, .int .i64 0, .int .i64 0, .int .i64 0, .int .i64 0, .int .i64 0, .bool false, .int .i64 0]) (results_cell_row Tryz.results31 _ _ _ _ _ (0, 0) _ rfl hQ9 Tryz.underlying33 rfl (by kernel_rfl)) rfl ⟨none, 0, rfl, hO9, hB9⟩
set_option maxRecDepth 100000 in
set_option maxHeartbeats 4000000 in
theorem iSTs_yes0 (la dy mi e1 n1 fe fn fu ho ha ne lo hi st : Int) (up : Bool) (A : Option Addr) (cap : Nat) (xs : List VBlock) {M : Nat} {d0 m0 a0 t0 : Int} {u0 : Bool} {n : Nat} (w : World) (hn : xs.length = n) (h : SRow encBlock w A xs) (hl : n ≤ 2000000) (hM : M ≤ 96) (hb : siB la dy mi e1 n1 fe fn fu ho ha ne lo hi st xs = true) (hs0 : tkN la e1 n1 fe fn fu ho ne lo hi xs M (dy, mi, ha, up, st) = (d0, m0, a0, u0, t0)) :
    Calls Tryz.prog 31 #[.agg #[.int .i64 la, .int .i64 dy, .int .i64 mi, .slice A n cap, .int .i64 e1, .int .i64 n1, .int .i64 fe, .int .i64 fn, .int .i64 fu, .int .i64 ho, .int .i64 ha, .int .i64 ne, .int .i64 lo, .int .i64 hi, .bool up, .int .i64 st], .int .i64 M] w (CopyB la d0 m0 e1 n1 fe fn fu ho a0 ne lo hi t0 u0 xs w) := by
  have HS0 := Lib.hid hs0
  clear hs0
  have hv : tkV la e1 n1 fe fn fu ho ne lo hi xs (dy, mi, ha, up, st) := hb
  have HV := Lib.hid (fun k => tkV_all hv k)
  have hq : inV (M : Int) 0 96 = true := by simp only [inV, decide_eq_true_eq]; omega
  have HB := Lib.hid hb
  have HQ := Lib.hid hq
  have HM := Lib.hid hM
  clear hb hq hv hM
  have HN := Lib.hid hn
  have h0 := h
  clear hn h
  have hP0 := blk_old (blk_new w (.cells #[.int .i64 la, .int .i64 dy, .int .i64 mi, .slice A n cap, .int .i64 e1, .int .i64 n1, .int .i64 fe, .int .i64 fn, .int .i64 fu, .int .i64 ho, .int .i64 ha, .int .i64 ne, .int .i64 lo, .int .i64 hi, .bool up, .int .i64 st] 33 (0, 0))) (.cells #[.int .i64 0, .int .i64 0, .int .i64 0, .slice none 0 0, .int .i64 0, .int .i64 0, .int .i64 0, .int .i64 0, .int .i64 0, .int .i64 0, .int .i64 0, .int .i64 0, .int .i64 0, .int .i64 0, .bool false, .int .i64 0] 33 (0, 0))
  have hQ0 := blk_new (w.alloc (.cells #[.int .i64 la, .int .i64 dy, .int .i64 mi, .slice A n cap, .int .i64 e1, .int .i64 n1, .int .i64 fe, .int .i64 fn, .int .i64 fu, .int .i64 ho, .int .i64 ha, .int .i64 ne, .int .i64 lo, .int .i64 hi, .bool up, .int .i64 st] 33 (0, 0))) (.cells #[.int .i64 0, .int .i64 0, .int .i64 0, .slice none 0 0, .int .i64 0, .int .i64 0, .int .i64 0, .int .i64 0, .int .i64 0, .int .i64 0, .int .i64 0, .int .i64 0, .int .i64 0, .int .i64 0, .bool false, .int .i64 0] 33 (0, 0))
  have hsz : (w.alloc (.cells #[.int .i64 la, .int .i64 dy, .int .i64 mi, .slice A n cap, .int .i64 e1, .int .i64 n1, .int .i64 fe, .int .i64 fn, .int .i64 fu, .int .i64 ho, .int .i64 ha, .int .i64 ne, .int .i64 lo, .int .i64 hi, .bool up, .int .i64 st] 33 (0, 0))).heap.size = w.heap.size + 1 := by simp
  rw [hsz] at hQ0
  have hB0 := bel2 w (.cells #[.int .i64 la, .int .i64 dy, .int .i64 mi, .slice A n cap, .int .i64 e1, .int .i64 n1, .int .i64 fe, .int .i64 fn, .int .i64 fu, .int .i64 ho, .int .i64 ha, .int .i64 ne, .int .i64 lo, .int .i64 hi, .bool up, .int .i64 st] 33 (0, 0)) (.cells #[.int .i64 0, .int .i64 0, .int .i64 0, .slice none 0 0, .int .i64 0, .int .i64 0, .int .i64 0, .int .i64 0, .int .i64 0, .int .i64 0, .int .i64 0, .int .i64 0, .int .i64 0, .int .i64 0, .bool false, .int .i64 0] 33 (0, 0))
  have hA0 := h0.next hB0
  have hzz : ((w.alloc (.cells #[.int .i64 la, .int .i64 dy, .int .i64 mi, .slice A n cap, .int .i64 e1, .int .i64 n1, .int .i64 fe, .int .i64 fn, .int .i64 fu, .int .i64 ho, .int .i64 ha, .int .i64 ne, .int .i64 lo, .int .i64 hi, .bool up, .int .i64 st] 33 (0, 0))).alloc (.cells #[.int .i64 0, .int .i64 0, .int .i64 0, .slice none 0 0, .int .i64 0, .int .i64 0, .int .i64 0, .int .i64 0, .int .i64 0, .int .i64 0, .int .i64 0, .int .i64 0, .int .i64 0, .int .i64 0, .bool false, .int .i64 0] 33 (0, 0))).heap.size = w.heap.size + 1 + 1 := by simp
  generalize hwa : (w.alloc (.cells #[.int .i64 la, .int .i64 dy, .int .i64 mi, .slice A n cap, .int .i64 e1, .int .i64 n1, .int .i64 fe, .int .i64 fn, .int .i64 fu, .int .i64 ho, .int .i64 ha, .int .i64 ne, .int .i64 lo, .int .i64 hi, .bool up, .int .i64 st] 33 (0, 0))).alloc (.cells #[.int .i64 0, .int .i64 0, .int .i64 0, .slice none 0 0, .int .i64 0, .int .i64 0, .int .i64 0, .int .i64 0, .int .i64 0, .int .i64 0, .int .i64 0, .int .i64 0, .int .i64 0, .int .i64 0, .bool false, .int .i64 0] 33 (0, 0)) = wa at hP0 hQ0 hzz hB0 hA0
  go_enter Tryz.func31, Tryz.ntmps31
  go_wp2_with (refine wpList_load_row rfl 33 _ rfl _ rfl _ _ (0, 0) _ hP0 Tryz.underlying33 rfl (by kernel_rfl) ?_)
  refine (iSV_is la dy mi e1 n1 fe fn fu ho ha ne lo hi st up A cap xs _ HN.out hA0 hl HB.out).mono ?_; rintro E w1 ⟨rfl, hw1⟩
  have hP1 := blk_next hP0 hw1
  have hQ1 := blk_next hQ0 hw1
  have hB1 := bel_next hB0 hw1
  have hA1 := h0.next hB1
  clear hP0 hQ0 hA0
  go_wp2_with fail
  refine (iQv_is _ HQ.out).mono ?_; rintro E w' ⟨rfl, rfl⟩
  go_wp2_with (refine wpList_load_row rfl 33 _ rfl _ rfl _ _ (0, 0) _ hP1 Tryz.underlying33 rfl (by kernel_rfl) ?_)
  refine (partsOf_any la dy mi e1 n1 fe fn fu ho ha ne lo hi st up A n cap _).mono ?_; rintro E w2 ⟨rfl, hw2⟩
  have hQ2 := blk_next hQ1 hw2
  have hB2 := bel_next hB1 hw2
  have hA2 := h0.next hB2
  have hC2 := blk_new w2 (.cells #[.int .i64 la, .int .i64 dy, .int .i64 mi, .int .i64 fe, .int .i64 fn, .int .i64 fu, .int .i64 ho, .int .i64 ha, .int .i64 ne, .slice A n cap, .int .i64 e1, .int .i64 n1, .int .i64 lo, .int .i64 hi, .bool up, .int .i64 st] 77 (0, 0))
  have hzB := hB2.size
  have hzQ := blk_lt hQ2
  have hBC := bel1 w2 (.cells #[.int .i64 la, .int .i64 dy, .int .i64 mi, .int .i64 fe, .int .i64 fn, .int .i64 fu, .int .i64 ho, .int .i64 ha, .int .i64 ne, .slice A n cap, .int .i64 e1, .int .i64 n1, .int .i64 lo, .int .i64 hi, .bool up, .int .i64 st] 77 (0, 0))
  clear hP1 hQ1 hB1 hA1
  go_wp2_with fail
  go_loopw [18] (fun kv wr => ∃ (k : Nat) (d m a t : Int) (u : Bool), kv = .int .i64 k ∧ k ≤ M ∧ Hid (tkN la e1 n1 fe fn fu ho ne lo hi xs k (dy, mi, ha, up, st) = (d, m, a, u, t)) ∧ wr.heap[w2.heap.size]? = some (.cells #[.int .i64 la, .int .i64 d, .int .i64 m, .int .i64 fe, .int .i64 fn, .int .i64 fu, .int .i64 ho, .int .i64 a, .int .i64 ne, .slice A n cap, .int .i64 e1, .int .i64 n1, .int .i64 lo, .int .i64 hi, .bool u, .int .i64 t] 77 (0, 0)) ∧ Below w2.heap.size w2 wr) (fun kv _ => (M - intOf kv).toNat)
  case atStart => exact ⟨0, dy, mi, ha, st, up, rfl, by omega, (by show _ = _; rfl), hC2, hBC⟩
  case round =>
    obtain ⟨k, d, m, a, t, u, rfl, hk, HS, hC, hBk⟩ := hrel
    have hM9 := HM.out
    by_cases hlt : k < M
    · have hlt2 : (k : Int) < (M : Int) := by omega
      obtain ⟨⟨d9, m9, a9, u9, t9⟩, hs9⟩ : ∃ s, tk1 la e1 n1 fe fn fu ho ne lo hi xs (d, m, a, u, t) = s := ⟨_, rfl⟩
      have HS9 := Lib.hid hs9
      clear hs9
      have HVk := HV.out k
      rw [HS.out] at HVk
      have HVK := Lib.hid HVk
      clear HVk
      go_wp2_with fail
      refine (iTick_is la d m e1 n1 fe fn fu ho a ne lo hi t u A cap xs w2.heap.size w2 _ HN.out hA2 hBk (Nat.le_refl _) hl hC HVK.out HS9.out).mono ?_; rintro E w5 ⟨rfl, hC5, hK5⟩
      have hB5 := hK5.below (Nat.le_refl _) hBk
      go_wp2_with fail
      go_roundw
      case rel => exact ⟨k + 1, d9, m9, a9, t9, u9, by go_num, by omega, (by show tk1 _ _ _ _ _ _ _ _ _ _ _ (tkN la e1 n1 fe fn fu ho ne lo hi xs k _) = _; rw [HS.out]; exact HS9.out), hC5, hB5⟩
      case measure => simp [intOf]; omega
    · obtain rfl : k = M := by omega
      have h9 := HS.out
      rw [HS0.out] at h9
      simp only [Prod.mk.injEq] at h9
      obtain ⟨rfl, rfl, rfl, rfl, rfl⟩ := h9
      clear HS HS0
      have hlt2 : ¬ (k : Int) < (k : Int) := by omega
      have hQ3 := blk_next hQ2 hBk
      have hA3 := hA2.next hBk
      have hB3 := bel_next hB2 hBk
      go_wp2_with (refine wpList_load_row rfl 77 _ rfl _ rfl _ _ (0, 0) _ hC Tryz.underlying77 rfl (by kernel_rfl) ?_)
      refine (iWhole_is la d0 m0 e1 n1 fe fn fu ho a0 ne lo hi t0 u0 A cap xs _ HN.out hA3 hl).mono ?_; rintro E w4 ⟨A2, cp2, rfl, hO4, hw4⟩
      rw [HN.out]
      have hQ4 := blk_next hQ3 hw4
      have hB4 := bel_next hB3 hw4
      have hO5 := SOwn.mono (base' := w.heap.size) hO4 hB3.size
      obtain ⟨cQ0, cQ1, cQ2, cQ3, cQ4, cQ5, cQ6, cQ7, cQ8, cQ9, cQ10, cQ11, cQ12, cQ13, cQ14, cQ15, fQ0, fQ1, fQ2, fQ3, fQ4, fQ5, fQ6, fQ7, fQ8, fQ9, fQ10, fQ11, fQ12, fQ13, fQ14, fQ15, zQ⟩ := blk16 hQ4
      go_wp2_with fail
      have hQ9 := blk16_put (y0 := .int .i64 la) (y1 := .int .i64 d0) (y2 := .int .i64 m0) (y3 := .slice A2 n cp2) (y4 := .int .i64 e1) (y5 := .int .i64 n1) (y6 := .int .i64 fe) (y7 := .int .i64 fn) (y8 := .int .i64 fu) (y9 := .int .i64 ho) (y10 := .int .i64 a0) (y11 := .int .i64 ne) (y12 := .int .i64 lo) (y13 := .int .i64 hi) (y14 := .bool u0) (y15 := .int .i64 t0) hQ4
      have hO9 := SOwn.far16 hO5 hQ4 (by decide) (.int .i64 la) (.int .i64 d0) (.int .i64 m0) (.slice A2 n cp2) (.int .i64 e1) (.int .i64 n1) (.int .i64 fe) (.int .i64 fn) (.int .i64 fu) (.int .i64 ho) (.int .i64 a0) (.int .i64 ne) (.int .i64 lo) (.int .i64 hi) (.bool u0) (.int .i64 t0)
      have hB9 := store16_bel (C := (w.heap.size + 1)) hB4 (by omega) (.int .i64 la) (.int .i64 d0) (.int .i64 m0) (.slice A2 n cp2) (.int .i64 e1) (.int .i64 n1) (.int .i64 fe) (.int .i64 fn) (.int .i64 fu) (.int .i64 ho) (.int .i64 a0) (.int .i64 ne) (.int .i64 lo) (.int .i64 hi) (.bool u0) (.int .i64 t0)
      exact bodyPost_ret (v := .agg #[.int .i64 la, .int .i64 d0, .int .i64 m0, .slice A2 n cp2, .int .i64 e1, .int .i64 n1, .int .i64 fe, .int .i64 fn, .int .i64 fu, .int .i64 ho, .int .i64 a0, .int .i64 ne, .int .i64 lo, .int .i64 hi, .bool u0, .int .i64 t0]) (results_cell_row Tryz.results31 _ _ _ _ _ (0, 0) _ rfl hQ9 Tryz.underlying33 rfl (by kernel_rfl)) rfl ⟨A2, cp2, by rw [HN.out], hO9, hB9⟩
theorem iSTs_is (la dy mi e1 n1 fe fn fu ho ha ne lo hi st : Int) (up : Bool) (A : Option Addr) (cap : Nat) (xs : List VBlock) {many : Int} {r0 r1 r2 r3 r4 r5 r6 r7 r8 r9 r10 r11 r12 r13 : Int} {rb : Bool} {l : List VBlock} {n : Nat} (w : World) (hn : xs.length = n) (h : SRow encBlock w A xs) (hl : n ≤ 2000000) (hr : siT la dy mi e1 n1 fe fn fu ho ha ne lo hi st up xs many = (r0, r1, r2, r3, r4, r5, r6, r7, r8, r9, r10, r11, r12, r13, rb, l)) : Calls Tryz.prog 31 #[.agg #[.int .i64 la, .int .i64 dy, .int .i64 mi, .slice A n cap, .int .i64 e1, .int .i64 n1, .int .i64 fe, .int .i64 fn, .int .i64 fu, .int .i64 ho, .int .i64 ha, .int .i64 ne, .int .i64 lo, .int .i64 hi, .bool up, .int .i64 st], .int .i64 many] w (CopyB r0 r1 r2 r3 r4 r5 r6 r7 r8 r9 r10 r11 r12 r13 rb l w) := by
  cases hb : siB la dy mi e1 n1 fe fn fu ho ha ne lo hi st xs
  · rw [siT_no (.inl hb)] at hr
    unfold siZ at hr
    simp only [Prod.mk.injEq] at hr
    obtain ⟨rfl, rfl, rfl, rfl, rfl, rfl, rfl, rfl, rfl, rfl, rfl, rfl, rfl, rfl, rfl, rfl⟩ := hr
    exact iSTs_bad1 la dy mi e1 n1 fe fn fu ho ha ne lo hi st up A cap xs w hn h hl hb
  · cases hq : inV many 0 96
    · rw [siT_no (.inr hq)] at hr
      unfold siZ at hr
      simp only [Prod.mk.injEq] at hr
      obtain ⟨rfl, rfl, rfl, rfl, rfl, rfl, rfl, rfl, rfl, rfl, rfl, rfl, rfl, rfl, rfl, rfl⟩ := hr
      exact iSTs_bad2 la dy mi e1 n1 fe fn fu ho ha ne lo hi st up A cap xs w hn h hl hb hq
    · simp only [inV, decide_eq_true_eq] at hq
      obtain ⟨M, rfl⟩ : ∃ M : Nat, many = (M : Int) := ⟨many.toNat, by omega⟩
      obtain ⟨⟨d0, m0, a0, u0, t0⟩, hs0⟩ : ∃ s, tkN la e1 n1 fe fn fu ho ne lo hi xs M (dy, mi, ha, up, st) = s := ⟨_, rfl⟩
      rw [siT_yes hb (by omega) hs0] at hr
      simp only [Prod.mk.injEq] at hr
      obtain ⟨rfl, rfl, rfl, rfl, rfl, rfl, rfl, rfl, rfl, rfl, rfl, rfl, rfl, rfl, rfl, rfl⟩ := hr
      exact iSTs_yes0 la dy mi e1 n1 fe fn fu ho ha ne lo hi st up A cap xs w hn h hl (by omega) hb hs0
set_option maxRecDepth 100000 in
set_option maxHeartbeats 4000000 in
theorem iST_is (la dy mi e1 n1 fe fn fu ho ha ne lo hi st : Int) (up : Bool) (A : Option Addr) (cap : Nat) (xs : List VBlock) {r0 r1 r2 r3 r4 r5 r6 r7 r8 r9 r10 r11 r12 r13 : Int} {rb : Bool} {l : List VBlock} {n : Nat} (w : World) (hn : xs.length = n) (h : SRow encBlock w A xs) (hl : n ≤ 2000000) (hr : siT la dy mi e1 n1 fe fn fu ho ha ne lo hi st up xs 1 = (r0, r1, r2, r3, r4, r5, r6, r7, r8, r9, r10, r11, r12, r13, rb, l)) : Calls Tryz.prog 21 #[.agg #[.int .i64 la, .int .i64 dy, .int .i64 mi, .slice A n cap, .int .i64 e1, .int .i64 n1, .int .i64 fe, .int .i64 fn, .int .i64 fu, .int .i64 ho, .int .i64 ha, .int .i64 ne, .int .i64 lo, .int .i64 hi, .bool up, .int .i64 st]] w (CopyB r0 r1 r2 r3 r4 r5 r6 r7 r8 r9 r10 r11 r12 r13 rb l w) := by
  have HR := Lib.hid hr
  clear hr
  have HN := Lib.hid hn
  have h0 := h
  clear hn h
  have hP0 := blk_old (blk_new w (.cells #[.int .i64 la, .int .i64 dy, .int .i64 mi, .slice A n cap, .int .i64 e1, .int .i64 n1, .int .i64 fe, .int .i64 fn, .int .i64 fu, .int .i64 ho, .int .i64 ha, .int .i64 ne, .int .i64 lo, .int .i64 hi, .bool up, .int .i64 st] 33 (0, 0))) (.cells #[.int .i64 0, .int .i64 0, .int .i64 0, .slice none 0 0, .int .i64 0, .int .i64 0, .int .i64 0, .int .i64 0, .int .i64 0, .int .i64 0, .int .i64 0, .int .i64 0, .int .i64 0, .int .i64 0, .bool false, .int .i64 0] 33 (0, 0))
  have hQ0 := blk_new (w.alloc (.cells #[.int .i64 la, .int .i64 dy, .int .i64 mi, .slice A n cap, .int .i64 e1, .int .i64 n1, .int .i64 fe, .int .i64 fn, .int .i64 fu, .int .i64 ho, .int .i64 ha, .int .i64 ne, .int .i64 lo, .int .i64 hi, .bool up, .int .i64 st] 33 (0, 0))) (.cells #[.int .i64 0, .int .i64 0, .int .i64 0, .slice none 0 0, .int .i64 0, .int .i64 0, .int .i64 0, .int .i64 0, .int .i64 0, .int .i64 0, .int .i64 0, .int .i64 0, .int .i64 0, .int .i64 0, .bool false, .int .i64 0] 33 (0, 0))
  have hsz : (w.alloc (.cells #[.int .i64 la, .int .i64 dy, .int .i64 mi, .slice A n cap, .int .i64 e1, .int .i64 n1, .int .i64 fe, .int .i64 fn, .int .i64 fu, .int .i64 ho, .int .i64 ha, .int .i64 ne, .int .i64 lo, .int .i64 hi, .bool up, .int .i64 st] 33 (0, 0))).heap.size = w.heap.size + 1 := by simp
  rw [hsz] at hQ0
  have hB0 := bel2 w (.cells #[.int .i64 la, .int .i64 dy, .int .i64 mi, .slice A n cap, .int .i64 e1, .int .i64 n1, .int .i64 fe, .int .i64 fn, .int .i64 fu, .int .i64 ho, .int .i64 ha, .int .i64 ne, .int .i64 lo, .int .i64 hi, .bool up, .int .i64 st] 33 (0, 0)) (.cells #[.int .i64 0, .int .i64 0, .int .i64 0, .slice none 0 0, .int .i64 0, .int .i64 0, .int .i64 0, .int .i64 0, .int .i64 0, .int .i64 0, .int .i64 0, .int .i64 0, .int .i64 0, .int .i64 0, .bool false, .int .i64 0] 33 (0, 0))
  have hA0 := h0.next hB0
  have hzz : ((w.alloc (.cells #[.int .i64 la, .int .i64 dy, .int .i64 mi, .slice A n cap, .int .i64 e1, .int .i64 n1, .int .i64 fe, .int .i64 fn, .int .i64 fu, .int .i64 ho, .int .i64 ha, .int .i64 ne, .int .i64 lo, .int .i64 hi, .bool up, .int .i64 st] 33 (0, 0))).alloc (.cells #[.int .i64 0, .int .i64 0, .int .i64 0, .slice none 0 0, .int .i64 0, .int .i64 0, .int .i64 0, .int .i64 0, .int .i64 0, .int .i64 0, .int .i64 0, .int .i64 0, .int .i64 0, .int .i64 0, .bool false, .int .i64 0] 33 (0, 0))).heap.size = w.heap.size + 1 + 1 := by simp
  generalize hwa : (w.alloc (.cells #[.int .i64 la, .int .i64 dy, .int .i64 mi, .slice A n cap, .int .i64 e1, .int .i64 n1, .int .i64 fe, .int .i64 fn, .int .i64 fu, .int .i64 ho, .int .i64 ha, .int .i64 ne, .int .i64 lo, .int .i64 hi, .bool up, .int .i64 st] 33 (0, 0))).alloc (.cells #[.int .i64 0, .int .i64 0, .int .i64 0, .slice none 0 0, .int .i64 0, .int .i64 0, .int .i64 0, .int .i64 0, .int .i64 0, .int .i64 0, .int .i64 0, .int .i64 0, .int .i64 0, .int .i64 0, .bool false, .int .i64 0] 33 (0, 0)) = wa at hP0 hQ0 hzz hB0 hA0
  go_enter Tryz.func21, Tryz.ntmps21
  go_wp2_with (refine wpList_load_row rfl 33 _ rfl _ rfl _ _ (0, 0) _ hP0 Tryz.underlying33 rfl (by kernel_rfl) ?_)
  refine (iSTs_is la dy mi e1 n1 fe fn fu ho ha ne lo hi st up A cap xs _ HN.out hA0 hl HR.out).mono ?_; rintro E w1 ⟨A2, cp2, rfl, hO1, hw1⟩
  have hQ1 := blk_next hQ0 hw1
  have hB1 := bel_next hB0 hw1
  have hO2 := SOwn.mono (base' := w.heap.size) hO1 hB0.size
  clear hP0 hQ0 hA0
  obtain ⟨cQ0, cQ1, cQ2, cQ3, cQ4, cQ5, cQ6, cQ7, cQ8, cQ9, cQ10, cQ11, cQ12, cQ13, cQ14, cQ15, fQ0, fQ1, fQ2, fQ3, fQ4, fQ5, fQ6, fQ7, fQ8, fQ9, fQ10, fQ11, fQ12, fQ13, fQ14, fQ15, zQ⟩ := blk16 hQ1
  go_wp2_with fail
  have hQ9 := blk16_put (y0 := .int .i64 r0) (y1 := .int .i64 r1) (y2 := .int .i64 r2) (y3 := .slice A2 l.length cp2) (y4 := .int .i64 r3) (y5 := .int .i64 r4) (y6 := .int .i64 r5) (y7 := .int .i64 r6) (y8 := .int .i64 r7) (y9 := .int .i64 r8) (y10 := .int .i64 r9) (y11 := .int .i64 r10) (y12 := .int .i64 r11) (y13 := .int .i64 r12) (y14 := .bool rb) (y15 := .int .i64 r13) hQ1
  have hO9 := SOwn.far16 hO2 hQ1 (by decide) (.int .i64 r0) (.int .i64 r1) (.int .i64 r2) (.slice A2 l.length cp2) (.int .i64 r3) (.int .i64 r4) (.int .i64 r5) (.int .i64 r6) (.int .i64 r7) (.int .i64 r8) (.int .i64 r9) (.int .i64 r10) (.int .i64 r11) (.int .i64 r12) (.bool rb) (.int .i64 r13)
  have hB9 := store16_bel (C := (w.heap.size + 1)) hB1 (by omega) (.int .i64 r0) (.int .i64 r1) (.int .i64 r2) (.slice A2 l.length cp2) (.int .i64 r3) (.int .i64 r4) (.int .i64 r5) (.int .i64 r6) (.int .i64 r7) (.int .i64 r8) (.int .i64 r9) (.int .i64 r10) (.int .i64 r11) (.int .i64 r12) (.bool rb) (.int .i64 r13)
  exact bodyPost_ret (v := .agg #[.int .i64 r0, .int .i64 r1, .int .i64 r2, .slice A2 l.length cp2, .int .i64 r3, .int .i64 r4, .int .i64 r5, .int .i64 r6, .int .i64 r7, .int .i64 r8, .int .i64 r9, .int .i64 r10, .int .i64 r11, .int .i64 r12, .bool rb, .int .i64 r13]) (results_cell_row Tryz.results21 _ _ _ _ _ (0, 0) _ rfl hQ9 Tryz.underlying33 rfl (by kernel_rfl)) rfl ⟨A2, cp2, rfl, hO9, hB9⟩
end Go.Proofs.YtbklgpghonigjaaGreat
