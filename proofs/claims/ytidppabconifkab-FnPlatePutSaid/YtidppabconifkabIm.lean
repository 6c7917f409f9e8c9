/- slices.Insert at marks, in the middle, where there is room: copies at rows of structs. -/
import Derived.Test.YtidppabconifkabPo
import Derived.Laws.IdiomCopy
import Derived.Lib.Overlaps
import Derived.Shelf.Spec.SlicesInsertGrow
namespace Go.Proofs.Ytidppabconifkab
open Go Go.ChangeShapes Go.WideShapes Go.ChangeAt Go.RowKit
set_option linter.unusedSimpArgs false
set_option linter.unusedVariables false

/-- A copy at elements of k cells. -/
theorem run_copy_k {P : Program} (w : World) (dT sT ty elem : TypeId) (b o dLen dCap : Nat) (a : Addr) (sLen sCap k m : Nat) (cs : List Value)
    (hu : P.underlying dT = some (.slice elem)) (hs : (P.info? elem).map (·.size) = some k) (hm : Nat.min sLen dLen = m) (hn : cs.length = m * k)
    (hsrc : ∀ j v, cs[j]? = some v → w.cell? (a.add j) = some v) (hc : ∀ j, j < cs.length → (w.cell? ⟨b, o + j, none⟩).isSome = true) (hf : ∀ j, j < cs.length → w.frozen? ⟨b, o + j, none⟩ = false) (h1 : ∀ v ∈ cs, v.oneCell' = true) :
    (Builtin.copy_ #[dT, sT] ty #[.slice (some ⟨b, o, none⟩) dLen dCap, .slice (some a) sLen sCap]).run P w = .ok (goInt m) (w.setCells b o cs) := by
  have hl := run_loadCells_list (P := P) w a cs hsrc
  have hst := run_storeCells_cells (P := P) b o cs 0 w (by simpa using hc) (by simpa using hf) h1
  cases hq : P.info? elem with
  | none => simp [hq] at hs
  | some i =>
    have hi : i.size = k := by simpa [hq] using hs
    have hm' : min sLen dLen = m := hm
    simp [Builtin.copy_, run_underlying hu, Builtin.lenOf, Builtin.firstCells, sizeOf, typeInfo, hq, hi, hm, hm', ← hn, hl, hst]
/-- The two copies of an insertion: the tail one on, the element in its place. -/
theorem splice_eq {α : Type} (E : Enc α) (xs : List α) (x : α) (R : List Value) (i : Nat) (hi : i < xs.length) (hR : R.length = E.k) :
    listSet (listSet (E.flat xs ++ R) ((i + 1) * E.k) (E.flat (xs.drop i))) (i * E.k) (E.enc x) = E.flat (xs.take i ++ [x] ++ xs.drop i) := by
  have hx := E.len x
  have ha : (E.flat (xs.take i)).length = i * E.k := by rw [E.flat_len, List.length_take, Nat.min_eq_left (by omega)]
  have hd : (E.flat (xs.drop i)).length = (xs.length - i) * E.k := by rw [E.flat_len, List.length_drop]
  have hf : E.flat xs = E.flat (xs.take i) ++ E.flat (xs.drop i) := by rw [E.flat_app, List.take_append_drop]
  have hr : E.flat (xs.take i ++ [x] ++ xs.drop i) = E.flat (xs.take i) ++ E.enc x ++ E.flat (xs.drop i) := by rw [← E.flat_app, E.flat_snoc]
  have hs1 : (i + 1) * E.k = i * E.k + E.k := Nat.succ_mul i E.k
  rw [hr, hf, hs1]
  generalize E.flat (xs.take i) = A at *
  generalize E.flat (xs.drop i) = D at *
  generalize E.enc x = X at *
  generalize i * E.k = p at *
  generalize E.k = k at *
  apply List.ext_getElem?
  intro m
  rw [listSet_at, listSet_at]
  simp only [List.getElem?_append, List.length_append]
  rw [listSet_len, List.length_append, List.length_append]
  clear hd hf hr hs1
  by_cases c1 : m < p
  · rw [if_neg (by omega), if_neg (by omega), if_pos (by omega), if_pos (by omega), if_pos (by omega), if_pos (by omega)]
  · by_cases c2 : m < p + k
    · rw [if_pos (by omega), if_pos (by omega), if_neg (by omega), ha]
    · rw [if_neg (by omega), if_neg (show ¬ m < A.length + X.length by omega), ha, hx]
      by_cases c3 : m < p + k + D.length
      · rw [if_pos (by omega)]
      · rw [if_neg (by omega), if_neg (by omega), List.getElem?_eq_none (by omega), List.getElem?_eq_none (by omega)]
theorem own_shape {w : World} {base size n g cap : Nat} {T : TypeId} {M : List Value} (h : w.ownsRow base T size (.slice (some ⟨g, 0, none⟩) n cap) n M) : w.shape? g = some (T, cap * size) := by
  rcases h.2 with ⟨e, _⟩ | ⟨g', cap', cur, e, hb, hg, h1, h2, h3, h4⟩
  · cases e
  · cases e
    simp [World.shape?, hg, h3]
set_option maxHeartbeats 4000000 in
theorem insMid_any (base g cp vb i : Nat) (xs : List VMark) (x : VMark) {n : Nat} (w : World) (hn : xs.length = n) (hi : i < n) (hroom : n + 1 ≤ cp) (hO : SOwn encMark w base 40 (some ⟨g, 0, none⟩) cp xs)
    (hv : w.heap[vb]? = some (.cells (encMark.enc x).toArray 40)) (hne : vb ≠ g) (hl : n ≤ 2000000) :
    Calls Try.prog 53 #[.slice (some ⟨g, 0, none⟩) n cp, .int .i64 i, .slice (some ⟨vb, 0, none⟩) 1 1] w (InsRet base g (xs.take i ++ [x] ++ xs.drop i) w) := by
  obtain ⟨i0, hi0, hz0, hz1, hz2⟩ := info_parts infoMark
  have hs3 : (Try.prog.info? 40).map (·.size) = some 3 := by rw [hi0]; simp [hz1]
  have hz3 : ∀ w, (Go.sizeOf 40).run Try.prog w = .ok 3 w := fun w => by simp [Go.sizeOf, typeInfo, hi0, hz1]
  obtain ⟨_, hcm⟩ := hO.cap
  unfold maxLen at hcm
  have hO' := hO
  unfold SOwn at hO'
  rw [hn] at hO'
  have hk3 : encMark.k = 3 := rfl
  rw [hk3] at hO'
  obtain ⟨R, hOR, hRl⟩ := own_more hO' (Nat.le_succ n) hroom
  have hRl : R.length = encMark.k := by rw [hRl, hk3]; omega
  have hOD := World.ownsRow.drew hOR
  have hfs : encMark.flat xs = encMark.flat (xs.take i) ++ encMark.flat (xs.drop i) := by rw [encMark.flat_app, List.take_append_drop]
  have hfl : (encMark.flat (xs.take i)).length = i * 3 := by rw [encMark.flat_len, List.length_take, Nat.min_eq_left (by omega)]; rfl
  have hdl : (encMark.flat (xs.drop i)).length = (n - i) * 3 := by rw [encMark.flat_len, List.length_drop, hn]; rfl
  have hsome : ∀ (W : World) (L : List Value), W.ownsRow base 40 3 (.slice (some ⟨g, 0, none⟩) (n + 1) cp) (n + 1) L → ∀ j, j < (n + 1) * 3 → (W.cell? ⟨g, j, none⟩).isSome = true := by
    intro W L hL j hj
    have e := hL.1
    rw [World.ownsRow.cellAt hL j hj, List.getElem?_eq_getElem (by rw [e]; exact hj)]; rfl
  have hsrc1 : ∀ j v, (encMark.flat (xs.drop i))[j]? = some v → w.drew.cell? ((⟨g, i * 3, none⟩ : Addr).add j) = some v := by
    intro j v hj
    have hjl := (List.getElem?_eq_some_iff.1 hj).1
    rw [hdl] at hjl
    rw [Addr.add_lit, World.ownsRow.cellAt hOD (i * 3 + j) (by omega), hfs, List.append_assoc, List.getElem?_append_right (by rw [hfl]; omega), hfl, Nat.add_sub_cancel_left, List.getElem?_append_left (by rw [hdl]; exact hjl)]
    exact hj
  obtain ⟨W1, hW1⟩ : ∃ W1, W1 = setAll w.drew g ((i + 1) * 3) (encMark.flat (xs.drop i)) := ⟨_, rfl⟩
  have h1 := setAll_raw (encMark.flat (xs.drop i)) w.drew base 3 (n + 1) g ((i + 1) * 3) _ cp _ hOD
  rw [← hW1] at h1
  have h2 := setAll_raw (encMark.enc x) W1 base 3 (n + 1) g (i * 3) _ cp _ h1
  have hsp : listSet (listSet (encMark.flat xs ++ R) ((i + 1) * 3) (encMark.flat (xs.drop i))) (i * 3) (encMark.enc x) = encMark.flat (xs.take i ++ [x] ++ xs.drop i) := splice_eq encMark xs x R i (by omega) hRl
  rw [hsp] at h2
  have hgr1 : w.grownBy W1 (some g) := by rw [hW1]; exact setAll_grown _ _ ((⟨rfl, rfl, rfl, Nat.le_refl _, fun _ _ _ => rfl⟩ : w.grownBy w.drew (some g)))
  have hgr2 : w.grownBy (setAll W1 g (i * 3) (encMark.enc x)) (some g) := setAll_grown _ _ hgr1
  have hv1 : W1.heap[vb]? = some (.cells (encMark.enc x).toArray 40) := blk_grown hv hgr1 (fun e => hne (Option.some.inj e).symm)
  have hcp1 : ∀ ty dc sc, (Builtin.copy_ #[37, 37] ty #[.slice (some ⟨g, (i + 1) * 3, none⟩) (n - i) dc, .slice (some ⟨g, i * 3, none⟩) (n + 1 - i) sc]).run Try.prog w.drew = .ok (goInt ((n - i : Nat) : Int)) W1 := fun ty dc sc => by
    have hmn : Nat.min (n + 1 - i) (n - i) = n - i := by simp only [Nat.min_def]; split <;> omega
    rw [run_copy_k w.drew _ _ ty 40 g ((i + 1) * 3) (n - i) dc ⟨g, i * 3, none⟩ (n + 1 - i) sc 3 (n - i) (encMark.flat (xs.drop i)) Try.underlying37 hs3 hmn hdl hsrc1 (fun j hj => hsome _ _ hOD _ (by rw [hdl] at hj; omega)) (fun j hj => World.ownsRow.frozenAt hOD _) (encMark.flat_one _), setCells_eq, hW1]
  have hcp2 : ∀ ty dc, (Builtin.copy_ #[37, 37] ty #[.slice (some ⟨g, i * 3, none⟩) (n + 1 - i) dc, .slice (some ⟨vb, 0, none⟩) 1 1]).run Try.prog W1 = .ok (goInt ((1 : Nat) : Int)) (setAll W1 g (i * 3) (encMark.enc x)) := fun ty dc => by
    have hmn : Nat.min 1 (n + 1 - i) = 1 := by simp only [Nat.min_def]; split <;> omega
    rw [run_copy_k W1 _ _ ty 40 g (i * 3) (n + 1 - i) dc ⟨vb, 0, none⟩ 1 1 3 1 (encMark.enc x) Try.underlying37 hs3 hmn rfl (World.news_of_block (cs := (encMark.enc x).toArray) hv1) (fun j hj => hsome _ _ h1 _ (by have : (encMark.enc x).length = 3 := rfl; omega)) (fun j hj => World.ownsRow.frozenAt h1 _) (encMark.one _), setCells_eq]
  have hsa : w.shape? vb = some (40, 3) := by simp [World.shape?, hv]; rfl
  have hsb := own_shape hO'
  have hfa : w.frozen? ⟨vb, 0, none⟩ = false := by simp [World.frozen?, hv]
  have hfe : w.frozen? ⟨vb, 3, none⟩ = false := by simp [World.frozen?, hv]
  have hov : ∀ lb cb, (callFunc 86 #[.slice (some ⟨vb, 0, none⟩) 1 1, .slice (some ⟨g, (i + 1) * 3, none⟩) lb cb]).run Try.prog w = .ok (.value (.bool false)) w := fun lb cb => by
    rw [run_callFunc_extern Try.func86 (by kernel_rfl) (by kernel_rfl) (by kernel_rfl) (e := Extern.SlicesOverlaps.overlaps #[37, 37] #[4]) (by kernel_rfl),
      Lib.run_overlaps_apart w 37 4 40 Try.underlying37 3 hz3 ⟨vb, 0, none⟩ ⟨g, (i + 1) * 3, none⟩ 1 1 lb cb hne _ _ _ _ hsa hsb (by omega) hfa hfe]
    rfl
  clear hW1 hsrc1 hsome hsp hfs hfl hdl hgr1 hv1 hsa hsb hfa hfe h1 hOR hOD hO'
  have mixed : Try.prog.follows .mixedOrders = true := by kernel_rfl
  have hz5 : ¬ ((i : Int) = (n : Int)) := by omega
  have hz6 : ((i : Int) == (n : Int)) = false := by rw [beq_eq_false_iff_ne]; omega
  have hw1 : IntKind.i64.wrap ((i : Int) + 1) = (i : Int) + 1 := IntWalk.i64_in _ (by omega)
  have hw2 : IntKind.i64.wrap ((n : Int) + 1) = (n : Int) + 1 := IntWalk.i64_in _ (by omega)
  have hb0 : ¬ ((cp : Int) < (n : Int) + 1) := by omega
  have hb1 : (0 : Int) ≤ (i : Int) + 1 := by omega
  have hb2 : (i : Int) + 1 ≤ (n : Int) + 1 := by omega
  have hb3 : (i : Int) ≤ (n : Int) + 1 := by omega
  have hb4 : (n : Int) + 1 ≤ (cp : Int) := by omega
  have hb5 : (0 : Int) ≤ (n : Int) + 1 := by omega
  have hb6 : i ≤ n := by omega
  have hb7 : (i : Int) ≤ (n : Int) := by omega
  have ht1 : ((i : Int) + 1).toNat = i + 1 := by omega
  have ht2 : ((n : Int) + 1).toNat = n + 1 := by omega
  have hc2 : ¬ (cp = i + 1) := by omega
  have hc3 : ¬ (cp = i) := by omega
  go_enter Try.func53, Try.ntmps53
  go_wp2_with (simp only [hov])
  go_region_law_o (refine step_copy_runI rfl _ _ 37 37 rfl _ _ (by simp [Act.eval, Act.put]) (by simp [Act.eval, Act.put]) (hcp1 _ _ _) ?_)
  go_wp2_with (at_builtin; refine wpList_copy_runI _ rfl _ _ 37 37 rfl _ _ rfl rfl (hcp2 _ _) ?_)
  go_ret
  have e : (xs.take i ++ [x] ++ xs.drop i).length = n + 1 := by simp; omega
  exact ⟨g, cp, by rw [e]; rfl, SOwn.of_raw (E := encMark) (ys := xs.take i ++ [x] ++ xs.drop i) h2 rfl e, hgr2⟩
/-- The two copies of an insertion into a new row: the element in its place, the tail one on. -/
theorem splice_eq2 {α : Type} (E : Enc α) (xs : List α) (x : α) (Z : List Value) (i : Nat) (hi : i < xs.length) (hZ : Z.length = (xs.length + 1 - i) * E.k) :
    listSet (listSet (E.flat (xs.take i) ++ Z) (i * E.k) (E.enc x)) ((i + 1) * E.k) (E.flat (xs.drop i)) = E.flat (xs.take i ++ [x] ++ xs.drop i) := by
  have hx := E.len x
  have ha : (E.flat (xs.take i)).length = i * E.k := by rw [E.flat_len, List.length_take, Nat.min_eq_left (by omega)]
  have hd : (E.flat (xs.drop i)).length = (xs.length - i) * E.k := by rw [E.flat_len, List.length_drop]
  have hr : E.flat (xs.take i ++ [x] ++ xs.drop i) = E.flat (xs.take i) ++ E.enc x ++ E.flat (xs.drop i) := by rw [← E.flat_app, E.flat_snoc]
  have hs1 : (i + 1) * E.k = i * E.k + E.k := Nat.succ_mul i E.k
  have hzd : Z.length = (E.flat (xs.drop i)).length + E.k := by rw [hZ, hd, show xs.length + 1 - i = (xs.length - i) + 1 by omega, Nat.succ_mul]
  rw [hr, hs1]
  clear hd hZ hr hs1
  generalize E.flat (xs.take i) = A at *
  generalize E.flat (xs.drop i) = D at *
  generalize E.enc x = X at *
  generalize i * E.k = p at *
  generalize E.k = k at *
  apply List.ext_getElem?
  intro m
  rw [listSet_at, listSet_at]
  simp only [List.getElem?_append, List.length_append]
  rw [listSet_len, List.length_append]
  by_cases c1 : m < p
  · rw [if_neg (by omega), if_neg (by omega), if_pos (by omega), if_pos (by omega), if_pos (by omega)]
  · by_cases c2 : m < p + k
    · rw [if_neg (by omega), if_pos (by omega), if_pos (by omega), if_neg (by omega), ha]
    · rw [if_neg (show ¬ m < A.length + X.length by omega), ha, hx]
      by_cases c3 : m < p + k + D.length
      · rw [if_pos (by omega)]
      · rw [if_neg (by omega), if_neg (by omega), if_neg (by omega), List.getElem?_eq_none (by omega), List.getElem?_eq_none (by omega)]
set_option maxHeartbeats 4000000 in
theorem insGrow_any (base g cp vb i : Nat) (xs : List VMark) (x : VMark) {n : Nat} (w : World) (hn : xs.length = n) (hi : i < n) (hroom : cp < n + 1) (hO : SOwn encMark w base 40 (some ⟨g, 0, none⟩) cp xs)
    (hv : w.heap[vb]? = some (.cells (encMark.enc x).toArray 40)) (hl : n ≤ 2000000) (hb : base ≤ w.heap.size) :
    Calls Try.prog 53 #[.slice (some ⟨g, 0, none⟩) n cp, .int .i64 i, .slice (some ⟨vb, 0, none⟩) 1 1] w (InsRet base g (xs.take i ++ [x] ++ xs.drop i) w) := by
  obtain ⟨i0, hi0, hz0, hz1, hz2⟩ := info_parts infoMark
  have hs3 : (Try.prog.info? 40).map (·.size) = some 3 := by rw [hi0]; simp [hz1]
  obtain ⟨hcn, hcm⟩ := hO.cap
  rw [hn] at hcn
  unfold maxLen at hcm
  have hgw : g < w.heap.size := by obtain ⟨z, z1, _, z2⟩ := hO.at_ (i := i) (by omega); simp only [Option.some.injEq, Addr.mk.injEq] at z1; omega
  have hvw := blk_lt hv
  have hO' := hO
  unfold SOwn at hO'
  rw [hn] at hO'
  have hk3 : encMark.k = 3 := rfl
  rw [hk3] at hO'
  have hfs : encMark.flat xs = encMark.flat (xs.take i) ++ encMark.flat (xs.drop i) := by rw [encMark.flat_app, List.take_append_drop]
  have hfl : (encMark.flat (xs.take i)).length = i * 3 := by rw [encMark.flat_len, List.length_take, Nat.min_eq_left (by omega)]; rfl
  have hdl : (encMark.flat (xs.drop i)).length = (n - i) * 3 := by rw [encMark.flat_len, List.length_drop, hn]; rfl
  have hsome : ∀ (W : World) (q G : Nat) (L : List Value), W.ownsRow base 40 3 (.slice (some ⟨q, 0, none⟩) (n + 1) G) (n + 1) L → ∀ j, j < (n + 1) * 3 → (W.cell? ⟨q, j, none⟩).isSome = true := by
    intro W q G L hL j hj
    have e := hL.1
    rw [World.ownsRow.cellAt hL j hj, List.getElem?_eq_getElem (by rw [e]; exact hj)]; rfl
  have hold : (Builtin.firstCells i0.size i (.slice (some ⟨g, 0, none⟩) i cp)).run Try.prog w.drew = .ok (encMark.flat (xs.take i)).toArray w.drew := by
    rw [hz1]
    exact run_firstCells_some w.drew 3 i ⟨g, 0, none⟩ i cp (encMark.flat (xs.take i)) hfl (fun j v hj => by
      have hjl := (List.getElem?_eq_some_iff.1 hj).1
      rw [Addr.add_lit, Nat.zero_add]
      show w.cell? _ = _
      rw [World.ownsRow.cellAt hO' j (by omega), hfs, List.getElem?_append_left hjl]; exact hj)
  obtain ⟨G, hG⟩ : ∃ G, G = grownCap w (n + 1) cp 40 := ⟨_, rfl⟩
  have hGn : n + 1 ≤ G := by rw [hG]; exact grownCap_ge w _ _ _
  have hGm : G ≤ maxLen := by rw [hG]; exact grownCap_le_maxLen w _ _ _ (by unfold maxLen; omega)
  have hG63 : G ≤ 9223372036854775807 := by unfold maxLen at hGm; omega
  have hkk : (n : Int) + 1 - (i : Int) = ((n + 1 - i : Nat) : Int) := by omega
  have hik : i + (n + 1 - i) = n + 1 := by omega
  obtain ⟨z, hz⟩ : ∃ z : Value, z = .agg #[.int .i64 0, .int .i64 0, .string ByteArray.empty] := ⟨_, rfl⟩
  have hzc : z.cells.size = 3 := by rw [hz]; rfl
  rw [← hz] at hz0
  obtain ⟨ROW, hROW⟩ : ∃ ROW : Array Value, ROW = (encMark.flat (xs.take i)).toArray ++ Builtin.zeroCells z.cells (n + 1 - i) ++ Builtin.zeroCells z.cells (G - (n + 1)) := ⟨_, rfl⟩
  have hrz : ∀ ty, (Builtin.append_ #[37, 3] ty #[.slice (some ⟨g, 0, none⟩) i cp, .int .i64 ((n : Int) + 1 - (i : Int))]).run Try.prog w =
      .ok (.slice (some ⟨w.heap.size, 0, none⟩) (n + 1) G) (w.drew.alloc (.cells ROW 40)) := fun ty => by
    have h := Lib.run_append_grow_zeros w 37 3 ty 40 i0 z .i64 .i64 Try.underlying37 Try.underlying3 hi0 hz0 (some ⟨g, 0, none⟩) i cp (encMark.flat (xs.take i)) hold (n + 1 - i) (by omega) (by omega) (by omega) (by omega) (by rw [hz2]; omega) (by rw [hz2, hik]; exact growslice_fits hroom (by omega))
    rw [hik, ← hG, ← hROW] at h
    rw [hkk]
    exact h
  have hzl : ∀ k, (Builtin.zeroCells z.cells k).size = k * 3 := fun k => by simp [Builtin.zeroCells, hzc]
  obtain ⟨Z, hZ⟩ : ∃ Z, Z = (Builtin.zeroCells z.cells (n + 1 - i)).toList := ⟨_, rfl⟩
  have hZl : Z.length = (n + 1 - i) * 3 := by rw [hZ, Array.length_toList, hzl]
  have hRs : ROW.size = G * 3 := by rw [hROW]; simp only [Array.size_append, hzl, List.size_toArray, hfl]; omega
  have h0 : (w.drew.alloc (.cells ROW 40)).ownsRow base 40 3 (.slice (some ⟨w.heap.size, 0, none⟩) (n + 1) G) (n + 1) (encMark.flat (xs.take i) ++ Z) := by
    refine ⟨by rw [List.length_append, hfl, hZl]; omega, .inr ⟨w.heap.size, G, ROW, rfl, hb, blk_new w.drew _, hGn, hGm, hRs, ?_⟩⟩
    rw [hROW, hZ]
    simp only [Array.toList_append, List.append_assoc]
    rw [← List.append_assoc, List.take_left']
    rw [List.length_append, hfl, Array.length_toList, hzl]; omega
  obtain ⟨W1, hW1⟩ : ∃ W1, W1 = w.drew.alloc (.cells ROW 40) := ⟨_, rfl⟩
  have hB0 : w.grownBy W1 (some w.heap.size) := by rw [hW1]; exact ⟨rfl, rfl, rfl, by simp, fun k hk _ => Below.heap_alloc w.drew _ k hk⟩
  rw [← hW1] at hrz h0
  have hne : w.heap.size ≠ vb := by omega
  have hng : w.heap.size ≠ g := by omega
  obtain ⟨W2, hW2⟩ : ∃ W2, W2 = setAll W1 w.heap.size (i * 3) (encMark.enc x) := ⟨_, rfl⟩
  obtain ⟨W3, hW3⟩ : ∃ W3, W3 = setAll W2.drew w.heap.size ((i + 1) * 3) (encMark.flat (xs.drop i)) := ⟨_, rfl⟩
  have h1 := setAll_raw (encMark.enc x) W1 base 3 (n + 1) w.heap.size (i * 3) _ G _ h0
  rw [← hW2] at h1
  have h1d := World.ownsRow.drew h1
  have h2 := setAll_raw (encMark.flat (xs.drop i)) W2.drew base 3 (n + 1) w.heap.size ((i + 1) * 3) _ G _ h1d
  rw [← hW3] at h2
  have hsp : listSet (listSet (encMark.flat (xs.take i) ++ Z) (i * 3) (encMark.enc x)) ((i + 1) * 3) (encMark.flat (xs.drop i)) = encMark.flat (xs.take i ++ [x] ++ xs.drop i) := splice_eq2 encMark xs x Z i (by omega) (by rw [hZl, hn]; rfl)
  rw [hsp] at h2
  have hB1 : w.grownBy W2 (some w.heap.size) := by rw [hW2]; exact setAll_grown _ _ hB0
  have hB1d : w.grownBy W2.drew (some w.heap.size) := ⟨hB1.os, hB1.tape, hB1.output, hB1.size, hB1.block⟩
  have hB2 : w.grownBy W3 (some w.heap.size) := by rw [hW3]; exact setAll_grown _ _ hB1d
  have hB3 : w.grownBy W3 (some g) := ⟨hB2.os, hB2.tape, hB2.output, hB2.size, fun k hk _ => hB2.block k hk (fun e => by have := Option.some.inj e; omega)⟩
  have hv1 : W1.heap[vb]? = some (.cells (encMark.enc x).toArray 40) := blk_grown hv hB0 (fun e => hne (Option.some.inj e))
  have hcpA : ∀ ty dc, (Builtin.copy_ #[37, 37] ty #[.slice (some ⟨w.heap.size, i * 3, none⟩) (n + 1 - i) dc, .slice (some ⟨vb, 0, none⟩) 1 1]).run Try.prog W1 = .ok (goInt ((1 : Nat) : Int)) W2 := fun ty dc => by
    have hmn : Nat.min 1 (n + 1 - i) = 1 := by simp only [Nat.min_def]; split <;> omega
    rw [run_copy_k W1 _ _ ty 40 w.heap.size (i * 3) (n + 1 - i) dc ⟨vb, 0, none⟩ 1 1 3 1 (encMark.enc x) Try.underlying37 hs3 hmn rfl (World.news_of_block (cs := (encMark.enc x).toArray) hv1) (fun j hj => hsome _ _ _ _ h0 _ (by have : (encMark.enc x).length = 3 := rfl; omega)) (fun j hj => World.ownsRow.frozenAt h0 _) (encMark.one _), setCells_eq, hW2]
  have hsrc1 : ∀ j v, (encMark.flat (xs.drop i))[j]? = some v → W2.drew.cell? ((⟨g, i * 3, none⟩ : Addr).add j) = some v := by
    intro j v hj
    have hjl := (List.getElem?_eq_some_iff.1 hj).1
    rw [hdl] at hjl
    rw [Addr.add_lit, hB1d.cell_far ⟨g, i * 3 + j, none⟩ hgw (fun e => hng (Option.some.inj e).symm), World.ownsRow.cellAt hO' (i * 3 + j) (by omega), hfs, List.getElem?_append_right (by rw [hfl]; omega), hfl, Nat.add_sub_cancel_left]
    exact hj
  have hcpB : ∀ ty dc sc, (Builtin.copy_ #[37, 37] ty #[.slice (some ⟨w.heap.size, (i + 1) * 3, none⟩) (n - i) dc, .slice (some ⟨g, i * 3, none⟩) (n - i) sc]).run Try.prog W2.drew = .ok (goInt ((n - i : Nat) : Int)) W3 := fun ty dc sc => by
    have hmn : Nat.min (n - i) (n - i) = n - i := by simp only [Nat.min_def]; split <;> omega
    rw [run_copy_k W2.drew _ _ ty 40 w.heap.size ((i + 1) * 3) (n - i) dc ⟨g, i * 3, none⟩ (n - i) sc 3 (n - i) (encMark.flat (xs.drop i)) Try.underlying37 hs3 hmn hdl hsrc1 (fun j hj => hsome _ _ _ _ h1d _ (by rw [hdl] at hj; omega)) (fun j hj => World.ownsRow.frozenAt h1d _) (encMark.flat_one _), setCells_eq, hW3]
  clear hW1 hW2 hW3 hsrc1 hsome hsp hfs hfl hdl hB0 hB1 hB1d hB2 hv1 h0 h1 h1d hO' hZ hZl hzl hRs hROW hold hG hz hzc hkk
  have mixed : Try.prog.follows .mixedOrders = true := by kernel_rfl
  have hz5 : ¬ ((i : Int) = (n : Int)) := by omega
  have hz6 : ((i : Int) == (n : Int)) = false := by rw [beq_eq_false_iff_ne]; omega
  have hw1 : IntKind.i64.wrap ((i : Int) + 1) = (i : Int) + 1 := IntWalk.i64_in _ (by omega)
  have hw2 : IntKind.i64.wrap ((n : Int) + 1) = (n : Int) + 1 := IntWalk.i64_in _ (by omega)
  have hw3 : IntKind.i64.wrap ((n : Int) + 1 - (i : Int)) = (n : Int) + 1 - (i : Int) := IntWalk.i64_in _ (by omega)
  have hb0 : (cp : Int) < (n : Int) + 1 := by omega
  have hb1 : (0 : Int) ≤ (i : Int) + 1 := by omega
  have hb2 : (i : Int) + 1 ≤ (n : Int) + 1 := by omega
  have hb3 : (i : Int) ≤ (n : Int) + 1 := by omega
  have hb6 : i ≤ n := by omega
  have hb7 : (i : Int) ≤ (n : Int) := by omega
  have hb8 : (i : Int) ≤ (cp : Int) := by omega
  have ht1 : ((i : Int) + 1).toNat = i + 1 := by omega
  have hc1 : ¬ (cp = i) := by omega
  have hc2 : ¬ (G = i + 1) := by omega
  have hc3 : ¬ (G = i) := by omega
  go_enter Try.func53, Try.ntmps53
  go_wp2_with (first
    | (at_builtin; refine Lib.wpList_append_run _ rfl _ _ _ _ rfl _ _ rfl rfl _ _ (hrz _) ?_)
    | (at_builtin; refine wpList_copy_runI _ rfl _ _ 37 37 rfl _ _ rfl rfl (hcpA _ _) ?_))
  go_region_law_o (refine step_copy_runI rfl _ _ 37 37 rfl _ _ (by simp [Act.eval, Act.put]) (by simp [Act.eval, Act.put]) (hcpB _ _ _) ?_)
  go_wp2
  go_ret
  have e : (xs.take i ++ [x] ++ xs.drop i).length = n + 1 := by simp; omega
  exact ⟨w.heap.size, G, by rw [e]; rfl, SOwn.of_raw (E := encMark) (ys := xs.take i ++ [x] ++ xs.drop i) h2 rfl e, hB3⟩
/-- slices.Insert of one mark into a row of the call's own, at any place. -/
theorem ins_any (base g cp vb i : Nat) (xs : List VMark) (x : VMark) {n : Nat} (w : World) (hn : xs.length = n) (hi : i ≤ n) (hO : SOwn encMark w base 40 (some ⟨g, 0, none⟩) cp xs)
    (hv : w.heap[vb]? = some (.cells (encMark.enc x).toArray 40)) (hne : vb ≠ g) (hl : n ≤ 2000000) (hb : base ≤ w.heap.size) :
    Calls Try.prog 53 #[.slice (some ⟨g, 0, none⟩) n cp, .int .i64 i, .slice (some ⟨vb, 0, none⟩) 1 1] w (InsRet base g (xs.take i ++ [x] ++ xs.drop i) w) := by
  by_cases h1 : i = n
  · subst h1
    have e : xs.take i ++ [x] ++ xs.drop i = xs ++ [x] := by rw [← hn]; simp
    rw [e]
    exact insEnd_any base g cp vb xs x w hn hO hv hl hb
  · by_cases h2 : n + 1 ≤ cp
    · exact insMid_any base g cp vb i xs x w hn (by omega) h2 hO hv hne hl
    · exact insGrow_any base g cp vb i xs x w hn (by omega) (by omega) hO hv hl hb
end Go.Proofs.Ytidppabconifkab
