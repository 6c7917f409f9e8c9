/- Contracts of chapter 9: the table of lines, the model. -/
import Derived.RegionTactic
import Derived.Laws.AppendOwn
import Derived.Test.YtoklehmoeollfaaNf
import Derived.Test.YtoklehmoeollfaaNd
namespace Go.Proofs.Ytoklehmoeollfaa
open Go Go.ChangeShapes Go.WideShapes Go.ChangeAt Go.RowKit
set_option linter.unusedSimpArgs false
set_option linter.unusedVariables false

/-- The table so far: rows behind x are ready, and the first places of the row x. -/
structure RM (fs : List Int) (N n : Nat) (R : Nat → Nat → Int) (x l : Nat) (p : Int) : Prop where
  up : ∀ i q : Nat, x < i → i < N → q < n → R i q = moI9 fs (i : Int) q
  done : ∀ q, q < l → R x q = moI9 fs (x : Int) q
  cur : l < n → R x l = p
  rest : ∀ q, l < q → q < n → R x q = 0
  low : ∀ i q : Nat, i < x → q < n → R i q = 0
section
variable {fs : List Int} {N n x l : Nat} {R : Nat → Nat → Int} {p : Int}
theorem RM.start (hN : 1 ≤ N) : RM fs N n (fun _ _ => 0) (N - 1) 0 0 := ⟨fun i q a b c => by omega, fun q a => by omega, fun _ => rfl, fun _ _ _ => rfl, fun _ _ _ _ => rfl⟩
theorem RM.put (h : RM fs N n R x l p) (v : Int) : RM fs N n (updR R x l v) x l v := by
  refine ⟨fun i q a b c => ?_, fun q a => ?_, fun _ => by unfold updR; simp, fun q a b => ?_, fun i q a b => ?_⟩
  · unfold updR; rw [if_neg (by omega)]; exact h.up i q a b c
  · unfold updR; rw [if_neg (by omega)]; exact h.done q a
  · unfold updR; rw [if_neg (by omega)]; exact h.rest q a b
  · unfold updR; rw [if_neg (by omega)]; exact h.low i q a b
theorem RM.nextl (h : RM fs N n R x l p) (hl : l < n) (hp : p = moI9 fs (x : Int) l) : RM fs N n R x (l + 1) 0 := by
  refine ⟨h.up, fun q a => ?_, fun a => h.rest (l + 1) (by omega) a, fun q a b => h.rest q (by omega) b, h.low⟩
  by_cases c : q = l
  · subst c; rw [h.cur hl, hp]
  · exact h.done q (by omega)
theorem RM.nextx (h : RM fs N n R x n p) (hx : 0 < x) : RM fs N n R (x - 1) 0 0 := by
  refine ⟨fun i q a b c => ?_, fun q a => by omega, fun a => h.low _ _ (by omega) a, fun q a b => h.low _ _ (by omega) b, fun i q a b => h.low i q (by omega) b⟩
  by_cases d : i = x
  · subst d; exact h.done q c
  · exact h.up i q (by omega) b c
end
/-- What a place of the table holds behind some of the next plants. -/
def pmI9 (fs : List Int) (x l j : Nat) : Int := (if (x : Int) = alI fs.length then 1 else 0) + smK (moT fs (x : Int) l) j
theorem moT_bd (fs : List Int) (x : Int) (l q : Nat) : 0 ≤ moT fs x l q ∧ moT fs x l q ≤ 279936 := by
  unfold moT moI9; split
  · exact ⟨lB_nn _ _, lB_le _ _⟩
  · omega
theorem smT_bd (fs : List Int) (x : Int) (l : Nat) : ∀ j : Nat, 0 ≤ smK (moT fs x l) j ∧ smK (moT fs x l) j ≤ 279936 * j
  | 0 => by simp [smK]
  | j + 1 => by have := smT_bd fs x l j; have := moT_bd fs x l j; rw [smK]; omega
theorem pm_bd (fs : List Int) (x l : Nat) {j : Nat} (hj : j ≤ 6) : 0 ≤ pmI9 fs x l j ∧ pmI9 fs x l j ≤ 2000000 := by
  have := smT_bd fs (x : Int) l j
  unfold pmI9; split <;> omega
theorem pm_end {fs : List Int} {x : Nat} (h6 : fs.length ≤ 6) (l : Nat) (hx : (x : Int) ≤ alI fs.length) : pmI9 fs x l fs.length = moI9 fs (x : Int) l := by
  unfold pmI9
  by_cases c : (x : Int) = alI fs.length
  · rw [if_pos c, c, moI9_full]
    have : ∀ j, j ≤ fs.length → smK (moT fs (alI fs.length) l) j = 0 := fun j hj => by
      induction j with
      | zero => rfl
      | succ j ih => rw [smK, ih (by omega), moT_full h6 l (by omega)]; omega
    rw [this _ (Nat.le_refl _)]; omega
  · rw [if_neg c, moT_sum h6 (by omega) (by omega)]; omega
theorem pm_skip {fs : List Int} {x l j : Nat} (h : moT fs (x : Int) l j = 0) : pmI9 fs x l (j + 1) = pmI9 fs x l j := by unfold pmI9; rw [smK, h]; omega
theorem pm_more {fs : List Int} {x l j : Nat} {m : Int} (h : moT fs (x : Int) l j = m) : pmI9 fs x l (j + 1) = pmI9 fs x l j + m := by unfold pmI9; rw [smK, h]; omega
def TabM (fs : List Int) (N n : Nat) (w : World) (E : Ending) (w' : World) : Prop := ∃ (b cap : Nat) (hs : List Nat) (R : Nat → Nat → Int), E = .returned (.slice (some ⟨b, 0, none⟩) N cap) ∧ hs.length = N ∧ NT w' w.heap.size (some ⟨b, 0, none⟩) cap n hs R ∧ (∀ i q : Nat, 0 < i → i < N → q < n → R i q = moI9 fs (i : Int) q) ∧ Below w.heap.size w w'
theorem first_int {a b : Int} (h : a = b) : Value.int .i64 a = .int .i64 b := by rw [h]
set_option maxRecDepth 100000 in
set_option maxHeartbeats 8000000 in
theorem sLt_is (A : Option Addr) (cap : Nat) (fs : List Int) {n : Nat} (w : World) (hn : fs.length = n) (h : SRow encNum w A fs) (h6 : n ≤ 6) (hf : frB fs = true) {N : Nat} (hN : 2 ^ n = N) :
    Calls Try.prog 56 #[.slice A n cap] w fun E w' => TabM fs N n w E w' := by
  obtain ⟨hpow, hN64, hN1, halN⟩ := two_N ⟨n, by omega⟩
  simp only at hpow hN64 hN1 halN
  have HFR : Hid (∀ a, a < n → FrAt fs fs.length a) := Lib.hid (fun a ha => (frB_iff.1 hf).2 a (by omega))
  have HPE : Hid (∀ x l : Nat, (x : Int) ≤ alI n → pmI9 fs x l n = moI9 fs (x : Int) l) := Lib.hid (fun x l hx => by have := pm_end (fs := fs) (x := x) (by omega) l (by rw [hn]; exact hx); rwa [hn] at this)
  have HAI : Hid (alI fs.length = alI n) := Lib.hid (by rw [hn])
  have HN := Lib.hid hn
  have hwp : wrap64 ((2 : Int) ^ n) = ((2 ^ n : Nat) : Int) := by rw [hpow]; exact IntWalk.wrap64_in _ (by omega)
  clear hf hn hpow
  rw [hN] at hN64 hN1 hwp halN
  have HAL := Lib.hid halN
  clear hN halN
  have hni : (n : Int) ≤ 64 := by omega
  obtain ⟨i0, hi0, hz0, hz1, hz2⟩ := info_parts infoHd
  have HI := Lib.hid (And.intro hi0 (And.intro hz0 (And.intro hz1 hz2)))
  clear hi0 hz0 hz1 hz2
  obtain ⟨j0, hj0, hy0, hy1, hy2⟩ := info_parts infoNum
  have hbn : j0.bytes * n ≤ 281474976710656 := by rw [hy2]; omega
  have HJ := Lib.hid (And.intro hj0 (And.intro hy0 (And.intro hy1 hbn)))
  clear hj0 hy0 hy1 hy2 hbn
  go_enter Try.func56, Try.ntmps56
  go_wp2_with fail
  go_loopw [4, 5] (fun tv iv wr => ∃ (k cp : Nat) (V : Option Addr) (hs : List Nat), k ≤ N ∧ iv = .int .i64 k ∧ tv = .slice V k cp ∧ Hid (hs.length = k) ∧ (k = 0 ∨ ∃ b0, V = some ⟨b0, 0, none⟩) ∧ NT wr w.heap.size V cp n hs (fun _ _ => 0) ∧ Below w.heap.size w wr) (fun _ iv _ => (N - intOf iv).toNat)
  case atStart => exact ⟨0, 0, _, [], by omega, rfl, rfl, (by show _ = _; rfl), Or.inl rfl, NT.nil (blk_new w _) (Nat.le_refl _), bel1 _ _⟩
  case round =>
    obtain ⟨k, cp, V, hs, k1, rfl, rfl, HM, hV, hNT, hB⟩ := hrel
    have HV := Lib.hid hV
    clear hV
    by_cases hlt : k < N
    · have hki : (k : Int) < (N : Int) := by omega
      have hcp0 := hB.size
      go_wp2_with (first | (at_make; refine wpList_make_structs _ encNum (0 : Int) rfl _ _ 29 rfl 3 j0 _ Try.underlying29 HJ.out.1 HJ.out.2.1 HJ.out.2.2.1 rfl .i64 .i64 n rfl rfl HJ.out.2.2.2 (by omega) ?_; (have hb1 : SBlk encNum (wr.alloc (.cells (encNum.flat (List.replicate n (0 : Int))).toArray 3)) wr.heap.size 3 (List.replicate n (0 : Int)) := blk_new wr _); (have hNT1 := hNT.next (bel1 wr (.cells (encNum.flat (List.replicate n (0 : Int))).toArray 3))); (have hB1 := hB.alloc hB.size (.cells (encNum.flat (List.replicate n (0 : Int))).toArray 3)); (have HFG : Hid (∀ i (h : i < hs.length), hs[i] < wr.heap.size) := Lib.hid (fun i hi => hNT.lt hi)); (clear hNT hB); (have hz1 : (wr.alloc (.cells (encNum.flat (List.replicate n (0 : Int))).toArray 3)).heap.size = wr.heap.size + 1 := by simp); (generalize wr.alloc (.cells (encNum.flat (List.replicate n (0 : Int))).toArray 3) = w1 at hb1 hNT1 hB1 hz1 ⊢); (generalize wr.heap.size = g at hb1 HFG hcp0 hz1 ⊢); (have HZ1 := Lib.hid hz1); (clear hz1); (have hOa := hNT1.hd.alloc (.cells ((encHd n).enc g).toArray 29)); (have hNTa := hNT1.next (bel1 w1 (.cells ((encHd n).enc g).toArray 29))); (have hba := hb1.next (bel1 w1 (.cells ((encHd n).enc g).toArray 29))); (have hcp := hB1.size)) | (at_builtin; refine wpList_append_lies _ rfl (.tmp 18) (.tmp 21) _ rfl w.heap.size 29 i0 _ 1 24 Try.underlying23 HI.out.1 HI.out.2.1 HI.out.2.2.1 HI.out.2.2.2 rfl (by omega) (.slice V k cp) k ((encHd n).flat hs) rfl (by unfold SOwn at hOa; rw [HM.out] at hOa; exact hOa) ⟨w1.heap.size, 0, none⟩ 1 1 ((encHd n).enc g) rfl rfl (new_enc (E := encHd n) w1 g _) ((encHd n).one _) (by omega) (by simp only [maxLen]; omega) (by omega) (by simp; omega) _ rfl ?_; intro g5 cap5 w5 hown5 hgr5 hat5 hlt5))
      have hB5 := SOwn.below_grown (n := k) hOa (hB1.alloc hB1.size _) hgr5
      have hsn := SOwn.snoc (E := encHd n) (xs := hs) (x := g) (by rw [HM.out]; exact hown5)
      have hNT5 := hNTa.snoc hba (by unfold markS; exact (List.eq_replicate_iff.2 ⟨by simp, by simp⟩).symm) HFG.out hcp0 hsn (by rw [HM.out]; exact hgr5)
      go_wp2_with fail
      go_roundw
      case rel => exact ⟨k + 1, cap5, some ⟨g5, 0, none⟩, hs ++ [g], by omega, by go_num, rfl, Lib.hid (by rw [List.length_append, HM.out]; rfl), Or.inr ⟨g5, rfl⟩, hNT5, hB5⟩
      case measure => simp [intOf]; omega
    · obtain rfl : k = N := by omega
      have hki : ¬ (k : Int) < (k : Int) := by omega
      obtain ⟨b0, rfl⟩ : ∃ b0, V = some ⟨b0, 0, none⟩ := by rcases HV.out with e | e; omega; exact e
      clear HV
      have hst := RM.start (fs := fs) (n := n) hN1
      have HR0 := Lib.hid hst
      clear hst
      go_wp2_with fail
      go_loopw [6] (fun xv wr => ∃ (x : Nat) (R : Nat → Nat → Int), xv = .int .i64 x ∧ x < k ∧ Hid (RM fs k n R x 0 0) ∧ NT wr w.heap.size (some ⟨b0, 0, none⟩) cp n hs R ∧ Below w.heap.size w wr) (fun xv _ => (intOf xv).toNat)
      case atStart => exact ⟨k - 1, _, first_int (by omega), by omega, HR0, hNT, hB⟩
      case round =>
        clear hNT hB HR0
        obtain ⟨x, R, rfl, hx, HR, hNT, hB⟩ := hrel
        by_cases hx0 : 0 < x
        · have hx0i : (0 : Int) < (x : Int) := by omega
          have hxk : x < hs.length := by rw [HM.out]; exact hx
          have hxa : (x : Int) ≤ alI n := by have := HAL.out; omega
          go_wp2_with fail
          go_loopw [7] (fun lv wr => ∃ (l : Nat) (R : Nat → Nat → Int), lv = .int .i64 l ∧ l ≤ n ∧ Hid (RM fs k n R x l 0) ∧ NT wr w.heap.size (some ⟨b0, 0, none⟩) cp n hs R ∧ Below w.heap.size w wr) (fun lv _ => (n - intOf lv).toNat)
          case atStart => exact ⟨0, R, rfl, by omega, HR, hNT, hB⟩
          case round =>
            clear HR hNT hB
            clear R
            obtain ⟨l, R, rfl, l1, HR, hNT, hB⟩ := hrel
            by_cases hl : l < n
            · have hli : (l : Int) < (n : Int) := by omega
              by_cases hfull : x = k - 1
              · have hfd : ((x : Int) == (k : Int) - 1) = true := by rw [beq_iff_eq]; omega
                have HFu := Lib.hid hfull
                clear hfull
                have hhd := hNT.head hxk
                have hnm := hNT.num hxk hl
                have hfz := hNT.frz hxk l
                have HR1 : Hid (RM fs k n (updR R x l 1) x l (pmI9 fs x l 0)) := Lib.hid (by have := HR.out.put 1; rwa [show pmI9 fs x l 0 = 1 by unfold pmI9; rw [if_pos (by have := HFu.out; rw [HAI.out, HAL.out]; omega)]; rfl])
                have hset := hNT.set hxk hl 1
                have hsetB := hNT.setBel hB l hxk (.int .i64 1)
                generalize hs[x] = gx at hhd hnm hfz hset hsetB
                have hxki : (x : Int) < (k : Int) := by omega
                go_wp2_with fail
                go_loopw [8] (fun jv wr => ∃ (j : Nat) (R : Nat → Nat → Int), jv = .int .i64 j ∧ j ≤ n ∧ Hid (RM fs k n R x l (pmI9 fs x l j)) ∧ NT wr w.heap.size (some ⟨b0, 0, none⟩) cp n hs R ∧ Below w.heap.size w wr) (fun jv _ => (n - intOf jv).toNat)
                case atStart => exact ⟨0, _, rfl, by omega, HR1, hset, hsetB⟩
                case round =>
                  clear HR1
                  clear hNT hB HR
                  obtain ⟨j, R2, rfl, j1, HR, hNT, hB⟩ := hrel
                  by_cases hj : j < n
                  · have hji : (j : Int) < (n : Int) := by omega
                    have hj6 : j < 6 := by omega
                    have hj64 : (j : Int) ≤ 64 := by omega
                    obtain ⟨b, off, rfl, hb_, c0⟩ := rowNum (h.next hB) (i := l) (by rw [HN.out]; exact hl)
                    have HGF : Hid (fs.getD l 0 = fs[l]'(by rw [HN.out]; exact hl)) := Lib.hid (by simp [show l < fs.length by rw [HN.out]; exact hl])
                    have hF0 := (HFR.out l hl).1
                    rw [HGF.out] at hF0
                    generalize fs[l]'(by rw [HN.out]; exact hl) = F at c0 HGF hF0
                    have hMT : Hid (moT fs (x : Int) l j = if isB (x : Int) j = false ∧ isB F j = true then moI9 fs ((x : Int) + 2 ^ j) j else 0) := Lib.hid (by unfold moT; rw [HGF.out])
                    obtain ⟨v, hv⟩ : ∃ v, isB (x : Int) j = v := ⟨_, rfl⟩
                    have HV := Lib.hid hv
                    clear hv
                    have hx00 : (0 : Int) ≤ (x : Int) := by omega
                    cases v
                    · obtain ⟨u, hu⟩ : ∃ u, isB F j = u := ⟨_, rfl⟩
                      have HU := Lib.hid hu
                      clear hu
                      cases u
                      · have HR2 : Hid (RM fs k n R2 x l (pmI9 fs x l (j + 1))) := Lib.hid (by rw [pm_skip (by rw [hMT.out]; rw [HU.out]; simp)]; exact HR.out)
                        clear HR
                        have y_HV : ((x : Int) / 2 ^ j).tmod 2 = 0 := (isB_tmod hx00).trans (isB_no HV.out)
                        have y_HU : (F / 2 ^ j).tmod 2 = 0 := (isB_tmod hF0).trans (isB_no HU.out)
                        go_wp2_with fail
                        go_roundw
                        case rel => exact ⟨j + 1, R2, by go_num, by omega, HR2, hNT, hB⟩
                        case measure => simp [intOf]; omega
                      · have hmo := al_more (n := n) (q := j) (x := (x : Int)) h6 hx00 hxa hj HV.out
                        obtain ⟨y, hy⟩ : ∃ y : Nat, (x : Int) + 2 ^ j = (y : Int) := ⟨((x : Int) + 2 ^ j).toNat, by have := two_bd (n := j) (by omega); omega⟩
                        have hyk : y < k := by have := HAL.out; have := hmo.1; omega
                        have hxy : x < y := by have := (two_bd (n := j) (by omega)).1; omega
                        have hyl : y < hs.length := by rw [HM.out]; exact hyk
                        have hH1 := hNT.head hxk
                        have hH2 := hNT.head hyl
                        have hN1_ := hNT.num hxk hl
                        have hN2_ := hNT.num hyl hj
                        have hfz := hNT.frz hxk l
                        rw [HR.out.cur hl] at hN1_
                        rw [HR.out.up y j hxy hyk hj] at hN2_
                        have hm1 : moT fs (x : Int) l j = moI9 fs (y : Int) j := by rw [hMT.out, if_pos ⟨HV.out, HU.out⟩, hy]
                        have hb1 := pm_bd fs x l (j := j) (by omega)
                        have hb2 : 0 ≤ moI9 fs (y : Int) j ∧ moI9 fs (y : Int) j ≤ 279936 := ⟨lB_nn _ _, lB_le _ _⟩
                        have hset := hNT.drew.set hxk hl (pmI9 fs x l j + moI9 fs (y : Int) j)
                        have hsetB := hNT.drew.setBel hB.drew l hxk (.int .i64 (pmI9 fs x l j + moI9 fs (y : Int) j))
                        have hbk := hNT.low x hxk
                        have hp9 := HR.out.put (pmI9 fs x l j + moI9 fs (y : Int) j)
                        have HR2 := Lib.hid hp9
                        have HPM := Lib.hid (pm_more hm1)
                        clear hp9 hm1 hMT HR
                        generalize hs[x] = gx at hH1 hN1_ hfz hset hsetB hbk
                        generalize hs[y] = gy at hH2 hN2_
                        generalize pmI9 fs x l j = pa at hN1_ hb1 HPM HR2 hset hsetB
                        generalize moI9 fs (y : Int) j = pb at hN2_ hb2 HPM HR2 hset hsetB
                        obtain ⟨p0, p1⟩ := hb1
                        obtain ⟨q0, q1⟩ := hb2
                        have HR3 : Hid (RM fs k n (updR R2 x l (pa + pb)) x l (pmI9 fs x l (j + 1))) := Lib.hid (by rw [HPM.out]; exact HR2.out)
                        clear HR2 HPM
                        have HR2 := HR3
                        clear HR3
                        have hyki : (y : Int) < (k : Int) := by omega
                        have hxki : (x : Int) < (k : Int) := by omega
                        have hli : (l : Int) < (n : Int) := by omega
                        have y_HV : ((x : Int) / 2 ^ j).tmod 2 = 0 := (isB_tmod hx00).trans (isB_no HV.out)
                        have y_HU : (F / 2 ^ j).tmod 2 = 1 := (isB_tmod hF0).trans (isB_yes HU.out)
                        go_wp2_with fail
                        clear y_HV y_HU
                        have z1 : IntKind.i64.wrap ((2 : Int) ^ j) = 2 ^ j := two_w (by omega)
                        have z2 : (x : Int) + 2 ^ j = (y : Int) := hy
                        have z3 : IntKind.i64.wrap (y : Int) = (y : Int) := IntWalk.i64_in _ (by omega)
                        clear hy hmo
                        go_region
                        clear z1 z2 z3
                        go_wp2_with fail
                        go_roundw
                        case rel => exact ⟨j + 1, _, by go_num, by omega, HR2, hset, hsetB⟩
                        case measure => simp [intOf]; omega
                    · have HR2 : Hid (RM fs k n R2 x l (pmI9 fs x l (j + 1))) := Lib.hid (by rw [pm_skip (by rw [hMT.out]; rw [HV.out]; simp)]; exact HR.out)
                      clear HR
                      have y_HV : ((x : Int) / 2 ^ j).tmod 2 = 1 := (isB_tmod hx00).trans (isB_yes HV.out)
                      go_wp2_with fail
                      go_roundw
                      case rel => exact ⟨j + 1, R2, by go_num, by omega, HR2, hNT, hB⟩
                      case measure => simp [intOf]; omega
                  · have hji : ¬ (j : Int) < (n : Int) := by omega
                    obtain rfl : j = n := by omega
                    have HR2 : Hid (RM fs k j R2 x (l + 1) 0) := Lib.hid (HR.out.nextl hl (HPE.out x l hxa))
                    clear HR
                    go_wp2_with fail
                    go_roundw
                    case rel => exact ⟨l + 1, R2, by go_num, by omega, HR2, hNT, hB⟩
                    case measure => simp [intOf]; omega
              · have hfd : ((x : Int) == (k : Int) - 1) = false := by rw [beq_eq_false_iff_ne]; omega
                have HFu := Lib.hid hfull
                clear hfull
                have HR1 : Hid (RM fs k n R x l (pmI9 fs x l 0)) := Lib.hid (by have := HR.out; rwa [show pmI9 fs x l 0 = 0 by unfold pmI9; rw [if_neg (by have := HFu.out; rw [HAI.out, HAL.out]; omega)]; rfl])
                go_wp2_with fail
                go_loopw [8] (fun jv wr => ∃ (j : Nat) (R : Nat → Nat → Int), jv = .int .i64 j ∧ j ≤ n ∧ Hid (RM fs k n R x l (pmI9 fs x l j)) ∧ NT wr w.heap.size (some ⟨b0, 0, none⟩) cp n hs R ∧ Below w.heap.size w wr) (fun jv _ => (n - intOf jv).toNat)
                case atStart => exact ⟨0, _, rfl, by omega, HR1, hNT, hB⟩
                case round =>
                  clear HR1
                  clear hNT hB HR
                  obtain ⟨j, R2, rfl, j1, HR, hNT, hB⟩ := hrel
                  by_cases hj : j < n
                  · have hji : (j : Int) < (n : Int) := by omega
                    have hj6 : j < 6 := by omega
                    have hj64 : (j : Int) ≤ 64 := by omega
                    obtain ⟨b, off, rfl, hb_, c0⟩ := rowNum (h.next hB) (i := l) (by rw [HN.out]; exact hl)
                    have HGF : Hid (fs.getD l 0 = fs[l]'(by rw [HN.out]; exact hl)) := Lib.hid (by simp [show l < fs.length by rw [HN.out]; exact hl])
                    have hF0 := (HFR.out l hl).1
                    rw [HGF.out] at hF0
                    generalize fs[l]'(by rw [HN.out]; exact hl) = F at c0 HGF hF0
                    have hMT : Hid (moT fs (x : Int) l j = if isB (x : Int) j = false ∧ isB F j = true then moI9 fs ((x : Int) + 2 ^ j) j else 0) := Lib.hid (by unfold moT; rw [HGF.out])
                    obtain ⟨v, hv⟩ : ∃ v, isB (x : Int) j = v := ⟨_, rfl⟩
                    have HV := Lib.hid hv
                    clear hv
                    have hx00 : (0 : Int) ≤ (x : Int) := by omega
                    cases v
                    · obtain ⟨u, hu⟩ : ∃ u, isB F j = u := ⟨_, rfl⟩
                      have HU := Lib.hid hu
                      clear hu
                      cases u
                      · have HR2 : Hid (RM fs k n R2 x l (pmI9 fs x l (j + 1))) := Lib.hid (by rw [pm_skip (by rw [hMT.out]; rw [HU.out]; simp)]; exact HR.out)
                        clear HR
                        have y_HV : ((x : Int) / 2 ^ j).tmod 2 = 0 := (isB_tmod hx00).trans (isB_no HV.out)
                        have y_HU : (F / 2 ^ j).tmod 2 = 0 := (isB_tmod hF0).trans (isB_no HU.out)
                        go_wp2_with fail
                        go_roundw
                        case rel => exact ⟨j + 1, R2, by go_num, by omega, HR2, hNT, hB⟩
                        case measure => simp [intOf]; omega
                      · have hmo := al_more (n := n) (q := j) (x := (x : Int)) h6 hx00 hxa hj HV.out
                        obtain ⟨y, hy⟩ : ∃ y : Nat, (x : Int) + 2 ^ j = (y : Int) := ⟨((x : Int) + 2 ^ j).toNat, by have := two_bd (n := j) (by omega); omega⟩
                        have hyk : y < k := by have := HAL.out; have := hmo.1; omega
                        have hxy : x < y := by have := (two_bd (n := j) (by omega)).1; omega
                        have hyl : y < hs.length := by rw [HM.out]; exact hyk
                        have hH1 := hNT.head hxk
                        have hH2 := hNT.head hyl
                        have hN1_ := hNT.num hxk hl
                        have hN2_ := hNT.num hyl hj
                        have hfz := hNT.frz hxk l
                        rw [HR.out.cur hl] at hN1_
                        rw [HR.out.up y j hxy hyk hj] at hN2_
                        have hm1 : moT fs (x : Int) l j = moI9 fs (y : Int) j := by rw [hMT.out, if_pos ⟨HV.out, HU.out⟩, hy]
                        have hb1 := pm_bd fs x l (j := j) (by omega)
                        have hb2 : 0 ≤ moI9 fs (y : Int) j ∧ moI9 fs (y : Int) j ≤ 279936 := ⟨lB_nn _ _, lB_le _ _⟩
                        have hset := hNT.drew.set hxk hl (pmI9 fs x l j + moI9 fs (y : Int) j)
                        have hsetB := hNT.drew.setBel hB.drew l hxk (.int .i64 (pmI9 fs x l j + moI9 fs (y : Int) j))
                        have hbk := hNT.low x hxk
                        have hp9 := HR.out.put (pmI9 fs x l j + moI9 fs (y : Int) j)
                        have HR2 := Lib.hid hp9
                        have HPM := Lib.hid (pm_more hm1)
                        clear hp9 hm1 hMT HR
                        generalize hs[x] = gx at hH1 hN1_ hfz hset hsetB hbk
                        generalize hs[y] = gy at hH2 hN2_
                        generalize pmI9 fs x l j = pa at hN1_ hb1 HPM HR2 hset hsetB
                        generalize moI9 fs (y : Int) j = pb at hN2_ hb2 HPM HR2 hset hsetB
                        obtain ⟨p0, p1⟩ := hb1
                        obtain ⟨q0, q1⟩ := hb2
                        have HR3 : Hid (RM fs k n (updR R2 x l (pa + pb)) x l (pmI9 fs x l (j + 1))) := Lib.hid (by rw [HPM.out]; exact HR2.out)
                        clear HR2 HPM
                        have HR2 := HR3
                        clear HR3
                        have hyki : (y : Int) < (k : Int) := by omega
                        have hxki : (x : Int) < (k : Int) := by omega
                        have hli : (l : Int) < (n : Int) := by omega
                        have y_HV : ((x : Int) / 2 ^ j).tmod 2 = 0 := (isB_tmod hx00).trans (isB_no HV.out)
                        have y_HU : (F / 2 ^ j).tmod 2 = 1 := (isB_tmod hF0).trans (isB_yes HU.out)
                        go_wp2_with fail
                        clear y_HV y_HU
                        have z1 : IntKind.i64.wrap ((2 : Int) ^ j) = 2 ^ j := two_w (by omega)
                        have z2 : (x : Int) + 2 ^ j = (y : Int) := hy
                        have z3 : IntKind.i64.wrap (y : Int) = (y : Int) := IntWalk.i64_in _ (by omega)
                        clear hy hmo
                        go_region
                        clear z1 z2 z3
                        go_wp2_with fail
                        go_roundw
                        case rel => exact ⟨j + 1, _, by go_num, by omega, HR2, hset, hsetB⟩
                        case measure => simp [intOf]; omega
                    · have HR2 : Hid (RM fs k n R2 x l (pmI9 fs x l (j + 1))) := Lib.hid (by rw [pm_skip (by rw [hMT.out]; rw [HV.out]; simp)]; exact HR.out)
                      clear HR
                      have y_HV : ((x : Int) / 2 ^ j).tmod 2 = 1 := (isB_tmod hx00).trans (isB_yes HV.out)
                      go_wp2_with fail
                      go_roundw
                      case rel => exact ⟨j + 1, R2, by go_num, by omega, HR2, hNT, hB⟩
                      case measure => simp [intOf]; omega
                  · have hji : ¬ (j : Int) < (n : Int) := by omega
                    obtain rfl : j = n := by omega
                    have HR2 : Hid (RM fs k j R2 x (l + 1) 0) := Lib.hid (HR.out.nextl hl (HPE.out x l hxa))
                    clear HR
                    go_wp2_with fail
                    go_roundw
                    case rel => exact ⟨l + 1, R2, by go_num, by omega, HR2, hNT, hB⟩
                    case measure => simp [intOf]; omega
            · have hli : ¬ (l : Int) < (n : Int) := by omega
              obtain rfl : l = n := by omega
              have HR2 : Hid (RM fs k l R (x - 1) 0 0) := Lib.hid (HR.out.nextx hx0)
              clear HR
              have hxm : (x : Int) - 1 = ((x - 1 : Nat) : Int) := by omega
              go_wp2_with fail
              go_roundw
              case rel => exact ⟨x - 1, R, by first | rfl | rw [hxm], by omega, HR2, hNT, hB⟩
              case measure => simp [intOf]; omega
        · have hx0i : ¬ (0 : Int) < (x : Int) := by omega
          obtain rfl : x = 0 := by omega
          go_wp2_with fail
          go_ret
          exact ⟨b0, cp, hs, R, rfl, HM.out, hNT, fun i q a b c => HR.out.up i q a b c, hB⟩
end Go.Proofs.Ytoklehmoeollfaa
