/- Contracts of chapter 9: RotaTurn. -/
import Derived.Laws.AppendOwn
import Derived.Test.YtoklehmoeollfaaNo
import Derived.Test.YtoklehmoeollfaaQf
namespace Go.Proofs.Ytoklehmoeollfaa
open Go Go.ChangeShapes Go.WideShapes Go.ChangeAt Go.RowKit
set_option linter.unusedSimpArgs false
set_option linter.unusedVariables false

/-- The first beds of a year. -/
def rtP (F k b : Nat) : List Int := (List.range b).map (fun j : Nat => ((j : Int) + k) % F)
/-- The plan so far. -/
def rsQ (Y F k b : Nat) : List (List Int) := (List.range Y).map (fun y => if y < k then rtP F y F else if y = k then rtP F k b else [])
def rtL (Y F : Nat) : List (List Int) := (List.range Y).map (fun y => rtP F y F)
def rtI (y f : Int) : List (List Int) := if inV y 1 8 = true ∧ inV f 1 6 = true then rtL y.toNat f.toNat else []
theorem rtP_len (F k b : Nat) : (rtP F k b).length = b := by simp [rtP]
theorem rtP_snoc (F k b : Nat) : rtP F k (b + 1) = rtP F k b ++ [((b : Int) + k) % F] := by simp [rtP, List.range_succ]
theorem rsQ_len (Y F k b : Nat) : (rsQ Y F k b).length = Y := by simp [rsQ]
theorem rtL_len (Y F : Nat) : (rtL Y F).length = Y := by simp [rtL]
theorem rsQ_at {Y F k b : Nat} (h : k < (rsQ Y F k b).length) : (rsQ Y F k b)[k] = rtP F k b := by simp [rsQ]
theorem rsQ_set {Y F k b : Nat} (hk : k < Y) : (rsQ Y F k b).set k (rtP F k (b + 1)) = rsQ Y F k (b + 1) := by
  refine List.ext_getElem (by simp [rsQ]) (fun i h1 h2 => ?_)
  simp only [rsQ, List.getElem_set, List.getElem_map, List.getElem_range]
  by_cases c : k = i
  · subst c; simp
  · rw [if_neg c]
    by_cases d : i < k
    · simp [d]
    · simp [d, show ¬ i = k from fun x => c x.symm]
theorem rsQ_zero (Y F : Nat) : rsQ Y F 0 0 = List.replicate Y [] := by
  refine List.ext_getElem (by simp [rsQ]) (fun i h1 h2 => ?_)
  simp [rsQ, rtP]
theorem rsQ_next (Y F k : Nat) : rsQ Y F k F = rsQ Y F (k + 1) 0 := by
  refine List.map_congr_left (fun y _ => ?_)
  by_cases c : y < k
  · rw [if_pos c, if_pos (by omega)]
  · rw [if_neg c]
    by_cases d : y = k
    · subst d; rw [if_pos rfl, if_pos (by omega)]
    · rw [if_neg d, if_neg (by omega)]
      by_cases e : y = k + 1
      · rw [if_pos e]; rfl
      · rw [if_neg e]
theorem rsQ_all (Y F : Nat) : rsQ Y F Y 0 = rtL Y F := List.map_congr_left (fun y hy => if_pos (List.mem_range.1 hy))
theorem rtL_snoc (k F : Nat) : rtL (k + 1) F = rtL k F ++ [rtP F k F] := by simp [rtL, List.range_succ]
theorem own_some {α : Type} {E : Enc α} {w : World} {base cap : Nat} {T : TypeId} {V : Option Addr} {xs : List α} (h : SOwn E w base T V cap xs) (h0 : 0 < xs.length) : ∃ g, V = some ⟨g, 0, none⟩ := by
  rcases h.form with ⟨_, e, _⟩ | ⟨g, e, _⟩
  · rw [e] at h0; simp at h0
  · exact ⟨g, e⟩
def RtRet (rows : List (List Int)) (w : World) (e : Ending) (w' : World) : Prop := ∃ (A : Option Addr) (cap : Nat) (hs : List VH), e = .returned (.slice A rows.length cap) ∧ NO w' w.heap.size A cap hs rows ∧ Below w.heap.size w w'
theorem ret_sl9 {A : Option Addr} {n m c : Nat} (h : n = m) : Ending.returned (.slice A n c) = .returned (.slice A m c) := by rw [h]
theorem rtI_yes {Y F : Nat} (h1 : inV (Y : Int) 1 8 = true) (h2 : inV (F : Int) 1 6 = true) : rtI Y F = rtL Y F := by unfold rtI; rw [if_pos ⟨h1, h2⟩]; rfl
theorem rtI_no1 {y f : Int} (h : inV y 1 8 = false) : rtI y f = [] := by unfold rtI; rw [if_neg (by rw [h]; simp)]
theorem rtI_no2 {y f : Int} (h : inV f 1 6 = false) : rtI y f = [] := by unfold rtI; rw [if_neg (by rw [h]; simp)]
set_option maxRecDepth 100000 in
set_option maxHeartbeats 4000000 in
theorem iRt_any (y f : Int) (w : World) :
    Calls Try.prog 18 #[.int .i64 y, .int .i64 f] w fun E w' => RtRet (rtI y f) w E w' := by
  cases h1 : inV y 1 8
  · rw [rtI_no1 h1]
    have H1 := Lib.hid h1
    clear h1
    go_enter Try.func18, Try.ntmps18
    go_wp2_with fail
    refine (iIn7_is _ H1.out).mono ?_; rintro E w' ⟨rfl, rfl⟩
    go_wp2
    go_ret
    exact ⟨none, 0, [], rfl, NO.void, Below.refl _ _⟩
  · cases h2 : inV f 1 6
    · rw [rtI_no2 h2]
      have H1 := Lib.hid h1
      have H2 := Lib.hid h2
      clear h1 h2
      go_enter Try.func18, Try.ntmps18
      go_wp2_with fail
      refine (iIn7_is _ H1.out).mono ?_; rintro E w' ⟨rfl, rfl⟩
      go_wp2_with fail
      refine (iIn7_is _ H2.out).mono ?_; rintro E w' ⟨rfl, rfl⟩
      go_wp2
      go_ret
      exact ⟨none, 0, [], rfl, NO.void, Below.refl _ _⟩
    · obtain ⟨y0, y1⟩ := inV_iff.1 h1
      obtain ⟨f0, f1⟩ := inV_iff.1 h2
      obtain ⟨Y, rfl⟩ : ∃ Y : Nat, y = Y := ⟨y.toNat, by omega⟩
      obtain ⟨F, rfl⟩ : ∃ F : Nat, f = F := ⟨f.toNat, by omega⟩
      rw [rtI_yes h1 h2]
      have H1 := Lib.hid h1
      have H2 := Lib.hid h2
      clear h1 h2
      have hY8 : Y ≤ 8 := by omega
      have hF6 : F ≤ 6 := by omega
      have hF1 : 1 ≤ F := by omega
      have hY1 : 1 ≤ Y := by omega
      obtain ⟨i0, hi0, hz0, hz1, hz2⟩ := info_parts infoNum
      have HI := Lib.hid (And.intro hi0 (And.intro hz0 (And.intro hz1 hz2)))
      clear hi0 hz0 hz1 hz2
      obtain ⟨j0, hj0, hy0, hy1, hy2⟩ := info_parts infoH
      have hbn : j0.bytes * Y ≤ 281474976710656 := by rw [hy2]; omega
      have HJ := Lib.hid (And.intro hj0 (And.intro hy0 (And.intro hy1 hbn)))
      clear hj0 hy0 hy1 hy2 hbn
      go_enter Try.func18, Try.ntmps18
      go_wp2_with fail
      refine (iIn7_is _ H1.out).mono ?_; rintro E w' ⟨rfl, rfl⟩
      go_wp2_with fail
      refine (iIn7_is _ H2.out).mono ?_; rintro E w' ⟨rfl, rfl⟩
      go_wp2_with (at_make; refine wpList_make_structs _ encH ((none, 0, 0) : VH) rfl _ _ 23 rfl 29 j0 _ Try.underlying23 HJ.out.1 HJ.out.2.1 HJ.out.2.2.1 rfl .i64 .i64 Y rfl rfl HJ.out.2.2.2 (by omega) ?_)
      go_loopw [20] (fun i wr => ∃ (k : Nat) (hs : List VH), k ≤ Y ∧ i = .int .i64 k ∧ Hid (hs.length = Y) ∧ NO wr w.heap.size (some ⟨w.heap.size, 0, none⟩) Y hs (rsQ Y F k 0) ∧ Below w.heap.size w wr) (fun i _ => (Y - intOf i).toNat)
      case atStart => exact ⟨0, List.replicate Y (none, 0, 0), by omega, rfl, Lib.hid (by simp), by rw [rsQ_zero]; exact NO.made (blk_new w (.cells (encH.flat (List.replicate Y ((none, 0, 0) : VH))).toArray 29)) (Nat.le_refl _) (by simp only [maxLen]; omega), bel1 _ _⟩
      case round =>
        obtain ⟨k, hs, k1, rfl, HS, hN, hB⟩ := hrel
        by_cases hlt : k < Y
        · have hki : (k : Int) < (Y : Int) := by omega
          go_wp2_with fail
          go_loopw [24] (fun i wr => ∃ (b : Nat) (hs : List VH), b ≤ F ∧ i = .int .i64 b ∧ Hid (hs.length = Y) ∧ NO wr w.heap.size (some ⟨w.heap.size, 0, none⟩) Y hs (rsQ Y F k b) ∧ Below w.heap.size w wr) (fun i _ => (F - intOf i).toNat)
          case atStart => exact ⟨0, hs, by omega, rfl, HS, hN, hB⟩
          case round =>
            clear HS hN hB
            obtain ⟨b, hs, b1, rfl, HS, hN, hB⟩ := hrel
            by_cases hbt : b < F
            · have hbi : (b : Int) < (F : Int) := by omega
              have hkh : k < hs.length := by rw [HS.out]; exact hlt
              have hkr : k < (rsQ Y F k b).length := by rw [rsQ_len]; exact hlt
              obtain ⟨⟨V, q, cv⟩, hv⟩ : ∃ x, hs[k] = x := ⟨_, rfl⟩
              obtain ⟨hd, hfz⟩ := hN.head hkh
              have hro := hN.row k hkh hkr
              rw [rsQ_at hkr, hv] at hro
              rw [hv] at hd
              simp only at hd
              obtain ⟨hro, hq⟩ := hro
              simp only at hro hq
              rw [rtP_len] at hq
              subst hq
              have HV := Lib.hid hv
              clear hv
              have hvv : 0 ≤ ((q : Int) + (k : Int)) % (F : Int) ∧ ((q : Int) + (k : Int)) % (F : Int) < (F : Int) := ⟨Int.emod_nonneg _ (by omega), Int.emod_lt_of_pos _ (by omega)⟩
              obtain ⟨v, hve⟩ : ∃ v, ((q : Int) + (k : Int)) % (F : Int) = v := ⟨_, rfl⟩
              rw [hve] at hvv
              obtain ⟨v0, v1⟩ := hvv
              have htm : ((q : Int) + (k : Int)).tmod (F : Int) = v := by rw [Int.tmod_eq_emod_of_nonneg (by omega), hve]
              have HVE := Lib.hid hve
              clear hve
              have hF0 : ¬ (F : Int) = 0 := by omega
              have hF00 : ¬ F = 0 := by omega
              have z1 : IntKind.i64.wrap ((q : Int) + (k : Int)) = (q : Int) + (k : Int) := IntWalk.i64_in _ (by omega)
              have z2 : IntKind.i64.wrap v = v := IntWalk.i64_in _ (by omega)
              have z3 : ((q : Int) + (k : Int)) % (F : Int) = v := HVE.out
              go_wp2_with fail
              refine wp_region_held_drew (S := (fun _ => True)) (by kernel_rfl) trivial (fun hHeld => ?_)
              clear hHeld
              have hN_0 := hN.drew
              have hB_0 := hB.drew
              refine wpAnyH_take (i := 0) (oi := _) (v := ?_) rfl (by kernel_rfl) (by kernel_rfl) (by kernel_rfl) (fun _ _ _ h => h) (Or.inl ⟨by rfl, ?_⟩) trivial ?_
              (rotate_left); (focus (intro wv hSw; clear hSw; go_simp; (try with_reducible rfl)))
              try simp only [Act.put, List.getElem_toArray, List.getElem_cons_succ, List.getElem_cons_zero, List.setIfInBounds_toArray, List.set_cons_zero, List.set_cons_succ]
              refine wpAnyH_take (i := 1) (oi := _) (v := ?_) rfl (by kernel_rfl) (by kernel_rfl) (by kernel_rfl) (fun _ _ _ h => h) (Or.inl ⟨by rfl, ?_⟩) trivial ?_
              (rotate_left); (focus (intro wv hSw; clear hSw; go_simp; (try with_reducible rfl)))
              try simp only [Act.put, List.getElem_toArray, List.getElem_cons_succ, List.getElem_cons_zero, List.setIfInBounds_toArray, List.set_cons_zero, List.set_cons_succ]
              refine wpAnyH_take (i := 2) (oi := _) (v := ?_) rfl (by kernel_rfl) (by kernel_rfl) (by kernel_rfl) (fun _ _ _ h => h) (Or.inl ⟨by rfl, ?_⟩) trivial ?_
              (rotate_left); (focus (intro wv hSw; clear hSw; go_simp; (try with_reducible rfl)))
              try simp only [Act.put, List.getElem_toArray, List.getElem_cons_succ, List.getElem_cons_zero, List.setIfInBounds_toArray, List.set_cons_zero, List.set_cons_succ]
              refine wpAnyH_take (i := 3) (oi := _) (v := ?_) rfl (by kernel_rfl) (by kernel_rfl) (by kernel_rfl) (fun _ _ _ h => h) (Or.inl ⟨by rfl, ?_⟩) trivial ?_
              (rotate_left); (focus (intro wv hSw; clear hSw; go_simp; (try with_reducible rfl)))
              try simp only [Act.put, List.getElem_toArray, List.getElem_cons_succ, List.getElem_cons_zero, List.setIfInBounds_toArray, List.set_cons_zero, List.set_cons_succ]
              refine wpAnyH_take (i := 4) (oi := _) (v := ?_) rfl (by kernel_rfl) (by kernel_rfl) (by kernel_rfl) (fun _ _ _ h => h) (Or.inl ⟨by rfl, ?_⟩) trivial ?_
              (rotate_left); (focus (intro wv hSw; clear hSw; go_simp; (try with_reducible rfl)))
              try simp only [Act.put, List.getElem_toArray, List.getElem_cons_succ, List.getElem_cons_zero, List.setIfInBounds_toArray, List.set_cons_zero, List.set_cons_succ]
              refine wpAnyH_take (i := 6) (oi := _) (v := ?_) rfl (by kernel_rfl) (by kernel_rfl) (by kernel_rfl) (fun _ _ _ h => h) (Or.inl ⟨by rfl, ?_⟩) trivial ?_
              (rotate_left); (focus (intro wv hSw; clear hSw; go_simp; (try with_reducible rfl)))
              try simp only [Act.put, List.getElem_toArray, List.getElem_cons_succ, List.getElem_cons_zero, List.setIfInBounds_toArray, List.set_cons_zero, List.set_cons_succ]
              refine wpAnyH_take (i := 7) (oi := _) (v := ?_) rfl (by kernel_rfl) (by kernel_rfl) (by kernel_rfl) (fun _ _ _ h => h) (Or.inl ⟨by rfl, ?_⟩) trivial ?_
              (rotate_left); (focus (intro wv hSw; clear hSw; go_simp; (try with_reducible rfl)))
              try simp only [Act.put, List.getElem_toArray, List.getElem_cons_succ, List.getElem_cons_zero, List.setIfInBounds_toArray, List.set_cons_zero, List.set_cons_succ]
              refine wpAnyH_take (i := 8) (oi := _) (v := ?_) rfl (by kernel_rfl) (by kernel_rfl) (by kernel_rfl) (fun _ _ _ h => h) (Or.inl ⟨by rfl, ?_⟩) trivial ?_
              (rotate_left); (focus (intro wv hSw; clear hSw; go_simp; (try with_reducible rfl)))
              try simp only [Act.put, List.getElem_toArray, List.getElem_cons_succ, List.getElem_cons_zero, List.setIfInBounds_toArray, List.set_cons_zero, List.set_cons_succ]
              refine wpAnyH_take (i := 9) (oi := _) (v := ?_) rfl (by kernel_rfl) (by kernel_rfl) (by kernel_rfl) (fun _ _ _ h => h) (Or.inl ⟨by rfl, ?_⟩) trivial ?_
              (rotate_left); (focus (intro wv hSw; clear hSw; go_simp; (try with_reducible rfl)))
              try simp only [Act.put, List.getElem_toArray, List.getElem_cons_succ, List.getElem_cons_zero, List.setIfInBounds_toArray, List.set_cons_zero, List.set_cons_succ]
              refine wpAnyH_take (i := 10) (oi := _) (v := ?_) rfl (by kernel_rfl) (by kernel_rfl) (by kernel_rfl) (fun _ _ _ h => h) (Or.inl ⟨by rfl, ?_⟩) trivial ?_
              (rotate_left); (focus (intro wv hSw; clear hSw; go_simp; (try with_reducible rfl)))
              try simp only [Act.put, List.getElem_toArray, List.getElem_cons_succ, List.getElem_cons_zero, List.setIfInBounds_toArray, List.set_cons_zero, List.set_cons_succ]
              refine wpAnyH_ready (rs := [5, 11]) (by kernel_rfl) (by simp) ?_
              refine AllReadyH.cons (o := _) rfl (fun K hK => ?_) (AllReadyH.cons (o := _) rfl (fun K hK => ?_) (AllReadyH.nil))
              · go_simp
                refine hK.out _ _ trivial (fun hHeld => ?_)
                clear hHeld hK K
                try simp only [Act.put, List.getElem_toArray, List.getElem_cons_succ, List.getElem_cons_zero, List.setIfInBounds_toArray, List.set_cons_zero, List.set_cons_succ]
                refine wpAnyH_ready (rs := [11]) (by kernel_rfl) (by simp) ?_
                refine AllReadyH.cons (o := _) rfl (fun K hK => ?_) (AllReadyH.nil)
                go_simp
                refine hK.out _ _ trivial (fun hHeld => ?_)
                clear hHeld hK K
                try simp only [Act.put, List.getElem_toArray, List.getElem_cons_succ, List.getElem_cons_zero, List.setIfInBounds_toArray, List.set_cons_zero, List.set_cons_succ]
                have hNa := hN_0.next (bel1 wr.drew (.cells (encNum.enc v).toArray 3))
                have hOa : SOwn encNum (wr.drew.alloc (.cells (encNum.enc v).toArray 3)) w.heap.size 3 V cv (rtP F k q) := hro.drew.next (bel1 wr.drew (.cells (encNum.enc v).toArray 3))
                have hzr : w.heap.size ≤ wr.heap.size := hB.size
                have HPL : Hid ((rtP F k q).length = q) := Lib.hid (rtP_len _ _ _)
                refine wpAnyH_ready (rs := [12]) (by kernel_rfl) (by simp) ?_
                refine AllReadyH.cons (o := _) rfl (fun K hK => ?_) (AllReadyH.nil)
                rw [if_pos (by kernel_rfl)]
                refine wp_append_lies _ (.tmp 32) (.tmp 38) _ rfl w.heap.size 3 i0 _ 1 8 Try.underlying29 HI.out.1 HI.out.2.1 HI.out.2.2.1 HI.out.2.2.2 rfl (by omega) (.slice V q cv) q (encNum.flat (rtP F k q)) rfl (by unfold SOwn at hOa; rw [HPL.out] at hOa; exact hOa) ⟨wr.heap.size, 0, none⟩ 1 1 (encNum.enc v) rfl rfl (new_enc (E := encNum) wr.drew v _) (encNum.one _) (by omega) (by simp only [maxLen]; omega) (by omega) (by simp; first | exact hzr | omega) _ rfl ?_; intro g5 cap5 w5 hown5 hgr5 hat5 hlt5
                have hB5 := SOwn.below_grown (n := q) hOa (hB_0.alloc hB_0.size (.cells (encNum.enc v).toArray 3)) hgr5
                have hsn := SOwn.snoc (E := encNum) (xs := rtP F k q) (x := v) (by rw [HPL.out]; exact hown5)
                have hsp : rtP F k q ++ [v] = rtP F k (q + 1) := by rw [rtP_snoc, HVE.out]
                rw [hsp] at hsn
                have hG5 := hNa.growV hkh hkr HV.out (by rw [rsQ_at hkr, rtP_len]) hgr5 hsn (rtP_len _ _ _) hat5 (Nat.le_refl _)
                rw [rsQ_set hlt] at hG5
                have hHB := hNa.belHead hB5 k (.slice (some ⟨g5, 0, none⟩) (q + 1) cap5)
                have hh5 := (hNa.far hgr5 (fun r hr c z hh => by
                obtain ⟨_, _, _, c2, z2, h2⟩ := own_row hOa hr
                rw [h2] at hh; simp at hh)).1
                have hc5 := hh5.cell k hkh 0 _ rfl
                simp only [encH, Nat.mul_one, Nat.add_zero] at hc5
                have hf5 := hh5.frozen k
                clear hsp
                refine hK.out _ _ trivial (fun hHeld => ?_)
                clear hHeld hK K
                try simp only [Act.put, List.getElem_toArray, List.getElem_cons_succ, List.getElem_cons_zero, List.setIfInBounds_toArray, List.set_cons_zero, List.set_cons_succ]
                refine wpAnyH_take (i := 13) (oi := _) (v := ?_) rfl (by kernel_rfl) (by kernel_rfl) (by kernel_rfl) (fun _ _ _ h => h) (Or.inl ⟨by rfl, ?_⟩) trivial ?_
                (rotate_left); (focus (intro wv hSw; clear hSw; go_simp; (try with_reducible rfl)))
                try simp only [Act.put, List.getElem_toArray, List.getElem_cons_succ, List.getElem_cons_zero, List.setIfInBounds_toArray, List.set_cons_zero, List.set_cons_succ]
                refine wpAnyH_ready (rs := [14]) (by kernel_rfl) (by simp) ?_
                refine AllReadyH.cons (o := _) rfl (fun K hK => ?_) (AllReadyH.nil)
                go_simp
                refine hK.out _ _ trivial (fun hHeld => ?_)
                clear hHeld hK K
                try simp only [Act.put, List.getElem_toArray, List.getElem_cons_succ, List.getElem_cons_zero, List.setIfInBounds_toArray, List.set_cons_zero, List.set_cons_succ]
                refine wpAnyH_done (by kernel_rfl) ?_ _
                clear z1 z2 z3 htm
                go_wp2_with fail
                go_roundw
                case rel => exact ⟨q + 1, hs.set k (some ⟨g5, 0, none⟩, q + 1, cap5), by omega, by go_num, Lib.hid (by rw [List.length_set]; exact HS.out), hG5, hHB⟩
                case measure => simp [intOf]; omega
              · go_simp
                refine hK.out _ _ trivial (fun hHeld => ?_)
                clear hHeld hK K
                try simp only [Act.put, List.getElem_toArray, List.getElem_cons_succ, List.getElem_cons_zero, List.setIfInBounds_toArray, List.set_cons_zero, List.set_cons_succ]
                have hdA : (wr.alloc (.cells #[.int .i64 v] 3)).cell? ⟨w.heap.size, k, none⟩ = some (.slice V q cv) := celS_next hd (bel1 wr _)
                refine wpAnyH_ready (rs := [5]) (by kernel_rfl) (by simp) ?_
                refine AllReadyH.cons (o := _) rfl (fun K hK => ?_) (AllReadyH.nil)
                go_simp
                refine hK.out _ _ trivial (fun hHeld => ?_)
                clear hHeld hK K
                try simp only [Act.put, List.getElem_toArray, List.getElem_cons_succ, List.getElem_cons_zero, List.setIfInBounds_toArray, List.set_cons_zero, List.set_cons_succ]
                have hNa := hN_0.next (bel1 wr.drew (.cells (encNum.enc v).toArray 3))
                have hOa : SOwn encNum (wr.drew.alloc (.cells (encNum.enc v).toArray 3)) w.heap.size 3 V cv (rtP F k q) := hro.drew.next (bel1 wr.drew (.cells (encNum.enc v).toArray 3))
                have hzr : w.heap.size ≤ wr.heap.size := hB.size
                have HPL : Hid ((rtP F k q).length = q) := Lib.hid (rtP_len _ _ _)
                refine wpAnyH_ready (rs := [12]) (by kernel_rfl) (by simp) ?_
                refine AllReadyH.cons (o := _) rfl (fun K hK => ?_) (AllReadyH.nil)
                rw [if_pos (by kernel_rfl)]
                refine wp_append_lies _ (.tmp 32) (.tmp 38) _ rfl w.heap.size 3 i0 _ 1 8 Try.underlying29 HI.out.1 HI.out.2.1 HI.out.2.2.1 HI.out.2.2.2 rfl (by omega) (.slice V q cv) q (encNum.flat (rtP F k q)) rfl (by unfold SOwn at hOa; rw [HPL.out] at hOa; exact hOa) ⟨wr.heap.size, 0, none⟩ 1 1 (encNum.enc v) rfl rfl (new_enc (E := encNum) wr.drew v _) (encNum.one _) (by omega) (by simp only [maxLen]; omega) (by omega) (by simp; first | exact hzr | omega) _ rfl ?_; intro g5 cap5 w5 hown5 hgr5 hat5 hlt5
                have hB5 := SOwn.below_grown (n := q) hOa (hB_0.alloc hB_0.size (.cells (encNum.enc v).toArray 3)) hgr5
                have hsn := SOwn.snoc (E := encNum) (xs := rtP F k q) (x := v) (by rw [HPL.out]; exact hown5)
                have hsp : rtP F k q ++ [v] = rtP F k (q + 1) := by rw [rtP_snoc, HVE.out]
                rw [hsp] at hsn
                have hG5 := hNa.growV hkh hkr HV.out (by rw [rsQ_at hkr, rtP_len]) hgr5 hsn (rtP_len _ _ _) hat5 (Nat.le_refl _)
                rw [rsQ_set hlt] at hG5
                have hHB := hNa.belHead hB5 k (.slice (some ⟨g5, 0, none⟩) (q + 1) cap5)
                have hh5 := (hNa.far hgr5 (fun r hr c z hh => by
                obtain ⟨_, _, _, c2, z2, h2⟩ := own_row hOa hr
                rw [h2] at hh; simp at hh)).1
                have hc5 := hh5.cell k hkh 0 _ rfl
                simp only [encH, Nat.mul_one, Nat.add_zero] at hc5
                have hf5 := hh5.frozen k
                clear hsp
                refine hK.out _ _ trivial (fun hHeld => ?_)
                clear hHeld hK K
                try simp only [Act.put, List.getElem_toArray, List.getElem_cons_succ, List.getElem_cons_zero, List.setIfInBounds_toArray, List.set_cons_zero, List.set_cons_succ]
                refine wpAnyH_take (i := 13) (oi := _) (v := ?_) rfl (by kernel_rfl) (by kernel_rfl) (by kernel_rfl) (fun _ _ _ h => h) (Or.inl ⟨by rfl, ?_⟩) trivial ?_
                (rotate_left); (focus (intro wv hSw; clear hSw; go_simp; (try with_reducible rfl)))
                try simp only [Act.put, List.getElem_toArray, List.getElem_cons_succ, List.getElem_cons_zero, List.setIfInBounds_toArray, List.set_cons_zero, List.set_cons_succ]
                refine wpAnyH_ready (rs := [14]) (by kernel_rfl) (by simp) ?_
                refine AllReadyH.cons (o := _) rfl (fun K hK => ?_) (AllReadyH.nil)
                go_simp
                refine hK.out _ _ trivial (fun hHeld => ?_)
                clear hHeld hK K
                try simp only [Act.put, List.getElem_toArray, List.getElem_cons_succ, List.getElem_cons_zero, List.setIfInBounds_toArray, List.set_cons_zero, List.set_cons_succ]
                refine wpAnyH_done (by kernel_rfl) ?_ _
                clear z1 z2 z3 htm
                go_wp2_with fail
                go_roundw
                case rel => exact ⟨q + 1, hs.set k (some ⟨g5, 0, none⟩, q + 1, cap5), by omega, by go_num, Lib.hid (by rw [List.length_set]; exact HS.out), hG5, hHB⟩
                case measure => simp [intOf]; omega
            · have hbi : ¬ (b : Int) < (F : Int) := by omega
              obtain rfl : b = F := by omega
              rw [rsQ_next] at hN
              go_wp2_with fail
              go_roundw
              case rel => exact ⟨k + 1, hs, by omega, by go_num, HS, hN, hB⟩
              case measure => simp [intOf]; omega
        · have hki : ¬ (k : Int) < (Y : Int) := by omega
          obtain rfl : k = Y := by omega
          rw [rsQ_all] at hN
          go_wp2_with fail
          go_ret
          exact ⟨_, _, hs, ret_sl9 (rtL_len _ _).symm, hN, hB⟩
set_option maxRecDepth 100000 in
set_option maxHeartbeats 4000000 in
theorem sRt_any (y f : Int) (w : World) :
    Calls Try.prog 20 #[.int .i64 y, .int .i64 f] w fun E w' => RtRet (rtI y f) w E w' := by
  cases h1 : inV y 1 8
  · rw [rtI_no1 h1]
    have H1 := Lib.hid h1
    clear h1
    go_enter Try.func20, Try.ntmps20
    go_wp2_with fail
    go_loopw [5, 6] (fun av i wr => av = .slice (some ⟨w.heap.size, 0, none⟩) 0 0 ∧ i = .int .i64 0 ∧ wr = w.alloc (.cells #[] 29)) (fun _ _ _ => 0)
    case atStart => exact ⟨rfl, rfl, rfl⟩
    case round =>
      obtain ⟨rfl, rfl, rfl⟩ := hrel
      by_cases hy : 0 < y
      · have hyd : decide ((0 : Int) < y) = true := by simpa using hy
        go_wp2_with fail
        refine (sIn7_is _ H1.out).mono ?_; rintro E w' ⟨rfl, rfl⟩
        go_wp2_with fail
        go_ret
        exact ⟨_, _, [], rfl, NO.nil (blk_new w _) (Nat.le_refl _), bel1 _ _⟩
      · have hyd : decide ((0 : Int) < y) = false := by simpa using hy
        go_wp2_with fail
        go_ret
        exact ⟨_, _, [], rfl, NO.nil (blk_new w _) (Nat.le_refl _), bel1 _ _⟩
  · cases h2 : inV f 1 6
    · rw [rtI_no2 h2]
      have H1 := Lib.hid h1
      have H2 := Lib.hid h2
      clear h1 h2
      go_enter Try.func20, Try.ntmps20
      go_wp2_with fail
      go_loopw [5, 6] (fun av i wr => av = .slice (some ⟨w.heap.size, 0, none⟩) 0 0 ∧ i = .int .i64 0 ∧ wr = w.alloc (.cells #[] 29)) (fun _ _ _ => 0)
      case atStart => exact ⟨rfl, rfl, rfl⟩
      case round =>
        obtain ⟨rfl, rfl, rfl⟩ := hrel
        by_cases hy : 0 < y
        · have hyd : decide ((0 : Int) < y) = true := by simpa using hy
          go_wp2_with fail
          refine (sIn7_is _ H1.out).mono ?_; rintro E w' ⟨rfl, rfl⟩
          go_wp2_with fail
          refine (sIn7_is _ H2.out).mono ?_; rintro E w' ⟨rfl, rfl⟩
          go_wp2_with fail
          go_ret
          exact ⟨_, _, [], rfl, NO.nil (blk_new w _) (Nat.le_refl _), bel1 _ _⟩
        · have hyd : decide ((0 : Int) < y) = false := by simpa using hy
          go_wp2_with fail
          go_ret
          exact ⟨_, _, [], rfl, NO.nil (blk_new w _) (Nat.le_refl _), bel1 _ _⟩
    · obtain ⟨y0, y1⟩ := inV_iff.1 h1
      obtain ⟨f0, f1⟩ := inV_iff.1 h2
      obtain ⟨Y, rfl⟩ : ∃ Y : Nat, y = Y := ⟨y.toNat, by omega⟩
      obtain ⟨F, rfl⟩ : ∃ F : Nat, f = F := ⟨f.toNat, by omega⟩
      rw [rtI_yes h1 h2]
      have H1 := Lib.hid h1
      have H2 := Lib.hid h2
      clear h1 h2
      have hY8 : Y ≤ 8 := by omega
      have hF6 : F ≤ 6 := by omega
      have hF1 : 1 ≤ F := by omega
      have hY1 : 1 ≤ Y := by omega
      obtain ⟨i0, hi0, hz0, hz1, hz2⟩ := info_parts infoNum
      have HI := Lib.hid (And.intro hi0 (And.intro hz0 (And.intro hz1 hz2)))
      clear hi0 hz0 hz1 hz2
      obtain ⟨j0, hj0, hy0, hy1, hy2⟩ := info_parts infoH
      have HJ := Lib.hid (And.intro hj0 (And.intro hy0 (And.intro hy1 hy2)))
      clear hj0 hy0 hy1 hy2
      go_enter Try.func20, Try.ntmps20
      go_wp2_with fail
      go_loopw [5, 6] (fun av i wr => ∃ (k q cv : Nat) (V : Option Addr) (hs : List VH), k ≤ Y ∧ q = k ∧ i = .int .i64 k ∧ av = .slice V q cv ∧ Hid (hs.length = q) ∧ NO wr w.heap.size V cv hs (rtL k F) ∧ Below w.heap.size w wr) (fun _ i _ => (Y - intOf i).toNat)
      case atStart => exact ⟨0, 0, 0, _, [], by omega, rfl, rfl, rfl, (by show _ = _; rfl), NO.nil (blk_new w _) (Nat.le_refl _), bel1 _ _⟩
      case round =>
        obtain ⟨k, q, cv, V, hs, k1, qk, rfl, rfl, HS, hN, hB⟩ := hrel
        have QK := Lib.hid qk
        have hq8 : q ≤ 8 := by omega
        by_cases hlt : k < Y
        · clear qk
          have hki : (k : Int) < (Y : Int) := by omega
          have hkd : decide ((k : Int) < (Y : Int)) = true := by simpa using hki
          go_wp2_with fail
          refine (sIn7_is _ H1.out).mono ?_; rintro E w' ⟨rfl, rfl⟩
          go_wp2_with fail
          refine (sIn7_is _ H2.out).mono ?_; rintro E w' ⟨rfl, rfl⟩
          go_wp2_with fail
          go_loopw [7, 8] (fun rv i wr => ∃ (b p c : Nat) (U : Option Addr), b ≤ F ∧ p = b ∧ i = .int .i64 b ∧ rv = .slice U p c ∧ SOwn encNum wr w.heap.size 3 U c (rtP F k b) ∧ Hid (∀ g, U = some ⟨g, 0, none⟩ → ∀ j (hj : j < hs.length), hs[j].1 ≠ some ⟨g, 0, none⟩) ∧ NO wr w.heap.size V cv hs (rtL k F) ∧ Below w.heap.size w wr) (fun _ i _ => (F - intOf i).toNat)
          case atStart => exact ⟨0, 0, 0, _, by omega, rfl, rfl, rfl, SOwn.empty (blk_new wr _) hB.size, Lib.hid (NO.fresh hN), hN.next (bel1 wr _), hB.alloc hB.size _⟩
          case round =>
            clear hN hB
            obtain ⟨b, p, c, U, b1, pb, rfl, rfl, hO, HD, hN, hB⟩ := hrel
            have PB := Lib.hid pb
            have hp6 : p ≤ 6 := by omega
            by_cases hbt : b < F
            · clear pb
              have hbi : (b : Int) < (F : Int) := by omega
              obtain ⟨v, hve⟩ : ∃ v, ((b : Int) + (k : Int)) % (F : Int) = v := ⟨_, rfl⟩
              have v0 : 0 ≤ v := by rw [← hve]; exact Int.emod_nonneg _ (by omega)
              have v1 : v < (F : Int) := by rw [← hve]; exact Int.emod_lt_of_pos _ (by omega)
              have hve2 : ((k : Int) + (b : Int)) % (F : Int) = v := by rw [Int.add_comm, hve]
              have hF0 : ¬ (F : Int) = 0 := by omega
              have hF00 : ¬ F = 0 := by omega
              have htm : ((k : Int) + (b : Int)).tmod (F : Int) = v := by rw [Int.tmod_eq_emod_of_nonneg (by omega), hve2]
              have HVE := Lib.hid hve
              clear hve
              have HPL : Hid ((rtP F k b).length = p) := Lib.hid (by rw [rtP_len, PB.out])
              have hcp := hB.size
              have hOa := hO.alloc (.cells (encNum.enc v).toArray 3)
              have hNa := hN.next (bel1 wr (.cells (encNum.enc v).toArray 3))
              go_wp2_with (at_builtin; refine wpList_append_lies _ rfl (.tmp 29) (.tmp 35) _ rfl w.heap.size 3 i0 _ 1 8 Try.underlying29 HI.out.1 HI.out.2.1 HI.out.2.2.1 HI.out.2.2.2 rfl (by omega) (.slice U p c) p (encNum.flat (rtP F k b)) rfl (by unfold SOwn at hOa; rw [HPL.out] at hOa; exact hOa) ⟨wr.heap.size, 0, none⟩ 1 1 (encNum.enc v) rfl rfl (new_enc (E := encNum) wr v _) (encNum.one _) (by omega) (by simp only [maxLen]; omega) (by omega) (by simp; omega) _ rfl ?_; intro g5 cap5 w5 hown5 hgr5 hat5 hlt5)
              clear hve2 htm
              have hB5 := SOwn.below_grown (n := p) hOa (hB.alloc hB.size _) hgr5
              have hsn := SOwn.snoc (E := encNum) (xs := rtP F k b) (x := v) (by rw [HPL.out]; exact hown5)
              have hsp : rtP F k b ++ [v] = rtP F k (b + 1) := by rw [rtP_snoc, HVE.out]
              rw [hsp] at hsn
              clear hsp
              have hN5 := hNa.apart hOa HD.out hgr5
              have HD5 := Lib.hid (hNa.apartNext hOa HD.out hat5)
              go_wp2_with fail
              go_roundw
              case rel => exact ⟨b + 1, p + 1, cap5, some ⟨g5, 0, none⟩, by omega, by rw [PB.out], by go_num, rfl, hsn, HD5, hN5, hB5⟩
              case measure => simp [intOf]; omega
            · have hbi : ¬ (b : Int) < (F : Int) := by omega
              obtain rfl : b = F := by omega
              obtain ⟨gr, rfl⟩ := own_some hO (by rw [rtP_len]; omega)
              clear pb
              have HPL : Hid ((rtP b k b).length = p) := Lib.hid (by rw [rtP_len, PB.out])
              have hcp := hB.size
              have hHa := hN.hd.alloc (.cells (encH.enc ((some ⟨gr, 0, none⟩, p, c) : VH)).toArray 29)
              have hNa := hN.next (bel1 wr (.cells (encH.enc ((some ⟨gr, 0, none⟩, p, c) : VH)).toArray 29))
              have hOa := hO.next (bel1 wr (.cells (encH.enc ((some ⟨gr, 0, none⟩, p, c) : VH)).toArray 29))
              go_wp2_with (at_builtin; refine wpList_append_lies _ rfl (.tmp 37) (.tmp 39) _ rfl w.heap.size 29 j0 _ 1 24 Try.underlying23 HJ.out.1 HJ.out.2.1 HJ.out.2.2.1 HJ.out.2.2.2 rfl (by omega) (.slice V q cv) q (encH.flat hs) rfl (by unfold SOwn at hHa; rw [HS.out] at hHa; exact hHa) ⟨wr.heap.size, 0, none⟩ 1 1 (encH.enc ((some ⟨gr, 0, none⟩, p, c) : VH)) rfl rfl (new_enc (E := encH) wr ((some ⟨gr, 0, none⟩, p, c) : VH) _) (encH.one _) (by omega) (by simp only [maxLen]; omega) (by omega) (by simp; omega) _ rfl ?_; intro g5 cap5 w5 hown5 hgr5 hat5 hlt5)
              have hB5 := SOwn.below_grown (n := q) hHa (hB.alloc hB.size _) hgr5
              have hsn := SOwn.snoc (E := encH) (xs := hs) (x := ((some ⟨gr, 0, none⟩, p, c) : VH)) (by rw [HS.out]; exact hown5)
              have hN5 := hNa.snoc hOa HPL.out (HD.out gr rfl) hsn (by rw [HS.out]; exact hgr5)
              rw [← rtL_snoc] at hN5
              go_wp2_with fail
              go_roundw
              case rel => exact ⟨k + 1, q + 1, cap5, some ⟨g5, 0, none⟩, hs ++ [(some ⟨gr, 0, none⟩, p, c)], by omega, by rw [QK.out], by go_num, rfl, Lib.hid (by rw [List.length_append, HS.out]; rfl), hN5, hB5⟩
              case measure => simp [intOf]; omega
        · have hki : ¬ (k : Int) < (Y : Int) := by omega
          have hkd : decide ((k : Int) < (Y : Int)) = false := by simpa using hki
          obtain rfl : k = Y := by omega
          go_wp2_with fail
          go_ret
          exact ⟨V, cv, hs, ret_sl9 (by first | (rw [rtL_len, QK.out]; done) | (rw [rtL_len]; done) | simp [rtL_len]), hN, hB⟩
end Go.Proofs.Ytoklehmoeollfaa
