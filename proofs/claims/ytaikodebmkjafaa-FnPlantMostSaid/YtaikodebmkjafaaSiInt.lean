/- The order of a list by a comparison: the closure, the insertion, orderOf, for Int. -/
import Derived.Test.YtaikodebmkjafaaSo
import Derived.Test.YtaikodebmkjafaaGNum
import Derived.Test.YtaikodebmkjafaaHlp2
import Derived.Test.YtaikodebmkjafaaHelp
import Derived.RegionTactic
namespace Go.Proofs.Ytaikodebmkjafaa
open Go.ChangeShapes Go.WideShapes Go.ChangeAt Go.RowKit
set_option linter.unusedSimpArgs false
set_option linter.unusedVariables false
set_option linter.unnecessarySimpa false

/-- What a world of the sort keeps: all that lay before the boxes, the boxes with the list and the comparison. -/
def SoInt (w0 : World) (A : Option Addr) (n cap : Nat) (w : World) : Prop := Below w0.heap.size w0 w ∧ w.heap[w0.heap.size]? = some (.cells #[.slice A n cap] 23 (0, 0)) ∧ w.heap[w0.heap.size + 1]? = some (.cells #[.func (.func 66) #[] #[]] 70 (0, 0))
theorem SoInt.next {w0 w w' : World} {A : Option Addr} {n cap : Nat} (h : SoInt w0 A n cap w) (hw : Below w.heap.size w w') : SoInt w0 A n cap w' := ⟨bel_next h.1 hw, blk_next h.2.1 hw, blk_next h.2.2 hw⟩
theorem SoInt.cell0 {w0 w : World} {A : Option Addr} {n cap : Nat} (h : SoInt w0 A n cap w) : w.cell? ⟨w0.heap.size, 0, none⟩ = some (.slice A n cap) := by
  have := h.2.1; simp [World.cell?, this]
theorem SoInt.cell1 {w0 w : World} {A : Option Addr} {n cap : Nat} (h : SoInt w0 A n cap w) : w.cell? ⟨w0.heap.size + 1, 0, none⟩ = some (.func (.func 66) #[] #[]) := by
  have := h.2.2; simp [World.cell?, this]
theorem SoInt.far {w0 w : World} {A : Option Addr} {n cap q i : Nat} {v : Value} (h : SoInt w0 A n cap w) (hg : w0.heap.size + 1 < q) : SoInt w0 A n cap (w.setCell ⟨q, i, none⟩ v) :=
  ⟨h.1.setCell (p := ⟨q, i, none⟩) (by show _ ≤ q; omega) v, blk_far h.2.1 (by omega) v, blk_far h.2.2 (by omega) v⟩
theorem SoInt.drew {w0 w : World} {A : Option Addr} {n cap : Nat} (h : SoInt w0 A n cap w) : SoInt w0 A n cap w.drew := ⟨h.1.drew, h.2.1, h.2.2⟩
/-- The list, told by its numbers. -/
def RowInt (w : World) (A : Option Addr) (n : Nat) (f : Nat → Int) : Prop := n = 0 ∨ ∃ b off : Nat, A = some ⟨b, off, none⟩ ∧ ∀ i, i < n → w.cell? ⟨b, off + i, none⟩ = some (.int .i64 (f i))
theorem RowInt.next {w w' : World} {A : Option Addr} {n : Nat} {f : Nat → Int} (h : RowInt w A n f) (hw : Below w.heap.size w w') : RowInt w' A n f := by
  rcases h with h | ⟨b, off, rfl, hc⟩
  · exact .inl h
  · exact .inr ⟨b, off, rfl, fun i hi => celS_next (hc i hi) hw⟩
/-- What the comparison gives. -/
def CmpInt (n : Nat) (f : Nat → Int) (c : Nat → Nat → Int) : Prop := ∀ i j, i < n → j < n → ∀ w : World, Calls Try.prog 66 #[.int .i64 (f i), .int .i64 (f j)] w fun e w' => e = .returned (.int .i64 (c i j)) ∧ Below w.heap.size w w'
/-- The comparison fits an order. -/
structure FitInt (n : Nat) (P : Nat → Nat → Prop) (c : Nat → Nat → Int) : Prop where
  tot : Tot n P
  lt : ∀ i x, x < i → i < n → c i x < 0 → P i x
  ge : ∀ i x, x < i → i < n → ¬ c i x < 0 → P x i
theorem cloInt {w0 : World} {A : Option Addr} {n cap : Nat} {f : Nat → Int} {c : Nat → Nat → Int} (hA : RowInt w0 A n f) (HC : Hid (CmpInt n f c)) (i j : Nat) (hi : i < n) (hj : j < n) (hn8 : n ≤ 8) (w : World) (hS : SoInt w0 A n cap w) :
    Calls Try.prog 92 #[.int .i64 i, .int .i64 j, .pointer (some ⟨w0.heap.size + 1, 0, none⟩), .pointer (some ⟨w0.heap.size, 0, none⟩)] w fun e w' => e = .returned (.int .i64 (c i j)) ∧ Below w.heap.size w w' := by
  rcases hA with rfl | ⟨b, off, rfl, hcs⟩
  · omega
  have HA : Hid (∀ wv, SoInt w0 (some ⟨b, off, none⟩) n cap wv → ∀ i, i < n → wv.cell? ⟨b, off + i, none⟩ = some (.int .i64 (f i))) :=
    fun wv h i hi => celS_next (hcs i hi) h.1
  clear hcs
  have hi0 : (i : Int) < (n : Int) := by omega
  have hj0 : (j : Int) < (n : Int) := by omega
  go_enter Try.func92, Try.ntmps92
  go_wp2_with fail
  refine wp_region_held_drew (S := (fun w' => SoInt w0 (some ⟨b, off, none⟩) n cap w' ∧ Below w.heap.size w w')) (by kernel_rfl) ⟨hS.drew, (Below.refl _ _).drew⟩ (fun hHeld => ?_)
  obtain ⟨hS_0, hB_0⟩ := id hHeld
  refine wpAnyH_take (i := 0) (oi := _) (v := ?_) rfl (by kernel_rfl) (by kernel_rfl) (by kernel_rfl) (fun _ _ _ h => h) (Or.inl ⟨by rfl, ?_⟩) (by assumption) ?_
  (rotate_left); (focus (intro wv hSw; (obtain ⟨qS, qB⟩ := hSw); have e0 := qS.cell1; go_simp; (try with_reducible rfl)))
  try simp only [Act.put, List.getElem_toArray, List.getElem_cons_succ, List.getElem_cons_zero, List.setIfInBounds_toArray, List.set_cons_zero, List.set_cons_succ]
  refine wpAnyH_take (i := 1) (oi := _) (v := ?_) rfl (by kernel_rfl) (by kernel_rfl) (by kernel_rfl) (fun _ _ _ h => h) (Or.inl ⟨by rfl, ?_⟩) (by assumption) ?_
  (rotate_left); (focus (intro wv hSw; (obtain ⟨qS, qB⟩ := hSw); have e0 := qS.cell0; go_simp; (try with_reducible rfl)))
  try simp only [Act.put, List.getElem_toArray, List.getElem_cons_succ, List.getElem_cons_zero, List.setIfInBounds_toArray, List.set_cons_zero, List.set_cons_succ]
  refine wpAnyH_take (i := 5) (oi := _) (v := ?_) rfl (by kernel_rfl) (by kernel_rfl) (by kernel_rfl) (fun _ _ _ h => h) (Or.inl ⟨by rfl, ?_⟩) (by assumption) ?_
  (rotate_left); (focus (intro wv hSw; (obtain ⟨qS, qB⟩ := hSw); have e0 := qS.cell0; go_simp; (try with_reducible rfl)))
  try simp only [Act.put, List.getElem_toArray, List.getElem_cons_succ, List.getElem_cons_zero, List.setIfInBounds_toArray, List.set_cons_zero, List.set_cons_succ]
  refine wpAnyH_take (i := 2) (oi := _) (v := ?_) rfl (by kernel_rfl) (by kernel_rfl) (by kernel_rfl) (fun _ _ _ h => h) (Or.inl ⟨by rfl, ?_⟩) (by assumption) ?_
  (rotate_left); (focus (intro wv hSw; (obtain ⟨qS, qB⟩ := hSw);  go_simp; (try with_reducible rfl)))
  try simp only [Act.put, List.getElem_toArray, List.getElem_cons_succ, List.getElem_cons_zero, List.setIfInBounds_toArray, List.set_cons_zero, List.set_cons_succ]
  refine wpAnyH_take (i := 6) (oi := _) (v := ?_) rfl (by kernel_rfl) (by kernel_rfl) (by kernel_rfl) (fun _ _ _ h => h) (Or.inl ⟨by rfl, ?_⟩) (by assumption) ?_
  (rotate_left); (focus (intro wv hSw; (obtain ⟨qS, qB⟩ := hSw);  go_simp; (try with_reducible rfl)))
  try simp only [Act.put, List.getElem_toArray, List.getElem_cons_succ, List.getElem_cons_zero, List.setIfInBounds_toArray, List.set_cons_zero, List.set_cons_succ]
  refine wpAnyH_take (i := 3) (oi := _) (v := ?_) rfl (by kernel_rfl) (by kernel_rfl) (by kernel_rfl) (fun _ _ _ h => h) (Or.inl ⟨by rfl, ?_⟩) (by assumption) ?_
  (rotate_left); (focus (intro wv hSw; (obtain ⟨qS, qB⟩ := hSw);  go_simp; (try with_reducible rfl)))
  try simp only [Act.put, List.getElem_toArray, List.getElem_cons_succ, List.getElem_cons_zero, List.setIfInBounds_toArray, List.set_cons_zero, List.set_cons_succ]
  refine wpAnyH_take (i := 7) (oi := _) (v := ?_) rfl (by kernel_rfl) (by kernel_rfl) (by kernel_rfl) (fun _ _ _ h => h) (Or.inl ⟨by rfl, ?_⟩) (by assumption) ?_
  (rotate_left); (focus (intro wv hSw; (obtain ⟨qS, qB⟩ := hSw);  go_simp; (try with_reducible rfl)))
  try simp only [Act.put, List.getElem_toArray, List.getElem_cons_succ, List.getElem_cons_zero, List.setIfInBounds_toArray, List.set_cons_zero, List.set_cons_succ]
  refine wpAnyH_take (i := 4) (oi := _) (v := ?_) rfl (by kernel_rfl) (by kernel_rfl) (by kernel_rfl) (fun _ _ _ h => h) (Or.inl ⟨by rfl, ?_⟩) (by assumption) ?_
  (rotate_left); (focus (intro wv hSw; (obtain ⟨qS, qB⟩ := hSw); have k0 := HA.out wv qS i hi; go_simp; (try with_reducible rfl)))
  try simp only [Act.put, List.getElem_toArray, List.getElem_cons_succ, List.getElem_cons_zero, List.setIfInBounds_toArray, List.set_cons_zero, List.set_cons_succ]
  refine wpAnyH_take (i := 8) (oi := _) (v := ?_) rfl (by kernel_rfl) (by kernel_rfl) (by kernel_rfl) (fun _ _ _ h => h) (Or.inl ⟨by rfl, ?_⟩) (by assumption) ?_
  (rotate_left); (focus (intro wv hSw; (obtain ⟨qS, qB⟩ := hSw); have k0 := HA.out wv qS j hj; go_simp; (try with_reducible rfl)))
  try simp only [Act.put, List.getElem_toArray, List.getElem_cons_succ, List.getElem_cons_zero, List.setIfInBounds_toArray, List.set_cons_zero, List.set_cons_succ]
  refine wpAnyH_ready (rs := [9]) (by kernel_rfl) (by simp) ?_
  refine AllReadyH.cons (o := _) rfl (fun K hK => ?_) AllReadyH.nil
  go_simp
  (go_at_call 66; refine (HC.out i j hi hj _).mono ?_; rintro e x0c ⟨rfl, hw_0c⟩)
  refine hK.out _ _ ⟨hS_0.next hw_0c, bel_next hB_0 hw_0c⟩ (fun hHeld => ?_)
  clear hK K
  try simp only [Act.put, List.getElem_toArray, List.getElem_cons_succ, List.getElem_cons_zero, List.setIfInBounds_toArray, List.set_cons_zero, List.set_cons_succ]
  obtain ⟨hS_0c, hB_0c⟩ := id hHeld
  refine wpAnyH_take (i := 10) (oi := _) (v := ?_) rfl (by kernel_rfl) (by kernel_rfl) (by kernel_rfl) (fun _ _ _ h => h) (Or.inl ⟨by rfl, ?_⟩) (by assumption) ?_
  (rotate_left); (focus (intro wv hSw; (obtain ⟨qS, qB⟩ := hSw);  go_simp; (try with_reducible rfl)))
  try simp only [Act.put, List.getElem_toArray, List.getElem_cons_succ, List.getElem_cons_zero, List.setIfInBounds_toArray, List.set_cons_zero, List.set_cons_succ]
  refine wpAnyH_done (by kernel_rfl) ?_ _
  go_wp2
  go_ret
  exact ⟨rfl, hB_0c⟩
theorem cloInt_is {w0 : World} {A : Option Addr} {n cap : Nat} {f : Nat → Int} {c : Nat → Nat → Int} (hA : RowInt w0 A n f) (HC : Hid (CmpInt n f c)) (i j : Nat) (hi : i < n) (hj : j < n) (hn8 : n ≤ 8) (w : World) (hS : SoInt w0 A n cap w) (r : Int) (hr : c i j = r) :
    Calls Try.prog 92 #[.int .i64 i, .int .i64 j, .pointer (some ⟨w0.heap.size + 1, 0, none⟩), .pointer (some ⟨w0.heap.size, 0, none⟩)] w fun e w' => e = .returned (.int .i64 r) ∧ Below w.heap.size w w' := by
  subst hr; exact cloInt hA HC i j hi hj hn8 w hS
def InsInt (w0 : World) (A : Option Addr) (n cap : Nat) (P : Nat → Nat → Prop) (q : Nat) (e : Ending) (w' : World) : Prop :=
  ∃ l : List Nat, e = .returned (.tuple #[]) ∧ IsOrd n P l ∧ SoInt w0 A n cap w' ∧ SBlk encNum w' q 3 (natL l)
set_option maxRecDepth 100000 in
set_option maxHeartbeats 8000000 in
theorem insInt {w0 : World} {A : Option Addr} {n cap cp : Nat} {f : Nat → Int} {c : Nat → Nat → Int} {P : Nat → Nat → Prop} (hA : RowInt w0 A n f) (HC : Hid (CmpInt n f c)) (hP : FitInt n P c) (hn8 : n ≤ 8) (q : Nat) (hg : w0.heap.size + 1 < q) (w : World) (hS : SoInt w0 A n cap w) (hG : SBlk encNum w q 3 (natL (List.range n))) :
    Calls Try.prog 98 #[.slice (some ⟨q, 0, none⟩) n cp, .int .i64 0, .int .i64 n, .func (.func 92) #[] #[.pointer (some ⟨w0.heap.size + 1, 0, none⟩), .pointer (some ⟨w0.heap.size, 0, none⟩)]] w (InsInt w0 A n cap P q) := by
  have HV := Lib.hid (And.intro hA hP)
  clear hA hP
  by_cases h1 : n ≤ 1
  · have HI : Hid (IsOrd n P (List.range n)) := Lib.hid (isOrd_range h1)
    have HS := Lib.hid hS
    have hi : ¬ (1 : Int) < (n : Int) := by omega
    clear hS h1
    go_enter Try.func98, Try.ntmps98
    go_wp2_with fail
    go_loopw [8] (fun vi wr => vi = .int .i64 1 ∧ w = wr) (fun _ _ => 0)
    case atStart => exact ⟨rfl, rfl⟩
    case round =>
      obtain ⟨rfl, rfl⟩ := hrel
      go_wp2
      go_end0
      exact ⟨List.range n, rfl, HI.out, HS.out, hG⟩
  · go_enter Try.func98, Try.ntmps98
    go_wp2_with fail
    go_loopw [8] (fun vi wr => ∃ (i : Nat) (l : List Nat), vi = .int .i64 i ∧ 1 ≤ i ∧ i ≤ n ∧ SrtP P i l ∧ SoInt w0 A n cap wr ∧ SBlk encNum wr q 3 (natL (l ++ List.range' i (n - i)))) (fun vi _ => (n - intOf vi).toNat)
    case atStart => exact ⟨1, [0], rfl, by omega, by omega, SrtP.one P, hS, by
      have e : natL ([0] ++ List.range' 1 (n - 1)) = natL (List.range n) := by
        conv => rhs; rw [show n = 1 + (n - 1) by omega, List.range_eq_range', ← List.range'_append_1]
        simp
      rw [e]; exact hG⟩
    case round =>
      clear hS hG
      obtain ⟨i, l, rfl, i1, i2, hs, hS, hG⟩ := hrel
      by_cases hlt : i < n
      · rw [range_stepP hlt] at hG
        have hI := hs.ins
        have hil : l.length = i := hs.1
        have hi3 : (i : Int) < (n : Int) := by omega
        go_wp2_with fail
        go_loopw [9] (fun vj wx => ∃ (j : Nat) (a b : List Nat), vj = .int .i64 j ∧ a.length = j ∧ a.length + b.length = i ∧ InsP P i a b ∧ SoInt w0 A n cap wx ∧ SBlk encNum wx q 3 (natL (a ++ i :: b ++ List.range' (i + 1) (n - (i + 1))))) (fun vj _ => (intOf vj).toNat)
        case atStart => exact ⟨i, l, [], rfl, hil, by simpa using hil, hI, hS, by simpa using hG⟩
        case round =>
          clear hS hG hI hs hil
          obtain ⟨j, a, b, rfl, haj, hab, hI, hS, hG⟩ := hrel
          rcases List.eq_nil_or_concat a with rfl | ⟨a, x, rfl⟩
          · have hj : j = 0 := by simpa using haj.symm
            have hd : decide ((j : Int) > 0) = false := decide_eq_false (by omega)
            have hd' : ¬ (0 : Int) < (j : Int) := by omega
            have hd2 : decide (0 < j) = false := decide_eq_false (by omega)
            have hd3 : ¬ 0 < j := by omega
            have HD : Hid (SrtP P (i + 1) ([] ++ i :: b)) := by
              have := hI.done HV.out.2.tot hlt (by simp)
              exact Lib.hid ⟨by simp at hab ⊢; omega, this.1, this.2⟩
            clear hj haj hI
            go_wp2_with fail
            refine wp_region_held_drew (S := (fun w' => SoInt w0 A n cap w' ∧ SBlk encNum w' q 3 (natL ([] ++ i :: b ++ List.range' (i + 1) (n - (i + 1)))))) (by kernel_rfl) ⟨hS.drew, hG⟩ (fun hHeld => ?_)
            obtain ⟨hS_0, hG_0⟩ := id hHeld
            refine wpAnyH_take (i := 0) (oi := _) (v := ?_) rfl (by kernel_rfl) (by kernel_rfl) (by kernel_rfl) (fun _ _ _ h => h) (Or.inl ⟨by rfl, ?_⟩) (by assumption) ?_
            (rotate_left); (focus (intro wv hSw; (obtain ⟨qS, qG⟩ := hSw);  go_simp; (try with_reducible rfl)))
            try simp only [Act.put, List.getElem_toArray, List.getElem_cons_succ, List.getElem_cons_zero, List.setIfInBounds_toArray, List.set_cons_zero, List.set_cons_succ]
            refine wpAnyH_take (i := 1) (oi := _) (v := ?_) rfl (by kernel_rfl) (by kernel_rfl) (by kernel_rfl) (fun _ _ _ h => h) (Or.inl ⟨by rfl, ?_⟩) (by assumption) ?_
            (rotate_left); (focus (intro wv hSw; (obtain ⟨qS, qG⟩ := hSw);  go_simp; (try with_reducible rfl)))
            try simp only [Act.put, List.getElem_toArray, List.getElem_cons_succ, List.getElem_cons_zero, List.setIfInBounds_toArray, List.set_cons_zero, List.set_cons_succ]
            refine wpAnyH_take (i := 2) (oi := _) (v := ?_) rfl (by kernel_rfl) (by kernel_rfl) (by kernel_rfl) (fun _ _ _ h => h) (Or.inl ⟨by rfl, ?_⟩) (by assumption) ?_
            (rotate_left); (focus (intro wv hSw; (obtain ⟨qS, qG⟩ := hSw);  go_simp; (try with_reducible rfl)))
            try simp only [Act.put, List.getElem_toArray, List.getElem_cons_succ, List.getElem_cons_zero, List.setIfInBounds_toArray, List.set_cons_zero, List.set_cons_succ]
            refine wpAnyH_take (i := 3) (oi := _) (v := ?_) rfl (by kernel_rfl) (by kernel_rfl) (by kernel_rfl) (fun _ _ _ h => h) (Or.inl ⟨by rfl, ?_⟩) (by assumption) ?_
            (rotate_left); (focus (intro wv hSw; (obtain ⟨qS, qG⟩ := hSw);  go_simp; (try with_reducible rfl)))
            try simp only [Act.put, List.getElem_toArray, List.getElem_cons_succ, List.getElem_cons_zero, List.setIfInBounds_toArray, List.set_cons_zero, List.set_cons_succ]
            refine wpAnyH_take (i := 4) (oi := _) (v := undef) rfl (by kernel_rfl) (by kernel_rfl) (by kernel_rfl) (fun _ _ _ h => h) (Or.inr ⟨by kernel_rfl, rfl⟩) (by assumption) ?_
            try simp only [Act.put, List.getElem_toArray, List.getElem_cons_succ, List.getElem_cons_zero, List.setIfInBounds_toArray, List.set_cons_zero, List.set_cons_succ]
            refine wpAnyH_take (i := 5) (oi := _) (v := undef) rfl (by kernel_rfl) (by kernel_rfl) (by kernel_rfl) (fun _ _ _ h => h) (Or.inr ⟨by kernel_rfl, rfl⟩) (by assumption) ?_
            try simp only [Act.put, List.getElem_toArray, List.getElem_cons_succ, List.getElem_cons_zero, List.setIfInBounds_toArray, List.set_cons_zero, List.set_cons_succ]
            refine wpAnyH_take (i := 6) (oi := _) (v := undef) rfl (by kernel_rfl) (by kernel_rfl) (by kernel_rfl) (fun _ _ _ h => h) (Or.inr ⟨by kernel_rfl, rfl⟩) (by assumption) ?_
            try simp only [Act.put, List.getElem_toArray, List.getElem_cons_succ, List.getElem_cons_zero, List.setIfInBounds_toArray, List.set_cons_zero, List.set_cons_succ]
            refine wpAnyH_take (i := 7) (oi := _) (v := undef) rfl (by kernel_rfl) (by kernel_rfl) (by kernel_rfl) (fun _ _ _ h => h) (Or.inr ⟨by kernel_rfl, rfl⟩) (by assumption) ?_
            try simp only [Act.put, List.getElem_toArray, List.getElem_cons_succ, List.getElem_cons_zero, List.setIfInBounds_toArray, List.set_cons_zero, List.set_cons_succ]
            refine wpAnyH_take (i := 8) (oi := _) (v := undef) rfl (by kernel_rfl) (by kernel_rfl) (by kernel_rfl) (fun _ _ _ h => h) (Or.inr ⟨by kernel_rfl, rfl⟩) (by assumption) ?_
            try simp only [Act.put, List.getElem_toArray, List.getElem_cons_succ, List.getElem_cons_zero, List.setIfInBounds_toArray, List.set_cons_zero, List.set_cons_succ]
            refine wpAnyH_take (i := 9) (oi := _) (v := undef) rfl (by kernel_rfl) (by kernel_rfl) (by kernel_rfl) (fun _ _ _ h => h) (Or.inr ⟨by kernel_rfl, rfl⟩) (by assumption) ?_
            try simp only [Act.put, List.getElem_toArray, List.getElem_cons_succ, List.getElem_cons_zero, List.setIfInBounds_toArray, List.set_cons_zero, List.set_cons_succ]
            refine wpAnyH_take (i := 10) (oi := _) (v := undef) rfl (by kernel_rfl) (by kernel_rfl) (by kernel_rfl) (fun _ _ _ h => h) (Or.inr ⟨by kernel_rfl, rfl⟩) (by assumption) ?_
            try simp only [Act.put, List.getElem_toArray, List.getElem_cons_succ, List.getElem_cons_zero, List.setIfInBounds_toArray, List.set_cons_zero, List.set_cons_succ]
            refine wpAnyH_take (i := 11) (oi := _) (v := undef) rfl (by kernel_rfl) (by kernel_rfl) (by kernel_rfl) (fun _ _ _ h => h) (Or.inr ⟨by kernel_rfl, rfl⟩) (by assumption) ?_
            try simp only [Act.put, List.getElem_toArray, List.getElem_cons_succ, List.getElem_cons_zero, List.setIfInBounds_toArray, List.set_cons_zero, List.set_cons_succ]
            refine wpAnyH_take (i := 12) (oi := _) (v := undef) rfl (by kernel_rfl) (by kernel_rfl) (by kernel_rfl) (fun _ _ _ h => h) (Or.inr ⟨by kernel_rfl, rfl⟩) (by assumption) ?_
            try simp only [Act.put, List.getElem_toArray, List.getElem_cons_succ, List.getElem_cons_zero, List.setIfInBounds_toArray, List.set_cons_zero, List.set_cons_succ]
            refine wpAnyH_take (i := 13) (oi := _) (v := undef) rfl (by kernel_rfl) (by kernel_rfl) (by kernel_rfl) (fun _ _ _ h => h) (Or.inr ⟨by kernel_rfl, rfl⟩) (by assumption) ?_
            try simp only [Act.put, List.getElem_toArray, List.getElem_cons_succ, List.getElem_cons_zero, List.setIfInBounds_toArray, List.set_cons_zero, List.set_cons_succ]
            refine wpAnyH_take (i := 14) (oi := _) (v := undef) rfl (by kernel_rfl) (by kernel_rfl) (by kernel_rfl) (fun _ _ _ h => h) (Or.inr ⟨by kernel_rfl, rfl⟩) (by assumption) ?_
            try simp only [Act.put, List.getElem_toArray, List.getElem_cons_succ, List.getElem_cons_zero, List.setIfInBounds_toArray, List.set_cons_zero, List.set_cons_succ]
            refine wpAnyH_take (i := 15) (oi := _) (v := undef) rfl (by kernel_rfl) (by kernel_rfl) (by kernel_rfl) (fun _ _ _ h => h) (Or.inr ⟨by kernel_rfl, rfl⟩) (by assumption) ?_
            try simp only [Act.put, List.getElem_toArray, List.getElem_cons_succ, List.getElem_cons_zero, List.setIfInBounds_toArray, List.set_cons_zero, List.set_cons_succ]
            refine wpAnyH_take (i := 16) (oi := _) (v := ?_) rfl (by kernel_rfl) (by kernel_rfl) (by kernel_rfl) (fun _ _ _ h => h) (Or.inl ⟨by rfl, ?_⟩) (by assumption) ?_
            (rotate_left); (focus (intro wv hSw; (obtain ⟨qS, qG⟩ := hSw);  go_simp; (try with_reducible rfl)))
            try simp only [Act.put, List.getElem_toArray, List.getElem_cons_succ, List.getElem_cons_zero, List.setIfInBounds_toArray, List.set_cons_zero, List.set_cons_succ]
            refine wpAnyH_done (by kernel_rfl) ?_ _
            go_wp2_with fail
            go_roundw
            case rel => exact ⟨i + 1, _, by go_num, by omega, by omega, HD.out, hS_0, hG_0⟩
            case measure => simp [intOf]; omega
          · rw [List.concat_eq_append] at haj hab hI hG
            obtain ⟨k, hk⟩ : ∃ k, a.length = k := ⟨_, rfl⟩
            obtain rfl : j = k + 1 := by simp at haj; omega
            have hxi : x < i := hI.len x (by simp)
            have hx4 : x < n := by omega
            have hki : k < i := by simp at hab; omega
            have HY : Hid (∀ wv, SBlk encNum wv q 3 (natL (a ++ [x] ++ i :: b ++ List.range' (i + 1) (n - (i + 1)))) → wv.cell? ⟨q, k + 1, none⟩ = some (.int .i64 i) ∧ wv.cell? ⟨q, k, none⟩ = some (.int .i64 x) ∧ wv.frozen? ⟨q, k + 1, none⟩ = false ∧ wv.frozen? ⟨q, k, none⟩ = false) := by
              refine Lib.hid ?_
              intro wv h
              refine ⟨?_, ?_, h.frozen _, h.frozen _⟩
              · have := blkNum h (i := k + 1) (by simp [natL]; omega)
                rw [this]; congr 2; subst hk; simp [natL, List.getElem_append_right]
              · have := blkNum h (i := k) (by simp [natL]; omega)
                rw [this]; congr 2; subst hk; simp [natL, List.getElem_append_left, List.getElem_append_right]
            obtain ⟨r, hr⟩ : ∃ r, c i x = r := ⟨_, rfl⟩
            have HR := Lib.hid hr
            have e1 : ((k : Int) + 1).toNat = k + 1 := by omega
            have e2 : IntKind.i64.wrap ((k : Int) + 1 - 1) = (k : Int) := by rw [show (k : Int) + 1 - 1 = (k : Int) by omega]; exact IntWalk.i64_in _ (by omega)
            have e7 : IntKind.i64.wrap (k : Int) = (k : Int) := IntWalk.i64_in _ (by omega)
            have e8 : (0 : Int) ≤ (k : Int) := by omega
            have e3 : (k : Int) + 1 < (n : Int) := by omega
            have e4 : (k : Int) < (n : Int) := by omega
            have e5 : (0 : Int) ≤ (k : Int) + 1 := by omega
            have e6 : (0 : Int) < (k : Int) + 1 := by omega
            have hc : ((k + 1 : Nat) : Int) = (k : Int) + 1 := by omega
            rw [hc]
            clear hr hc haj
            by_cases hr0 : r < 0
            · have HI2 : Hid (InsP P i a (x :: b)) := Lib.hid (hI.step (HV.out.2.lt i x hxi hlt (by rw [HR.out]; exact hr0)))
              clear hI
              go_wp2_with fail
              refine wp_region_held_drew (S := (fun w' => SoInt w0 A n cap w' ∧ SBlk encNum w' q 3 (natL (a ++ [x] ++ i :: b ++ List.range' (i + 1) (n - (i + 1)))))) (by kernel_rfl) ⟨hS.drew, hG⟩ (fun hHeld => ?_)
              obtain ⟨hS_0, hG_0⟩ := id hHeld
              refine wpAnyH_take (i := 0) (oi := _) (v := ?_) rfl (by kernel_rfl) (by kernel_rfl) (by kernel_rfl) (fun _ _ _ h => h) (Or.inl ⟨by rfl, ?_⟩) (by assumption) ?_
              (rotate_left); (focus (intro wv hSw; (obtain ⟨qS, qG⟩ := hSw);  go_simp; (try with_reducible rfl)))
              try simp only [Act.put, List.getElem_toArray, List.getElem_cons_succ, List.getElem_cons_zero, List.setIfInBounds_toArray, List.set_cons_zero, List.set_cons_succ]
              refine wpAnyH_take (i := 1) (oi := _) (v := ?_) rfl (by kernel_rfl) (by kernel_rfl) (by kernel_rfl) (fun _ _ _ h => h) (Or.inl ⟨by rfl, ?_⟩) (by assumption) ?_
              (rotate_left); (focus (intro wv hSw; (obtain ⟨qS, qG⟩ := hSw);  go_simp; (try with_reducible rfl)))
              try simp only [Act.put, List.getElem_toArray, List.getElem_cons_succ, List.getElem_cons_zero, List.setIfInBounds_toArray, List.set_cons_zero, List.set_cons_succ]
              refine wpAnyH_take (i := 2) (oi := _) (v := ?_) rfl (by kernel_rfl) (by kernel_rfl) (by kernel_rfl) (fun _ _ _ h => h) (Or.inl ⟨by rfl, ?_⟩) (by assumption) ?_
              (rotate_left); (focus (intro wv hSw; (obtain ⟨qS, qG⟩ := hSw);  go_simp; (try with_reducible rfl)))
              try simp only [Act.put, List.getElem_toArray, List.getElem_cons_succ, List.getElem_cons_zero, List.setIfInBounds_toArray, List.set_cons_zero, List.set_cons_succ]
              refine wpAnyH_take (i := 3) (oi := _) (v := ?_) rfl (by kernel_rfl) (by kernel_rfl) (by kernel_rfl) (fun _ _ _ h => h) (Or.inl ⟨by rfl, ?_⟩) (by assumption) ?_
              (rotate_left); (focus (intro wv hSw; (obtain ⟨qS, qG⟩ := hSw);  go_simp; (try with_reducible rfl)))
              try simp only [Act.put, List.getElem_toArray, List.getElem_cons_succ, List.getElem_cons_zero, List.setIfInBounds_toArray, List.set_cons_zero, List.set_cons_succ]
              refine wpAnyH_take (i := 4) (oi := _) (v := ?_) rfl (by kernel_rfl) (by kernel_rfl) (by kernel_rfl) (fun _ _ _ h => h) (Or.inl ⟨by rfl, ?_⟩) (by assumption) ?_
              (rotate_left); (focus (intro wv hSw; (obtain ⟨qS, qG⟩ := hSw);  go_simp; (try with_reducible rfl)))
              try simp only [Act.put, List.getElem_toArray, List.getElem_cons_succ, List.getElem_cons_zero, List.setIfInBounds_toArray, List.set_cons_zero, List.set_cons_succ]
              refine wpAnyH_take (i := 5) (oi := _) (v := ?_) rfl (by kernel_rfl) (by kernel_rfl) (by kernel_rfl) (fun _ _ _ h => h) (Or.inl ⟨by rfl, ?_⟩) (by assumption) ?_
              (rotate_left); (focus (intro wv hSw; (obtain ⟨qS, qG⟩ := hSw);  go_simp; (try with_reducible rfl)))
              try simp only [Act.put, List.getElem_toArray, List.getElem_cons_succ, List.getElem_cons_zero, List.setIfInBounds_toArray, List.set_cons_zero, List.set_cons_succ]
              refine wpAnyH_take (i := 6) (oi := _) (v := ?_) rfl (by kernel_rfl) (by kernel_rfl) (by kernel_rfl) (fun _ _ _ h => h) (Or.inl ⟨by rfl, ?_⟩) (by assumption) ?_
              (rotate_left); (focus (intro wv hSw; (obtain ⟨qS, qG⟩ := hSw);  go_simp; (try with_reducible rfl)))
              try simp only [Act.put, List.getElem_toArray, List.getElem_cons_succ, List.getElem_cons_zero, List.setIfInBounds_toArray, List.set_cons_zero, List.set_cons_succ]
              refine wpAnyH_take (i := 7) (oi := _) (v := ?_) rfl (by kernel_rfl) (by kernel_rfl) (by kernel_rfl) (fun _ _ _ h => h) (Or.inl ⟨by rfl, ?_⟩) (by assumption) ?_
              (rotate_left); (focus (intro wv hSw; (obtain ⟨qS, qG⟩ := hSw);  go_simp; (try with_reducible rfl)))
              try simp only [Act.put, List.getElem_toArray, List.getElem_cons_succ, List.getElem_cons_zero, List.setIfInBounds_toArray, List.set_cons_zero, List.set_cons_succ]
              refine wpAnyH_take (i := 8) (oi := _) (v := ?_) rfl (by kernel_rfl) (by kernel_rfl) (by kernel_rfl) (fun _ _ _ h => h) (Or.inl ⟨by rfl, ?_⟩) (by assumption) ?_
              (rotate_left); (focus (intro wv hSw; (obtain ⟨qS, qG⟩ := hSw); obtain ⟨k0, k1, _, _⟩ := HY.out wv qG; go_simp; (try with_reducible rfl)))
              try simp only [Act.put, List.getElem_toArray, List.getElem_cons_succ, List.getElem_cons_zero, List.setIfInBounds_toArray, List.set_cons_zero, List.set_cons_succ]
              refine wpAnyH_take (i := 9) (oi := _) (v := ?_) rfl (by kernel_rfl) (by kernel_rfl) (by kernel_rfl) (fun _ _ _ h => h) (Or.inl ⟨by rfl, ?_⟩) (by assumption) ?_
              (rotate_left); (focus (intro wv hSw; (obtain ⟨qS, qG⟩ := hSw);  go_simp; (try with_reducible rfl)))
              try simp only [Act.put, List.getElem_toArray, List.getElem_cons_succ, List.getElem_cons_zero, List.setIfInBounds_toArray, List.set_cons_zero, List.set_cons_succ]
              refine wpAnyH_take (i := 10) (oi := _) (v := ?_) rfl (by kernel_rfl) (by kernel_rfl) (by kernel_rfl) (fun _ _ _ h => h) (Or.inl ⟨by rfl, ?_⟩) (by assumption) ?_
              (rotate_left); (focus (intro wv hSw; (obtain ⟨qS, qG⟩ := hSw);  go_simp; (try with_reducible rfl)))
              try simp only [Act.put, List.getElem_toArray, List.getElem_cons_succ, List.getElem_cons_zero, List.setIfInBounds_toArray, List.set_cons_zero, List.set_cons_succ]
              refine wpAnyH_take (i := 11) (oi := _) (v := ?_) rfl (by kernel_rfl) (by kernel_rfl) (by kernel_rfl) (fun _ _ _ h => h) (Or.inl ⟨by rfl, ?_⟩) (by assumption) ?_
              (rotate_left); (focus (intro wv hSw; (obtain ⟨qS, qG⟩ := hSw);  go_simp; (try with_reducible rfl)))
              try simp only [Act.put, List.getElem_toArray, List.getElem_cons_succ, List.getElem_cons_zero, List.setIfInBounds_toArray, List.set_cons_zero, List.set_cons_succ]
              refine wpAnyH_take (i := 12) (oi := _) (v := ?_) rfl (by kernel_rfl) (by kernel_rfl) (by kernel_rfl) (fun _ _ _ h => h) (Or.inl ⟨by rfl, ?_⟩) (by assumption) ?_
              (rotate_left); (focus (intro wv hSw; (obtain ⟨qS, qG⟩ := hSw);  go_simp; (try with_reducible rfl)))
              try simp only [Act.put, List.getElem_toArray, List.getElem_cons_succ, List.getElem_cons_zero, List.setIfInBounds_toArray, List.set_cons_zero, List.set_cons_succ]
              refine wpAnyH_take (i := 13) (oi := _) (v := ?_) rfl (by kernel_rfl) (by kernel_rfl) (by kernel_rfl) (fun _ _ _ h => h) (Or.inl ⟨by rfl, ?_⟩) (by assumption) ?_
              (rotate_left); (focus (intro wv hSw; (obtain ⟨qS, qG⟩ := hSw); obtain ⟨k0, k1, _, _⟩ := HY.out wv qG; go_simp; (try with_reducible rfl)))
              try simp only [Act.put, List.getElem_toArray, List.getElem_cons_succ, List.getElem_cons_zero, List.setIfInBounds_toArray, List.set_cons_zero, List.set_cons_succ]
              refine wpAnyH_ready (rs := [14]) (by kernel_rfl) (by simp) ?_
              refine AllReadyH.cons (o := _) rfl (fun K hK => ?_) AllReadyH.nil
              go_simp
              (go_at_call 92; refine (cloInt_is HV.out.1 HC i x hlt hx4 hn8 _ hS_0 r HR.out).mono ?_; rintro e x0c ⟨rfl, hw_0c⟩)
              refine hK.out _ _ ⟨hS_0.next hw_0c, hG_0.next hw_0c⟩ (fun hHeld => ?_)
              clear hK K
              try simp only [Act.put, List.getElem_toArray, List.getElem_cons_succ, List.getElem_cons_zero, List.setIfInBounds_toArray, List.set_cons_zero, List.set_cons_succ]
              obtain ⟨hS_0c, hG_0c⟩ := id hHeld
              refine wpAnyH_take (i := 15) (oi := _) (v := ?_) rfl (by kernel_rfl) (by kernel_rfl) (by kernel_rfl) (fun _ _ _ h => h) (Or.inl ⟨by rfl, ?_⟩) (by assumption) ?_
              (rotate_left); (focus (intro wv hSw; (obtain ⟨qS, qG⟩ := hSw);  go_simp; (try with_reducible rfl)))
              try simp only [Act.put, List.getElem_toArray, List.getElem_cons_succ, List.getElem_cons_zero, List.setIfInBounds_toArray, List.set_cons_zero, List.set_cons_succ]
              refine wpAnyH_take (i := 16) (oi := _) (v := ?_) rfl (by kernel_rfl) (by kernel_rfl) (by kernel_rfl) (fun _ _ _ h => h) (Or.inl ⟨by rfl, ?_⟩) (by assumption) ?_
              (rotate_left); (focus (intro wv hSw; (obtain ⟨qS, qG⟩ := hSw);  go_simp; (try with_reducible rfl)))
              try simp only [Act.put, List.getElem_toArray, List.getElem_cons_succ, List.getElem_cons_zero, List.setIfInBounds_toArray, List.set_cons_zero, List.set_cons_succ]
              refine wpAnyH_done (by kernel_rfl) ?_ _
              clear hS hG hS_0 hG_0 hHeld
              obtain ⟨k0, k1, k2, k3⟩ := HY.out _ hG_0c
              go_wp2_with fail
              go_region
              go_wp2_with fail
              go_roundw
              case rel =>
                refine ⟨k, a, x :: b, by go_num, hk, by simp at hab ⊢; omega, HI2.out, ?_, ?_⟩
                · exact ((hS_0c.far hg).far hg).drew
                · have hb1 : k + 1 < (natL (a ++ [x] ++ i :: b ++ List.range' (i + 1) (n - (i + 1)))).length := by simp [natL]; omega
                  have hb2 : k < ((natL (a ++ [x] ++ i :: b ++ List.range' (i + 1) (n - (i + 1)))).set (k + 1) (x : Int)).length := by simp [natL]; omega
                  have h := setNumB (setNumB hG_0c (k + 1) hb1 x) k hb2 i
                  rw [← hk, swap_listP] at h
                  rw [← hk]
                  exact h
              case measure => simp [intOf]
            · have HD : Hid (SrtP P (i + 1) (a ++ [x] ++ i :: b)) := by
                have := hI.done HV.out.2.tot hlt (fun y hy => by
                  simp at hy; subst hy
                  exact HV.out.2.ge i x hxi hlt (by rw [HR.out]; exact hr0))
                exact Lib.hid ⟨by simp at hab ⊢; omega, this.1, this.2⟩
              clear hI hk hab
              go_wp2_with fail
              refine wp_region_held_drew (S := (fun w' => SoInt w0 A n cap w' ∧ SBlk encNum w' q 3 (natL (a ++ [x] ++ i :: b ++ List.range' (i + 1) (n - (i + 1)))))) (by kernel_rfl) ⟨hS.drew, hG⟩ (fun hHeld => ?_)
              obtain ⟨hS_0, hG_0⟩ := id hHeld
              refine wpAnyH_take (i := 0) (oi := _) (v := ?_) rfl (by kernel_rfl) (by kernel_rfl) (by kernel_rfl) (fun _ _ _ h => h) (Or.inl ⟨by rfl, ?_⟩) (by assumption) ?_
              (rotate_left); (focus (intro wv hSw; (obtain ⟨qS, qG⟩ := hSw);  go_simp; (try with_reducible rfl)))
              try simp only [Act.put, List.getElem_toArray, List.getElem_cons_succ, List.getElem_cons_zero, List.setIfInBounds_toArray, List.set_cons_zero, List.set_cons_succ]
              refine wpAnyH_take (i := 1) (oi := _) (v := ?_) rfl (by kernel_rfl) (by kernel_rfl) (by kernel_rfl) (fun _ _ _ h => h) (Or.inl ⟨by rfl, ?_⟩) (by assumption) ?_
              (rotate_left); (focus (intro wv hSw; (obtain ⟨qS, qG⟩ := hSw);  go_simp; (try with_reducible rfl)))
              try simp only [Act.put, List.getElem_toArray, List.getElem_cons_succ, List.getElem_cons_zero, List.setIfInBounds_toArray, List.set_cons_zero, List.set_cons_succ]
              refine wpAnyH_take (i := 2) (oi := _) (v := ?_) rfl (by kernel_rfl) (by kernel_rfl) (by kernel_rfl) (fun _ _ _ h => h) (Or.inl ⟨by rfl, ?_⟩) (by assumption) ?_
              (rotate_left); (focus (intro wv hSw; (obtain ⟨qS, qG⟩ := hSw);  go_simp; (try with_reducible rfl)))
              try simp only [Act.put, List.getElem_toArray, List.getElem_cons_succ, List.getElem_cons_zero, List.setIfInBounds_toArray, List.set_cons_zero, List.set_cons_succ]
              refine wpAnyH_take (i := 3) (oi := _) (v := ?_) rfl (by kernel_rfl) (by kernel_rfl) (by kernel_rfl) (fun _ _ _ h => h) (Or.inl ⟨by rfl, ?_⟩) (by assumption) ?_
              (rotate_left); (focus (intro wv hSw; (obtain ⟨qS, qG⟩ := hSw);  go_simp; (try with_reducible rfl)))
              try simp only [Act.put, List.getElem_toArray, List.getElem_cons_succ, List.getElem_cons_zero, List.setIfInBounds_toArray, List.set_cons_zero, List.set_cons_succ]
              refine wpAnyH_take (i := 4) (oi := _) (v := ?_) rfl (by kernel_rfl) (by kernel_rfl) (by kernel_rfl) (fun _ _ _ h => h) (Or.inl ⟨by rfl, ?_⟩) (by assumption) ?_
              (rotate_left); (focus (intro wv hSw; (obtain ⟨qS, qG⟩ := hSw);  go_simp; (try with_reducible rfl)))
              try simp only [Act.put, List.getElem_toArray, List.getElem_cons_succ, List.getElem_cons_zero, List.setIfInBounds_toArray, List.set_cons_zero, List.set_cons_succ]
              refine wpAnyH_take (i := 5) (oi := _) (v := ?_) rfl (by kernel_rfl) (by kernel_rfl) (by kernel_rfl) (fun _ _ _ h => h) (Or.inl ⟨by rfl, ?_⟩) (by assumption) ?_
              (rotate_left); (focus (intro wv hSw; (obtain ⟨qS, qG⟩ := hSw);  go_simp; (try with_reducible rfl)))
              try simp only [Act.put, List.getElem_toArray, List.getElem_cons_succ, List.getElem_cons_zero, List.setIfInBounds_toArray, List.set_cons_zero, List.set_cons_succ]
              refine wpAnyH_take (i := 6) (oi := _) (v := ?_) rfl (by kernel_rfl) (by kernel_rfl) (by kernel_rfl) (fun _ _ _ h => h) (Or.inl ⟨by rfl, ?_⟩) (by assumption) ?_
              (rotate_left); (focus (intro wv hSw; (obtain ⟨qS, qG⟩ := hSw);  go_simp; (try with_reducible rfl)))
              try simp only [Act.put, List.getElem_toArray, List.getElem_cons_succ, List.getElem_cons_zero, List.setIfInBounds_toArray, List.set_cons_zero, List.set_cons_succ]
              refine wpAnyH_take (i := 7) (oi := _) (v := ?_) rfl (by kernel_rfl) (by kernel_rfl) (by kernel_rfl) (fun _ _ _ h => h) (Or.inl ⟨by rfl, ?_⟩) (by assumption) ?_
              (rotate_left); (focus (intro wv hSw; (obtain ⟨qS, qG⟩ := hSw);  go_simp; (try with_reducible rfl)))
              try simp only [Act.put, List.getElem_toArray, List.getElem_cons_succ, List.getElem_cons_zero, List.setIfInBounds_toArray, List.set_cons_zero, List.set_cons_succ]
              refine wpAnyH_take (i := 8) (oi := _) (v := ?_) rfl (by kernel_rfl) (by kernel_rfl) (by kernel_rfl) (fun _ _ _ h => h) (Or.inl ⟨by rfl, ?_⟩) (by assumption) ?_
              (rotate_left); (focus (intro wv hSw; (obtain ⟨qS, qG⟩ := hSw); obtain ⟨k0, k1, _, _⟩ := HY.out wv qG; go_simp; (try with_reducible rfl)))
              try simp only [Act.put, List.getElem_toArray, List.getElem_cons_succ, List.getElem_cons_zero, List.setIfInBounds_toArray, List.set_cons_zero, List.set_cons_succ]
              refine wpAnyH_take (i := 9) (oi := _) (v := ?_) rfl (by kernel_rfl) (by kernel_rfl) (by kernel_rfl) (fun _ _ _ h => h) (Or.inl ⟨by rfl, ?_⟩) (by assumption) ?_
              (rotate_left); (focus (intro wv hSw; (obtain ⟨qS, qG⟩ := hSw);  go_simp; (try with_reducible rfl)))
              try simp only [Act.put, List.getElem_toArray, List.getElem_cons_succ, List.getElem_cons_zero, List.setIfInBounds_toArray, List.set_cons_zero, List.set_cons_succ]
              refine wpAnyH_take (i := 10) (oi := _) (v := ?_) rfl (by kernel_rfl) (by kernel_rfl) (by kernel_rfl) (fun _ _ _ h => h) (Or.inl ⟨by rfl, ?_⟩) (by assumption) ?_
              (rotate_left); (focus (intro wv hSw; (obtain ⟨qS, qG⟩ := hSw);  go_simp; (try with_reducible rfl)))
              try simp only [Act.put, List.getElem_toArray, List.getElem_cons_succ, List.getElem_cons_zero, List.setIfInBounds_toArray, List.set_cons_zero, List.set_cons_succ]
              refine wpAnyH_take (i := 11) (oi := _) (v := ?_) rfl (by kernel_rfl) (by kernel_rfl) (by kernel_rfl) (fun _ _ _ h => h) (Or.inl ⟨by rfl, ?_⟩) (by assumption) ?_
              (rotate_left); (focus (intro wv hSw; (obtain ⟨qS, qG⟩ := hSw);  go_simp; (try with_reducible rfl)))
              try simp only [Act.put, List.getElem_toArray, List.getElem_cons_succ, List.getElem_cons_zero, List.setIfInBounds_toArray, List.set_cons_zero, List.set_cons_succ]
              refine wpAnyH_take (i := 12) (oi := _) (v := ?_) rfl (by kernel_rfl) (by kernel_rfl) (by kernel_rfl) (fun _ _ _ h => h) (Or.inl ⟨by rfl, ?_⟩) (by assumption) ?_
              (rotate_left); (focus (intro wv hSw; (obtain ⟨qS, qG⟩ := hSw);  go_simp; (try with_reducible rfl)))
              try simp only [Act.put, List.getElem_toArray, List.getElem_cons_succ, List.getElem_cons_zero, List.setIfInBounds_toArray, List.set_cons_zero, List.set_cons_succ]
              refine wpAnyH_take (i := 13) (oi := _) (v := ?_) rfl (by kernel_rfl) (by kernel_rfl) (by kernel_rfl) (fun _ _ _ h => h) (Or.inl ⟨by rfl, ?_⟩) (by assumption) ?_
              (rotate_left); (focus (intro wv hSw; (obtain ⟨qS, qG⟩ := hSw); obtain ⟨k0, k1, _, _⟩ := HY.out wv qG; go_simp; (try with_reducible rfl)))
              try simp only [Act.put, List.getElem_toArray, List.getElem_cons_succ, List.getElem_cons_zero, List.setIfInBounds_toArray, List.set_cons_zero, List.set_cons_succ]
              refine wpAnyH_ready (rs := [14]) (by kernel_rfl) (by simp) ?_
              refine AllReadyH.cons (o := _) rfl (fun K hK => ?_) AllReadyH.nil
              go_simp
              (go_at_call 92; refine (cloInt_is HV.out.1 HC i x hlt hx4 hn8 _ hS_0 r HR.out).mono ?_; rintro e x0c ⟨rfl, hw_0c⟩)
              refine hK.out _ _ ⟨hS_0.next hw_0c, hG_0.next hw_0c⟩ (fun hHeld => ?_)
              clear hK K
              try simp only [Act.put, List.getElem_toArray, List.getElem_cons_succ, List.getElem_cons_zero, List.setIfInBounds_toArray, List.set_cons_zero, List.set_cons_succ]
              obtain ⟨hS_0c, hG_0c⟩ := id hHeld
              refine wpAnyH_take (i := 15) (oi := _) (v := ?_) rfl (by kernel_rfl) (by kernel_rfl) (by kernel_rfl) (fun _ _ _ h => h) (Or.inl ⟨by rfl, ?_⟩) (by assumption) ?_
              (rotate_left); (focus (intro wv hSw; (obtain ⟨qS, qG⟩ := hSw);  go_simp; (try with_reducible rfl)))
              try simp only [Act.put, List.getElem_toArray, List.getElem_cons_succ, List.getElem_cons_zero, List.setIfInBounds_toArray, List.set_cons_zero, List.set_cons_succ]
              refine wpAnyH_take (i := 16) (oi := _) (v := ?_) rfl (by kernel_rfl) (by kernel_rfl) (by kernel_rfl) (fun _ _ _ h => h) (Or.inl ⟨by rfl, ?_⟩) (by assumption) ?_
              (rotate_left); (focus (intro wv hSw; (obtain ⟨qS, qG⟩ := hSw);  go_simp; (try with_reducible rfl)))
              try simp only [Act.put, List.getElem_toArray, List.getElem_cons_succ, List.getElem_cons_zero, List.setIfInBounds_toArray, List.set_cons_zero, List.set_cons_succ]
              refine wpAnyH_done (by kernel_rfl) ?_ _
              go_wp2_with fail
              go_roundw
              case rel => exact ⟨i + 1, _, by go_num, by omega, by omega, HD.out, hS_0c, hG_0c⟩
              case measure => simp [intOf]; omega
      · obtain rfl : i = n := by omega
        go_wp2
        go_end0
        exact ⟨l, rfl, hs.isOrd, hS, by simpa using hG⟩
theorem stabInt {w0 : World} {A : Option Addr} {n cap cp : Nat} {f : Nat → Int} {c : Nat → Nat → Int} {P : Nat → Nat → Prop} (hA : RowInt w0 A n f) (HC : Hid (CmpInt n f c)) (hP : FitInt n P c) (hn8 : n ≤ 8) (q : Nat) (hg : w0.heap.size + 1 < q) (w : World) (hS : SoInt w0 A n cap w) (hG : SBlk encNum w q 3 (natL (List.range n))) :
    Calls Try.prog 97 #[.slice (some ⟨q, 0, none⟩) n cp, .int .i64 n, .func (.func 92) #[] #[.pointer (some ⟨w0.heap.size + 1, 0, none⟩), .pointer (some ⟨w0.heap.size, 0, none⟩)]] w (InsInt w0 A n cap P q) := by
  have hi : ¬ (20 : Int) ≤ (n : Int) := by omega
  have hi2 : ¬ (20 : Int) < (n : Int) := by omega
  have HH := Lib.hid (And.intro hA (And.intro hP (And.intro hS hG)))
  clear hA hP hS hG
  go_enter Try.func97, Try.ntmps97
  go_wp2_with fail
  go_loopw [7, 8] (fun va vb wr => va = .int .i64 0 ∧ vb = .int .i64 20 ∧ w = wr) (fun _ _ _ => 0)
  case atStart => exact ⟨rfl, rfl, rfl⟩
  case round =>
    obtain ⟨rfl, rfl, rfl⟩ := hrel
    go_wp2_with fail
    refine (insInt HH.out.1 HC HH.out.2.1 hn8 q hg _ HH.out.2.2.1 HH.out.2.2.2).mono ?_; rintro e w1 ⟨l, rfl, hO, hS, hG⟩
    go_wp2_with fail
    go_loopw [6] (fun va wr => va = .int .i64 20 ∧ w1 = wr) (fun _ _ => 0)
    case atStart => exact ⟨rfl, rfl⟩
    case round =>
      obtain ⟨rfl, rfl⟩ := hrel
      go_wp2
      go_end0
      exact ⟨l, rfl, hO, hS, hG⟩
theorem sortInt {w0 : World} {A : Option Addr} {n cap cp : Nat} {f : Nat → Int} {c : Nat → Nat → Int} {P : Nat → Nat → Prop} (hA : RowInt w0 A n f) (HC : Hid (CmpInt n f c)) (hP : FitInt n P c) (hn8 : n ≤ 8) (q : Nat) (hg : w0.heap.size + 1 < q) (w : World) (hS : SoInt w0 A n cap w) (hG : SBlk encNum w q 3 (natL (List.range n))) :
    Calls Try.prog 91 #[.slice (some ⟨q, 0, none⟩) n cp, .func (.func 92) #[] #[.pointer (some ⟨w0.heap.size + 1, 0, none⟩), .pointer (some ⟨w0.heap.size, 0, none⟩)]] w (InsInt w0 A n cap P q) := by
  have HH := Lib.hid (And.intro hA (And.intro hP (And.intro hS hG)))
  clear hA hP hS hG
  go_enter Try.func91, Try.ntmps91
  go_wp2_with fail
  refine (stabInt HH.out.1 HC HH.out.2.1 hn8 q hg _ HH.out.2.2.1 HH.out.2.2.2).mono ?_; rintro e w1 ⟨l, rfl, hO, hS, hG⟩
  go_wp2
  go_end0
  exact ⟨l, rfl, hO, hS, hG⟩
/-- orderOf: the order of the indices, in a block of its own. -/
def OrdInt (n : Nat) (P : Nat → Nat → Prop) (w : World) (e : Ending) (w' : World) : Prop :=
  ∃ (l : List Nat) (q : Nat), e = .returned (.slice (some ⟨q, 0, none⟩) n n) ∧ IsOrd n P l ∧ w.heap.size ≤ q ∧ SBlk encNum w' q 3 (natL l) ∧ Below w.heap.size w w'
theorem upNInt {n k : Nat} (hk : k < n) : (natL (List.range k) ++ List.replicate (n - k) 0).set k (k : Int) = natL (List.range (k + 1)) ++ List.replicate (n - (k + 1)) 0 := by
  have hl : (natL (List.range k)).length = k := by simp [natL]
  rw [List.set_append_right _ _ (by omega), hl, Nat.sub_self, show n - k = (n - (k + 1)) + 1 by omega, List.replicate_succ, List.range_succ]
  simp [natL]
set_option maxRecDepth 100000 in
set_option maxHeartbeats 4000000 in
theorem ordInt {A : Option Addr} {n cap : Nat} {f : Nat → Int} {c : Nat → Nat → Int} {P : Nat → Nat → Prop} {w : World} (hA : RowInt w A n f) (HC : Hid (CmpInt n f c)) (hP : FitInt n P c) (hn8 : n ≤ 8) :
    Calls Try.prog 65 #[.slice A n cap, .func (.func 66) #[] #[]] w (OrdInt n P w) := by
  have HV := Lib.hid (And.intro hA hP)
  clear hA hP
  obtain ⟨i0, hi0, hz0, hz1, hz2⟩ := info_parts infoNum
  have hbn : i0.bytes * n ≤ 281474976710656 := by rw [hz2]; omega
  have HI := Lib.hid (And.intro hi0 (And.intro hz0 (And.intro hz1 hbn)))
  clear hi0 hz0 hz1 hz2 hbn
  have hS0 : SoInt w A n cap ((w.alloc (.cells #[.slice A n cap] 23)).alloc (.cells #[.func (.func 66) #[] #[]] 70)) := by
    refine ⟨(bel1 _ _).alloc (by simp) _, blk_old (blk_new w _) _, ?_⟩
    have := blk_new (w.alloc (.cells #[.slice A n cap] 23)) (.cells #[.func (.func 66) #[] #[]] 70)
    simpa using this
  have hcc := hS0.cell0
  go_enter Try.func65, Try.ntmps65
  go_wp2_with (at_make; refine wpList_make_structs _ encNum (0 : Int) rfl _ _ 23 rfl 3 i0 _ Try.underlying23 HI.out.1 HI.out.2.1 HI.out.2.2.1 rfl .i64 .i64 n rfl rfl HI.out.2.2.2 (by omega) ?_)
  go_loopw [12] (fun i wr => ∃ k : Nat, k ≤ n ∧ i = .int .i64 k ∧ SBlk encNum wr (w.heap.size + 2) 3 (natL (List.range k) ++ List.replicate (n - k) 0) ∧ SoInt w A n cap wr) (fun i _ => (n - intOf i).toNat)
  case atStart =>
    refine ⟨0, by omega, rfl, ?_, ?_⟩
    · have := blk_new ((w.alloc (.cells #[.slice A n cap] 23)).alloc (.cells #[.func (.func 66) #[] #[]] 70)) (.cells (encNum.flat (List.replicate n 0)).toArray 3)
      simpa [natL, SBlk] using this
    · exact hS0.next (bel1 _ _)
  case round =>
    clear hS0 hcc
    obtain ⟨k, k1, rfl, hG, hS⟩ := hrel
    by_cases hlt : k < n
    · have hi1 : (k : Int) < (n : Int) := by omega
      have hlen : k < (natL (List.range k) ++ List.replicate (n - k) (0 : Int)).length := by simp [natL]; omega
      have c0 := blkNum hG hlen
      have f0 := hG.frozen k
      go_wp2_with fail
      go_roundw
      case rel => exact ⟨k + 1, by omega, by go_num, by have := setNumB hG k hlen (k : Int); rwa [upNInt hlt] at this, hS.far (by omega)⟩
      case measure => simp [intOf]; omega
    · obtain rfl : k = n := by omega
      have hG2 : SBlk encNum wr (w.heap.size + 2) 3 (natL (List.range k)) := by simpa using hG
      have HH := Lib.hid (And.intro hS hG2)
      clear hS hG hG2
      go_wp2_with fail
      refine (sortInt HV.out.1 HC HV.out.2 hn8 (w.heap.size + 2) (by omega) _ HH.out.1 HH.out.2).mono ?_; rintro e w2 ⟨l, rfl, hO, hS, hG⟩
      go_wp2
      go_ret
      exact ⟨l, w.heap.size + 2, rfl, hO, by omega, hG, hS.1⟩
end Go.Proofs.Ytaikodebmkjafaa
