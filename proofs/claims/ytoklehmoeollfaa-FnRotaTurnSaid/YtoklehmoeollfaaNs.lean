/- Laws of plans: sameLists, hasInt, draws. -/
import Derived.Test.YtoklehmoeollfaaNr
import Derived.Test.YtoklehmoeollfaaQk
import Derived.Test.YtoklehmoeollfaaRdU
import Derived.Test.YtoklehmoeollfaaNl
namespace Go.Proofs.Ytoklehmoeollfaa
open Go Go.ChangeShapes Go.WideShapes Go.ChangeAt Go.RowKit
set_option linter.unusedSimpArgs false
set_option linter.unusedVariables false

set_option maxRecDepth 100000 in
set_option maxHeartbeats 4000000 in
theorem sameLs_is (A B : Option Addr) (ca cb : Nat) (hs ks : List VH) (rows : List (List Int)) {n : Nat} (w : World) (hn : rows.length = n) (h : NRow w A hs rows) (h2 : NRow w B ks rows) (hl : n ≤ 2000000) (hrl : ∀ j (hj : j < rows.length), rows[j].length ≤ 2000000) :
    Calls Try.prog 19 #[.slice A n ca, .slice B n cb] w fun E w' => E = .returned (.bool true) ∧ Below w.heap.size w w' := by
  have HRL := Lib.hid hrl
  have HN := Lib.hid hn
  clear hrl hn
  have hnn : ((n : Int) != (n : Int)) = false := by simp
  go_enter Try.func19, Try.ntmps19
  go_wp2_with fail
  go_loopw [5] (fun i wr => ∃ k : Nat, k ≤ n ∧ i = .int .i64 k ∧ Below w.heap.size w wr) (fun i _ => (n - intOf i).toNat)
  case atStart => exact ⟨0, by omega, rfl, Below.refl _ _⟩
  case round =>
    obtain ⟨k, k1, rfl, hB⟩ := hrel
    by_cases hlt : k < n
    · have hki : (k : Int) < (n : Int) := by omega
      have hk : k < rows.length := by rw [HN.out]; exact hlt
      obtain ⟨b, off, rfl, hb, hget⟩ := h.get hk
      obtain ⟨H, q, c, hq, d9, hrow⟩ := hget k hk
      obtain ⟨b2, off2, rfl, hb2, hget2⟩ := h2.get hk
      obtain ⟨H2, q2, c2, hq2, e9, hrow2⟩ := hget2 k hk
      obtain rfl : q = q2 := by omega
      have hqb := HRL.out k hk
      rw [hq] at hqb
      have HQ := Lib.hid hq
      clear hget hget2 hq hq2
      go_wp2_with fail
      refine wp_region_held_drew (S := (fun w' => Below w.heap.size w w')) (by kernel_rfl) (hB.drew) (fun hHeld => ?_)
      have hB_0 := id hHeld
      refine wpAnyH_take (i := 0) (oi := _) (v := ?_) rfl (by kernel_rfl) (by kernel_rfl) (by kernel_rfl) (fun _ _ _ h => h) (Or.inl ⟨by rfl, ?_⟩) (by assumption) ?_
      (rotate_left); (focus (intro wv hSw; (have qB := hSw); have cd := celS_next d9 qB; have ce := celS_next e9 qB; go_simp; (try with_reducible rfl)))
      try simp only [Act.put, List.getElem_toArray, List.getElem_cons_succ, List.getElem_cons_zero, List.setIfInBounds_toArray, List.set_cons_zero, List.set_cons_succ]
      refine wpAnyH_take (i := 1) (oi := _) (v := ?_) rfl (by kernel_rfl) (by kernel_rfl) (by kernel_rfl) (fun _ _ _ h => h) (Or.inl ⟨by rfl, ?_⟩) (by assumption) ?_
      (rotate_left); (focus (intro wv hSw; (have qB := hSw); have cd := celS_next d9 qB; have ce := celS_next e9 qB; go_simp; (try with_reducible rfl)))
      try simp only [Act.put, List.getElem_toArray, List.getElem_cons_succ, List.getElem_cons_zero, List.setIfInBounds_toArray, List.set_cons_zero, List.set_cons_succ]
      refine wpAnyH_take (i := 2) (oi := _) (v := ?_) rfl (by kernel_rfl) (by kernel_rfl) (by kernel_rfl) (fun _ _ _ h => h) (Or.inl ⟨by rfl, ?_⟩) (by assumption) ?_
      (rotate_left); (focus (intro wv hSw; (have qB := hSw); have cd := celS_next d9 qB; have ce := celS_next e9 qB; go_simp; (try with_reducible rfl)))
      try simp only [Act.put, List.getElem_toArray, List.getElem_cons_succ, List.getElem_cons_zero, List.setIfInBounds_toArray, List.set_cons_zero, List.set_cons_succ]
      refine wpAnyH_take (i := 3) (oi := _) (v := ?_) rfl (by kernel_rfl) (by kernel_rfl) (by kernel_rfl) (fun _ _ _ h => h) (Or.inl ⟨by rfl, ?_⟩) (by assumption) ?_
      (rotate_left); (focus (intro wv hSw; (have qB := hSw); have cd := celS_next d9 qB; have ce := celS_next e9 qB; go_simp; (try with_reducible rfl)))
      try simp only [Act.put, List.getElem_toArray, List.getElem_cons_succ, List.getElem_cons_zero, List.setIfInBounds_toArray, List.set_cons_zero, List.set_cons_succ]
      refine wpAnyH_take (i := 4) (oi := _) (v := ?_) rfl (by kernel_rfl) (by kernel_rfl) (by kernel_rfl) (fun _ _ _ h => h) (Or.inl ⟨by rfl, ?_⟩) (by assumption) ?_
      (rotate_left); (focus (intro wv hSw; (have qB := hSw); have cd := celS_next d9 qB; have ce := celS_next e9 qB; go_simp; (try with_reducible rfl)))
      try simp only [Act.put, List.getElem_toArray, List.getElem_cons_succ, List.getElem_cons_zero, List.setIfInBounds_toArray, List.set_cons_zero, List.set_cons_succ]
      refine wpAnyH_take (i := 5) (oi := _) (v := ?_) rfl (by kernel_rfl) (by kernel_rfl) (by kernel_rfl) (fun _ _ _ h => h) (Or.inl ⟨by rfl, ?_⟩) (by assumption) ?_
      (rotate_left); (focus (intro wv hSw; (have qB := hSw); have cd := celS_next d9 qB; have ce := celS_next e9 qB; go_simp; (try with_reducible rfl)))
      try simp only [Act.put, List.getElem_toArray, List.getElem_cons_succ, List.getElem_cons_zero, List.setIfInBounds_toArray, List.set_cons_zero, List.set_cons_succ]
      refine wpAnyH_take (i := 6) (oi := _) (v := ?_) rfl (by kernel_rfl) (by kernel_rfl) (by kernel_rfl) (fun _ _ _ h => h) (Or.inl ⟨by rfl, ?_⟩) (by assumption) ?_
      (rotate_left); (focus (intro wv hSw; (have qB := hSw); have cd := celS_next d9 qB; have ce := celS_next e9 qB; go_simp; (try with_reducible rfl)))
      try simp only [Act.put, List.getElem_toArray, List.getElem_cons_succ, List.getElem_cons_zero, List.setIfInBounds_toArray, List.set_cons_zero, List.set_cons_succ]
      refine wpAnyH_take (i := 7) (oi := _) (v := ?_) rfl (by kernel_rfl) (by kernel_rfl) (by kernel_rfl) (fun _ _ _ h => h) (Or.inl ⟨by rfl, ?_⟩) (by assumption) ?_
      (rotate_left); (focus (intro wv hSw; (have qB := hSw); have cd := celS_next d9 qB; have ce := celS_next e9 qB; go_simp; (try with_reducible rfl)))
      try simp only [Act.put, List.getElem_toArray, List.getElem_cons_succ, List.getElem_cons_zero, List.setIfInBounds_toArray, List.set_cons_zero, List.set_cons_succ]
      refine wpAnyH_ready (rs := [8]) (by kernel_rfl) (by simp) ?_
      refine AllReadyH.cons (o := _) rfl (fun K hK => ?_) AllReadyH.nil
      go_simp
      (go_at_call 34; refine (sameNums_is H H2 c c2 rows[k] HQ.out (hrow.next hB_0) (hrow2.next hB_0) (by omega)).mono ?_; rintro e x0c ⟨rfl, hw_0c⟩)
      refine hK.out _ _ (bel_next hB_0 hw_0c) (fun hHeld => ?_)
      clear hK K
      try simp only [Act.put, List.getElem_toArray, List.getElem_cons_succ, List.getElem_cons_zero, List.setIfInBounds_toArray, List.set_cons_zero, List.set_cons_succ]
      have hB_0c := id hHeld
      refine wpAnyH_take (i := 9) (oi := _) (v := ?_) rfl (by kernel_rfl) (by kernel_rfl) (by kernel_rfl) (fun _ _ _ h => h) (Or.inl ⟨by rfl, ?_⟩) (by assumption) ?_
      (rotate_left); (focus (intro wv hSw; (have qB := hSw); have cd := celS_next d9 qB; have ce := celS_next e9 qB; go_simp; (try with_reducible rfl)))
      try simp only [Act.put, List.getElem_toArray, List.getElem_cons_succ, List.getElem_cons_zero, List.setIfInBounds_toArray, List.set_cons_zero, List.set_cons_succ]
      refine wpAnyH_done (by kernel_rfl) ?_ _
      go_wp2_with fail
      go_roundw
      case rel => exact ⟨k + 1, by omega, by go_num, hB_0c⟩
      case measure => simp [intOf]; omega
    · have hki : ¬ (k : Int) < (n : Int) := by omega
      go_wp2_with fail
      go_ret
      exact ⟨rfl, hB⟩
set_option maxRecDepth 100000 in
set_option maxHeartbeats 4000000 in
theorem hasI9_is (A : Option Addr) (cap : Nat) (xs : List Int) (x : Int) {n : Nat} (w : World) (hn : xs.length = n) (h : SRow encNum w A xs) (hl : n ≤ 2000000) (hx : hsI xs x = true) :
    Calls Try.prog 21 #[.slice A n cap, .int .i64 x] w fun E w' => E = .returned (.bool true) ∧ Below w.heap.size w w' := by
  have HN := Lib.hid hn
  have HX := Lib.hid (hsI_iff.1 hx)
  clear hn hx
  go_enter Try.func21, Try.ntmps21
  go_wp2_with fail
  go_loopw [5] (fun i wr => ∃ k : Nat, k ≤ n ∧ i = .int .i64 k ∧ Hid (x ∉ xs.take k) ∧ Below w.heap.size w wr) (fun i _ => (n - intOf i).toNat)
  case atStart => exact ⟨0, by omega, rfl, Lib.hid (by simp), Below.refl _ _⟩
  case round =>
    obtain ⟨k, k1, rfl, HK, hB⟩ := hrel
    by_cases hlt : k < n
    · have hki : (k : Int) < (n : Int) := by omega
      have hk : k < xs.length := by rw [HN.out]; exact hlt
      obtain ⟨b, off, rfl, hb, c0⟩ := rowNum (h.next hB) hk
      have HS : Hid (xs[k] ≠ x → x ∉ xs.take (k + 1)) := Lib.hid (fun c => by rw [← hsI_no, hsI_step hk, hsI_no.2 HK.out]; simpa using c)
      generalize xs[k] = v at c0 HS
      by_cases hv : v = x
      · have hb1 : (v == x) = true := by simpa using hv
        have HV := Lib.hid hv
        clear hv
        go_wp2_with fail
        go_ret
        exact ⟨rfl, hB⟩
      · have hb1 : (v == x) = false := by simpa using hv
        have HK2 := Lib.hid (HS.out hv)
        clear HS hv HK
        go_wp2_with fail
        go_roundw
        case rel => exact ⟨k + 1, by omega, by go_num, HK2, hB⟩
        case measure => simp [intOf]; omega
    · exfalso
      apply HK.out
      rw [List.take_of_length_le (by rw [HN.out]; omega)]
      exact HX.out
def DrewRota2 (w : World) (e : Ending) (w' : World) : Prop := ∃ y f : Int, e = .returned (.tuple #[.int .i64 y, .int .i64 f]) ∧ (0 ≤ y ∧ y ≤ 9) ∧ (0 ≤ f ∧ f ≤ 7) ∧ Below w.heap.size w w'
set_option maxHeartbeats 4000000 in
theorem drRotaTurn_any (a : Option Addr) (len cap : Nat) (w : World) (h : CodeOk w a len cap) : Calls Try.prog 17 #[.slice a len cap] w (DrewRota2 w) := by
  go_enter Try.func17, Try.ntmps17
  go_wp2_with fail
  refine (open_any _ _ _ _ h).mono ?_; rintro e w1 ⟨B, rfl, hB, h1, hb1⟩
  go_wp2_with fail
  refine (pick_any B 0 10 _ h1 (by omega) (by omega) (by omega)).mono ?_; rintro e w2 ⟨y, rfl, y0, y1, h2, hx2⟩
  go_wp2_with fail
  refine (pick_any B _ 8 _ h2 (by omega) (by omega) (by omega)).mono ?_; rintro e w3 ⟨f, rfl, f0, f1, h3, hx3⟩
  have hB3 := hb1.trans ((hx2.trans hx3).below (N := w.heap.size) (by omega) hb1.size)
  go_wp2_with fail
  go_ret2
  exact ⟨y, f, rfl, ⟨y0, by omega⟩, ⟨f0, by omega⟩, hB3⟩
def RtRetF (rows : List (List Int)) (n : Nat) (w : World) (e : Ending) (w' : World) : Prop := ∃ (A : Option Addr) (cap : Nat) (hs : List VH), e = .returned (.slice A n cap) ∧ NO w' w.heap.size A cap hs rows ∧ Below w.heap.size w w'
theorem iRt_fn {y f : Int} {rows : List (List Int)} {n : Nat} (w : World) (hr : rtI y f = rows) (hn : rows.length = n) : Calls Try.prog 18 #[.int .i64 y, .int .i64 f] w fun E w' => RtRetF rows n w E w' := by subst hr; subst hn; exact iRt_any y f w
theorem sRt_fn {y f : Int} {rows : List (List Int)} {n : Nat} (w : World) (hr : rtI y f = rows) (hn : rows.length = n) : Calls Try.prog 20 #[.int .i64 y, .int .i64 f] w fun E w' => RtRetF rows n w E w' := by subst hr; subst hn; exact sRt_any y f w
end Go.Proofs.Ytoklehmoeollfaa
