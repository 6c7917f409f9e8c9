/- The order of ways round: the insertion. -/
import Derived.Test.YtpdlffhjpnhkbaaRo1
import Derived.RegionTactic
namespace Go.Proofs.Ytpdlffhjpnhkbaa
open Go.ChangeShapes Go.WideShapes Go.ChangeAt Go.RowKit
set_option linter.unusedSimpArgs false
set_option linter.unusedVariables false
set_option linter.unnecessarySimpa false

def nat (l : List Nat) : List Int := l.map (fun i : Nat => (i : Int))
theorem nat_len (l : List Nat) : (nat l).length = l.length := by simp [nat]
theorem nat_at (l : List Nat) (i : Nat) (h : i < (nat l).length) : (nat l)[i] = ((l[i]'(by simpa [nat] using h) : Nat) : Int) := by simp [nat]
theorem wy_at {xs : List (Int × Int)} {i : Nat} (h : i < xs.length) : wy xs i = xs[i] := by simp [wy, h]
theorem all_go {xs : List (Int × Int)} (h : wsB xs = true) : AllGo xs := fun i hi => by
  rw [wy_at hi]; exact (goB_iff.1 (go_bd h i hi)).2
/-- The first i numbers, in order. -/
def Srt (xs : List (Int × Int)) (i : Nat) (l : List Nat) : Prop := l.length = i ∧ l.Pairwise (Pre xs) ∧ ∀ x, x ∈ l ↔ x < i
theorem Srt.one (xs : List (Int × Int)) : Srt xs 1 [0] := ⟨rfl, by simp, fun x => by simp⟩
theorem Srt.ins {xs : List (Int × Int)} {i : Nat} {l : List Nat} (h : Srt xs i l) : Ins xs i l [] := ⟨by simpa using h.2.1, by simpa using h.2.2, by simp⟩
theorem Ins.len {xs : List (Int × Int)} {i : Nat} {a b : List Nat} (h : Ins xs i a b) : ∀ x ∈ a, x < i := fun x hx => (h.2.1 x).1 (by simp [hx])
theorem range_step {i n : Nat} (h : i < n) : List.range' i (n - i) = i :: List.range' (i + 1) (n - (i + 1)) := by
  rw [show n - i = (n - (i + 1)) + 1 by omega, List.range'_succ]
theorem swap_list (a b r : List Nat) (x i : Nat) : ((nat (a ++ [x] ++ i :: b ++ r)).set (a.length + 1) (x : Int)).set a.length (i : Int) = nat (a ++ i :: (x :: b) ++ r) := by
  simp [nat, List.set_append]
theorem set_same {w : World} {g : Nat} {T : TypeId} {xs ys : List Int} (h : IBlk w g T xs) (e : xs = ys) : IBlk w g T ys := e ▸ h
theorem clo_is {w0 : World} {A : Option Addr} {cap n : Nat} {xs : List (Int × Int)} (hA : WRow w0 A xs) (hv : wsB xs = true) (i j : Nat) (hi : i < xs.length) (hj : j < xs.length) (hn : xs.length = n) (w : World) (hS : SoB w0 A n cap w) (r : Int) (hr : cmpI xs[i].1 xs[i].2 xs[j].1 xs[j].2 = r) :
    Calls Try.prog 17 #[.int .i64 i, .int .i64 j, .pointer (some ⟨w0.heap.size, 0, none⟩)] w fun e w' => e = .returned (.int .i64 r) ∧ Below w.heap.size w w' := by
  subst hn; subst hr; exact clo_any hA hv i j hi hj w hS
def InsRet (w0 : World) (A : Option Addr) (cap : Nat) (xs : List (Int × Int)) (g : Nat) (e : Ending) (w' : World) : Prop :=
  ∃ l : List Nat, e = .returned (.tuple #[]) ∧ IsOrder xs l ∧ l.length = xs.length ∧ SoB w0 A xs.length cap w' ∧ IBlk w' g 3 (nat l)
set_option maxRecDepth 100000 in
set_option maxHeartbeats 8000000 in
theorem ins_any {w0 : World} {A : Option Addr} {cap cp : Nat} {xs : List (Int × Int)} (hA : WRow w0 A xs) (hv : wsB xs = true) (g n : Nat) (hn : xs.length = n) (hg : w0.heap.size < g) (w : World) (hS : SoB w0 A n cap w) (hG : IBlk w g 3 (nat (List.range n))) :
    Calls Try.prog 37 #[.slice (some ⟨g, 0, none⟩) n cp, .int .i64 0, .int .i64 n, .func (.func 17) #[] #[.pointer (some ⟨w0.heap.size, 0, none⟩)]] w (InsRet w0 A cap xs g) := by
  have hn8 := go_len hv
  rw [hn] at hn8
  have HN := Lib.hid hn
  have HV := Lib.hid (And.intro hA hv)
  clear hn hA hv
  by_cases h1 : n ≤ 1
  · have HI : Hid (IsOrder xs (List.range n)) := by
      refine ⟨?_, fun i => by rw [HN.out]; simp⟩
      have : n = 0 ∨ n = 1 := by omega
      rcases this with rfl | rfl
      · exact .nil
      · simp
    have HS := Lib.hid hS
    have hi : ¬ (1 : Int) < (n : Int) := by omega
    clear hS h1
    go_enter Try.func37, Try.ntmps37
    go_wp2_with fail
    go_loopw [8] (fun vi wr => vi = .int .i64 1 ∧ w = wr) (fun _ _ => 0)
    case atStart => exact ⟨rfl, rfl⟩
    case round =>
      obtain ⟨rfl, rfl⟩ := hrel
      go_wp2
      go_end0
      exact ⟨List.range n, rfl, HI.out, by rw [HN.out]; simp, by rw [HN.out]; exact HS.out, hG⟩
  · go_enter Try.func37, Try.ntmps37
    go_wp2_with fail
    go_loopw [8] (fun vi wr => ∃ (i : Nat) (l : List Nat), vi = .int .i64 i ∧ 1 ≤ i ∧ i ≤ n ∧ Srt xs i l ∧ SoB w0 A n cap wr ∧ IBlk wr g 3 (nat (l ++ List.range' i (n - i)))) (fun vi _ => (n - intOf vi).toNat)
    case atStart => exact ⟨1, [0], rfl, by omega, by omega, Srt.one xs, hS, by
      refine set_same hG ?_
      rw [show n = 1 + (n - 1) by omega, List.range_eq_range', ← List.range'_append_1]; simp⟩
    case round =>
      clear hS hG
      obtain ⟨i, l, rfl, i1, i2, hs, hS, hG⟩ := hrel
      by_cases hlt : i < n
      · rw [range_step hlt] at hG
        have hI := hs.ins
        have hil : l.length = i := hs.1
        have hi3 : (i : Int) < (n : Int) := by omega
        have hi4 : i < xs.length := by rw [HN.out]; exact hlt
        go_wp2_with fail
        go_loopw [9] (fun vj wx => ∃ (j : Nat) (a b : List Nat), vj = .int .i64 j ∧ a.length = j ∧ a.length + b.length = i ∧ Ins xs i a b ∧ SoB w0 A n cap wx ∧ IBlk wx g 3 (nat (a ++ i :: b ++ List.range' (i + 1) (n - (i + 1))))) (fun vj _ => (intOf vj).toNat)
        case atStart => exact ⟨i, l, [], rfl, hil, by simpa using hil, hI, hS, by simpa using hG⟩
        case round =>
          clear hS hG hI hs hil
          obtain ⟨j, a, b, rfl, haj, hab, hI, hS, hG⟩ := hrel
          rcases List.eq_nil_or_concat a with rfl | ⟨a, x, rfl⟩
          · have hj : j = 0 := by simpa using haj.symm
            have hd : decide ((j : Int) > 0) = false := decide_eq_false (by omega)
            have hd' : ¬ (0 : Int) < (j : Int) := by omega
            have hd2 : decide (0 < j) = false := decide_eq_false (by omega)
            have hd3 : ¬ 0 < j := by omega
            have HD : Hid (Srt xs (i + 1) ([] ++ i :: b)) := by
              have := hI.done (all_go HV.out.2) hi4 (by simp)
              exact ⟨by simp at hab ⊢; omega, this.1, this.2⟩
            clear hj haj hI
            go_wp2_with fail
            refine wp_region_held_drew (S := (fun w' => SoB w0 A n cap w' ∧ IBlk w' g 3 (nat ([] ++ i :: b ++ List.range' (i + 1) (n - (i + 1)))))) (by kernel_rfl) ⟨hS.drew, hG⟩ (fun hHeld => ?_)
            obtain ⟨hS_0, hG_0⟩ := id hHeld
            refine wpAnyH_take (i := 0) (oi := _) (v := ?_) rfl (by kernel_rfl) (by kernel_rfl) (by kernel_rfl) (fun _ _ _ h => h) (Or.inl ⟨by rfl, ?_⟩) (by assumption) ?_
            (rotate_left); (focus (intro wv hSw; (obtain ⟨qS, qG⟩ := hSw);  go_simp; (try with_reducible rfl)))
            try simp only [Act.put, List.getElem_toArray, List.getElem_cons_succ, List.getElem_cons_zero, List.setIfInBounds_toArray, List.set_cons_zero, List.set_cons_succ]
            refine wpAnyH_take (i := 1) (oi := _) (v := ?_) rfl (by kernel_rfl) (by kernel_rfl) (by kernel_rfl) (fun _ _ _ h => h) (Or.inl ⟨by rfl, ?_⟩) (by assumption) ?_
            (rotate_left); (focus (intro wv hSw; (obtain ⟨qS, qG⟩ := hSw);  go_simp; (try with_reducible rfl)))
            try simp only [Act.put, List.getElem_toArray, List.getElem_cons_succ, List.getElem_cons_zero, List.setIfInBounds_toArray, List.set_cons_zero, List.set_cons_succ]
            refine wpAnyH_take (i := 2) (oi := _) (v := ?_) rfl (by kernel_rfl) (by kernel_rfl) (by kernel_rfl) (fun _ _ _ h => h) (Or.inl ⟨by rfl, ?_⟩) (by assumption) ?_
            (rotate_left); (focus (intro wv hSw; (obtain ⟨qS, qG⟩ := hSw);  go_simp; (try with_reducible rfl)))
            try simp only [Act.put, List.getElem_toArray, List.getElem_cons_succ, List.getElem_cons_zero, List.setIfInBounds_toArray, List.set_cons_zero, List.set_cons_succ]
            refine wpAnyH_take (i := 3) (oi := _) (v := ?_) rfl (by kernel_rfl) (by kernel_rfl) (by kernel_rfl) (fun _ _ _ h => h) (Or.inl ⟨by rfl, ?_⟩) (by assumption) ?_
            (rotate_left); (focus (intro wv hSw; (obtain ⟨qS, qG⟩ := hSw);  go_simp; (try with_reducible rfl)))
            try simp only [Act.put, List.getElem_toArray, List.getElem_cons_succ, List.getElem_cons_zero, List.setIfInBounds_toArray, List.set_cons_zero, List.set_cons_succ]
            refine wpAnyH_take (i := 4) (oi := _) (v := undef) rfl (by kernel_rfl) (by kernel_rfl) (by kernel_rfl) (fun _ _ _ h => h) (Or.inr ⟨by kernel_rfl, rfl⟩) (by assumption) ?_
            try simp only [Act.put, List.getElem_toArray, List.getElem_cons_succ, List.getElem_cons_zero, List.setIfInBounds_toArray, List.set_cons_zero, List.set_cons_succ]
            refine wpAnyH_take (i := 5) (oi := _) (v := undef) rfl (by kernel_rfl) (by kernel_rfl) (by kernel_rfl) (fun _ _ _ h => h) (Or.inr ⟨by kernel_rfl, rfl⟩) (by assumption) ?_
            try simp only [Act.put, List.getElem_toArray, List.getElem_cons_succ, List.getElem_cons_zero, List.setIfInBounds_toArray, List.set_cons_zero, List.set_cons_succ]
            refine wpAnyH_take (i := 6) (oi := _) (v := undef) rfl (by kernel_rfl) (by kernel_rfl) (by kernel_rfl) (fun _ _ _ h => h) (Or.inr ⟨by kernel_rfl, rfl⟩) (by assumption) ?_
            try simp only [Act.put, List.getElem_toArray, List.getElem_cons_succ, List.getElem_cons_zero, List.setIfInBounds_toArray, List.set_cons_zero, List.set_cons_succ]
            refine wpAnyH_take (i := 7) (oi := _) (v := undef) rfl (by kernel_rfl) (by kernel_rfl) (by kernel_rfl) (fun _ _ _ h => h) (Or.inr ⟨by kernel_rfl, rfl⟩) (by assumption) ?_
            try simp only [Act.put, List.getElem_toArray, List.getElem_cons_succ, List.getElem_cons_zero, List.setIfInBounds_toArray, List.set_cons_zero, List.set_cons_succ]
            refine wpAnyH_take (i := 8) (oi := _) (v := undef) rfl (by kernel_rfl) (by kernel_rfl) (by kernel_rfl) (fun _ _ _ h => h) (Or.inr ⟨by kernel_rfl, rfl⟩) (by assumption) ?_
            try simp only [Act.put, List.getElem_toArray, List.getElem_cons_succ, List.getElem_cons_zero, List.setIfInBounds_toArray, List.set_cons_zero, List.set_cons_succ]
            refine wpAnyH_take (i := 9) (oi := _) (v := undef) rfl (by kernel_rfl) (by kernel_rfl) (by kernel_rfl) (fun _ _ _ h => h) (Or.inr ⟨by kernel_rfl, rfl⟩) (by assumption) ?_
            try simp only [Act.put, List.getElem_toArray, List.getElem_cons_succ, List.getElem_cons_zero, List.setIfInBounds_toArray, List.set_cons_zero, List.set_cons_succ]
            refine wpAnyH_take (i := 10) (oi := _) (v := undef) rfl (by kernel_rfl) (by kernel_rfl) (by kernel_rfl) (fun _ _ _ h => h) (Or.inr ⟨by kernel_rfl, rfl⟩) (by assumption) ?_
            try simp only [Act.put, List.getElem_toArray, List.getElem_cons_succ, List.getElem_cons_zero, List.setIfInBounds_toArray, List.set_cons_zero, List.set_cons_succ]
            refine wpAnyH_take (i := 11) (oi := _) (v := undef) rfl (by kernel_rfl) (by kernel_rfl) (by kernel_rfl) (fun _ _ _ h => h) (Or.inr ⟨by kernel_rfl, rfl⟩) (by assumption) ?_
            try simp only [Act.put, List.getElem_toArray, List.getElem_cons_succ, List.getElem_cons_zero, List.setIfInBounds_toArray, List.set_cons_zero, List.set_cons_succ]
            refine wpAnyH_take (i := 12) (oi := _) (v := undef) rfl (by kernel_rfl) (by kernel_rfl) (by kernel_rfl) (fun _ _ _ h => h) (Or.inr ⟨by kernel_rfl, rfl⟩) (by assumption) ?_
            try simp only [Act.put, List.getElem_toArray, List.getElem_cons_succ, List.getElem_cons_zero, List.setIfInBounds_toArray, List.set_cons_zero, List.set_cons_succ]
            refine wpAnyH_take (i := 13) (oi := _) (v := undef) rfl (by kernel_rfl) (by kernel_rfl) (by kernel_rfl) (fun _ _ _ h => h) (Or.inr ⟨by kernel_rfl, rfl⟩) (by assumption) ?_
            try simp only [Act.put, List.getElem_toArray, List.getElem_cons_succ, List.getElem_cons_zero, List.setIfInBounds_toArray, List.set_cons_zero, List.set_cons_succ]
            refine wpAnyH_take (i := 14) (oi := _) (v := undef) rfl (by kernel_rfl) (by kernel_rfl) (by kernel_rfl) (fun _ _ _ h => h) (Or.inr ⟨by kernel_rfl, rfl⟩) (by assumption) ?_
            try simp only [Act.put, List.getElem_toArray, List.getElem_cons_succ, List.getElem_cons_zero, List.setIfInBounds_toArray, List.set_cons_zero, List.set_cons_succ]
            refine wpAnyH_take (i := 15) (oi := _) (v := undef) rfl (by kernel_rfl) (by kernel_rfl) (by kernel_rfl) (fun _ _ _ h => h) (Or.inr ⟨by kernel_rfl, rfl⟩) (by assumption) ?_
            try simp only [Act.put, List.getElem_toArray, List.getElem_cons_succ, List.getElem_cons_zero, List.setIfInBounds_toArray, List.set_cons_zero, List.set_cons_succ]
            refine wpAnyH_take (i := 16) (oi := _) (v := ?_) rfl (by kernel_rfl) (by kernel_rfl) (by kernel_rfl) (fun _ _ _ h => h) (Or.inl ⟨by rfl, ?_⟩) (by assumption) ?_
            (rotate_left); (focus (intro wv hSw; (obtain ⟨qS, qG⟩ := hSw);  go_simp; (try with_reducible rfl)))
            try simp only [Act.put, List.getElem_toArray, List.getElem_cons_succ, List.getElem_cons_zero, List.setIfInBounds_toArray, List.set_cons_zero, List.set_cons_succ]
            refine wpAnyH_done (by kernel_rfl) ?_ _
            go_wp2_with fail
            go_roundw
            case rel => exact ⟨i + 1, _, by go_num, by omega, by omega, HD.out, hS_0, hG_0⟩
            case measure => simp [intOf]; omega
          · rw [List.concat_eq_append] at haj hab hI hG
            obtain ⟨k, hk⟩ : ∃ k, a.length = k := ⟨_, rfl⟩
            obtain rfl : j = k + 1 := by simp at haj; omega
            have hxi : x < i := hI.len x (by simp)
            have hx4 : x < xs.length := by omega
            have hki : k < i := by simp at hab; omega
            have HY : Hid (∀ wv, IBlk wv g 3 (nat (a ++ [x] ++ i :: b ++ List.range' (i + 1) (n - (i + 1)))) → wv.cell? ⟨g, k + 1, none⟩ = some (.int .i64 i) ∧ wv.cell? ⟨g, k, none⟩ = some (.int .i64 x) ∧ wv.frozen? ⟨g, k + 1, none⟩ = false ∧ wv.frozen? ⟨g, k, none⟩ = false) := by
              intro wv h
              refine ⟨?_, ?_, h.frozen _, h.frozen _⟩
              · have := h.cell (k + 1) (by simp [nat]; omega)
                rw [this]; congr 2; subst hk; simp [nat, List.getElem_append_right]
              · have := h.cell k (by simp [nat]; omega)
                rw [this]; congr 2; subst hk; simp [nat, List.getElem_append_left, List.getElem_append_right]
            obtain ⟨r, hr⟩ : ∃ r, cmpI xs[i].1 xs[i].2 xs[x].1 xs[x].2 = r := ⟨_, rfl⟩
            have HR := Lib.hid hr
            have e1 : ((k : Int) + 1).toNat = k + 1 := by omega
            have e2 : IntKind.i64.wrap ((k : Int) + 1 - 1) = (k : Int) := by rw [show (k : Int) + 1 - 1 = (k : Int) by omega]; exact IntWalk.i64_in _ (by omega)
            have e7 : IntKind.i64.wrap (k : Int) = (k : Int) := IntWalk.i64_in _ (by omega)
            have e8 : (0 : Int) ≤ (k : Int) := by omega
            have e3 : (k : Int) + 1 < (n : Int) := by omega
            have e4 : (k : Int) < (n : Int) := by omega
            have e5 : (0 : Int) ≤ (k : Int) + 1 := by omega
            have e6 : (0 : Int) < (k : Int) + 1 := by omega
            have hc : ((k + 1 : Nat) : Int) = (k : Int) + 1 := by omega
            rw [hc]
            clear hr hc haj
            cases hb : befB xs[i].1 xs[i].2 xs[x].1 xs[x].2
            · have hr0 : ¬ r < 0 := by have := cmp_neg (a := xs[i].1) (b := xs[i].2) (c := xs[x].1) (d := xs[x].2); rw [HR.out, hb] at this; simpa using this
              have HD : Hid (Srt xs (i + 1) (a ++ [x] ++ i :: b)) := by
                have := hI.done (all_go HV.out.2) hi4 (fun y hy => by
                  simp at hy; subst hy
                  exact pre_of_nbef hxi (by rw [wy_at hx4, wy_at hi4]; intro h; rw [befB_iff.2 h] at hb; cases hb))
                exact ⟨by simp at hab ⊢; omega, this.1, this.2⟩
              clear hb hI hk hab
              go_wp2_with fail
              refine wp_region_held_drew (S := (fun w' => SoB w0 A n cap w' ∧ IBlk w' g 3 (nat (a ++ [x] ++ i :: b ++ List.range' (i + 1) (n - (i + 1)))))) (by kernel_rfl) ⟨hS.drew, hG⟩ (fun hHeld => ?_)
              obtain ⟨hS_0, hG_0⟩ := id hHeld
              refine wpAnyH_take (i := 0) (oi := _) (v := ?_) rfl (by kernel_rfl) (by kernel_rfl) (by kernel_rfl) (fun _ _ _ h => h) (Or.inl ⟨by rfl, ?_⟩) (by assumption) ?_
              (rotate_left); (focus (intro wv hSw; (obtain ⟨qS, qG⟩ := hSw);  go_simp; (try with_reducible rfl)))
              try simp only [Act.put, List.getElem_toArray, List.getElem_cons_succ, List.getElem_cons_zero, List.setIfInBounds_toArray, List.set_cons_zero, List.set_cons_succ]
              refine wpAnyH_take (i := 1) (oi := _) (v := ?_) rfl (by kernel_rfl) (by kernel_rfl) (by kernel_rfl) (fun _ _ _ h => h) (Or.inl ⟨by rfl, ?_⟩) (by assumption) ?_
              (rotate_left); (focus (intro wv hSw; (obtain ⟨qS, qG⟩ := hSw);  go_simp; (try with_reducible rfl)))
              try simp only [Act.put, List.getElem_toArray, List.getElem_cons_succ, List.getElem_cons_zero, List.setIfInBounds_toArray, List.set_cons_zero, List.set_cons_succ]
              refine wpAnyH_take (i := 2) (oi := _) (v := ?_) rfl (by kernel_rfl) (by kernel_rfl) (by kernel_rfl) (fun _ _ _ h => h) (Or.inl ⟨by rfl, ?_⟩) (by assumption) ?_
              (rotate_left); (focus (intro wv hSw; (obtain ⟨qS, qG⟩ := hSw);  go_simp; (try with_reducible rfl)))
              try simp only [Act.put, List.getElem_toArray, List.getElem_cons_succ, List.getElem_cons_zero, List.setIfInBounds_toArray, List.set_cons_zero, List.set_cons_succ]
              refine wpAnyH_take (i := 3) (oi := _) (v := ?_) rfl (by kernel_rfl) (by kernel_rfl) (by kernel_rfl) (fun _ _ _ h => h) (Or.inl ⟨by rfl, ?_⟩) (by assumption) ?_
              (rotate_left); (focus (intro wv hSw; (obtain ⟨qS, qG⟩ := hSw);  go_simp; (try with_reducible rfl)))
              try simp only [Act.put, List.getElem_toArray, List.getElem_cons_succ, List.getElem_cons_zero, List.setIfInBounds_toArray, List.set_cons_zero, List.set_cons_succ]
              refine wpAnyH_take (i := 4) (oi := _) (v := ?_) rfl (by kernel_rfl) (by kernel_rfl) (by kernel_rfl) (fun _ _ _ h => h) (Or.inl ⟨by rfl, ?_⟩) (by assumption) ?_
              (rotate_left); (focus (intro wv hSw; (obtain ⟨qS, qG⟩ := hSw);  go_simp; (try with_reducible rfl)))
              try simp only [Act.put, List.getElem_toArray, List.getElem_cons_succ, List.getElem_cons_zero, List.setIfInBounds_toArray, List.set_cons_zero, List.set_cons_succ]
              refine wpAnyH_take (i := 5) (oi := _) (v := ?_) rfl (by kernel_rfl) (by kernel_rfl) (by kernel_rfl) (fun _ _ _ h => h) (Or.inl ⟨by rfl, ?_⟩) (by assumption) ?_
              (rotate_left); (focus (intro wv hSw; (obtain ⟨qS, qG⟩ := hSw);  go_simp; (try with_reducible rfl)))
              try simp only [Act.put, List.getElem_toArray, List.getElem_cons_succ, List.getElem_cons_zero, List.setIfInBounds_toArray, List.set_cons_zero, List.set_cons_succ]
              refine wpAnyH_take (i := 6) (oi := _) (v := ?_) rfl (by kernel_rfl) (by kernel_rfl) (by kernel_rfl) (fun _ _ _ h => h) (Or.inl ⟨by rfl, ?_⟩) (by assumption) ?_
              (rotate_left); (focus (intro wv hSw; (obtain ⟨qS, qG⟩ := hSw);  go_simp; (try with_reducible rfl)))
              try simp only [Act.put, List.getElem_toArray, List.getElem_cons_succ, List.getElem_cons_zero, List.setIfInBounds_toArray, List.set_cons_zero, List.set_cons_succ]
              refine wpAnyH_take (i := 7) (oi := _) (v := ?_) rfl (by kernel_rfl) (by kernel_rfl) (by kernel_rfl) (fun _ _ _ h => h) (Or.inl ⟨by rfl, ?_⟩) (by assumption) ?_
              (rotate_left); (focus (intro wv hSw; (obtain ⟨qS, qG⟩ := hSw);  go_simp; (try with_reducible rfl)))
              try simp only [Act.put, List.getElem_toArray, List.getElem_cons_succ, List.getElem_cons_zero, List.setIfInBounds_toArray, List.set_cons_zero, List.set_cons_succ]
              refine wpAnyH_take (i := 8) (oi := _) (v := ?_) rfl (by kernel_rfl) (by kernel_rfl) (by kernel_rfl) (fun _ _ _ h => h) (Or.inl ⟨by rfl, ?_⟩) (by assumption) ?_
              (rotate_left); (focus (intro wv hSw; (obtain ⟨qS, qG⟩ := hSw); obtain ⟨k0, k1, _, _⟩ := HY.out wv qG; go_simp; (try with_reducible rfl)))
              try simp only [Act.put, List.getElem_toArray, List.getElem_cons_succ, List.getElem_cons_zero, List.setIfInBounds_toArray, List.set_cons_zero, List.set_cons_succ]
              refine wpAnyH_take (i := 9) (oi := _) (v := ?_) rfl (by kernel_rfl) (by kernel_rfl) (by kernel_rfl) (fun _ _ _ h => h) (Or.inl ⟨by rfl, ?_⟩) (by assumption) ?_
              (rotate_left); (focus (intro wv hSw; (obtain ⟨qS, qG⟩ := hSw);  go_simp; (try with_reducible rfl)))
              try simp only [Act.put, List.getElem_toArray, List.getElem_cons_succ, List.getElem_cons_zero, List.setIfInBounds_toArray, List.set_cons_zero, List.set_cons_succ]
              refine wpAnyH_take (i := 10) (oi := _) (v := ?_) rfl (by kernel_rfl) (by kernel_rfl) (by kernel_rfl) (fun _ _ _ h => h) (Or.inl ⟨by rfl, ?_⟩) (by assumption) ?_
              (rotate_left); (focus (intro wv hSw; (obtain ⟨qS, qG⟩ := hSw);  go_simp; (try with_reducible rfl)))
              try simp only [Act.put, List.getElem_toArray, List.getElem_cons_succ, List.getElem_cons_zero, List.setIfInBounds_toArray, List.set_cons_zero, List.set_cons_succ]
              refine wpAnyH_take (i := 11) (oi := _) (v := ?_) rfl (by kernel_rfl) (by kernel_rfl) (by kernel_rfl) (fun _ _ _ h => h) (Or.inl ⟨by rfl, ?_⟩) (by assumption) ?_
              (rotate_left); (focus (intro wv hSw; (obtain ⟨qS, qG⟩ := hSw);  go_simp; (try with_reducible rfl)))
              try simp only [Act.put, List.getElem_toArray, List.getElem_cons_succ, List.getElem_cons_zero, List.setIfInBounds_toArray, List.set_cons_zero, List.set_cons_succ]
              refine wpAnyH_take (i := 12) (oi := _) (v := ?_) rfl (by kernel_rfl) (by kernel_rfl) (by kernel_rfl) (fun _ _ _ h => h) (Or.inl ⟨by rfl, ?_⟩) (by assumption) ?_
              (rotate_left); (focus (intro wv hSw; (obtain ⟨qS, qG⟩ := hSw);  go_simp; (try with_reducible rfl)))
              try simp only [Act.put, List.getElem_toArray, List.getElem_cons_succ, List.getElem_cons_zero, List.setIfInBounds_toArray, List.set_cons_zero, List.set_cons_succ]
              refine wpAnyH_take (i := 13) (oi := _) (v := ?_) rfl (by kernel_rfl) (by kernel_rfl) (by kernel_rfl) (fun _ _ _ h => h) (Or.inl ⟨by rfl, ?_⟩) (by assumption) ?_
              (rotate_left); (focus (intro wv hSw; (obtain ⟨qS, qG⟩ := hSw); obtain ⟨k0, k1, _, _⟩ := HY.out wv qG; go_simp; (try with_reducible rfl)))
              try simp only [Act.put, List.getElem_toArray, List.getElem_cons_succ, List.getElem_cons_zero, List.setIfInBounds_toArray, List.set_cons_zero, List.set_cons_succ]
              refine wpAnyH_ready (rs := [14]) (by kernel_rfl) (by simp) ?_
              refine AllReadyH.cons (o := _) rfl (fun K hK => ?_) AllReadyH.nil
              go_simp
              (go_at_call 17; refine (clo_is HV.out.1 HV.out.2 i x hi4 hx4 HN.out _ hS_0 r HR.out).mono ?_; rintro e x0c ⟨rfl, hw_0c⟩)
              refine hK.out _ _ ⟨hS_0.next hw_0c, hG_0.next hw_0c⟩ (fun hHeld => ?_)
              clear hK K
              try simp only [Act.put, List.getElem_toArray, List.getElem_cons_succ, List.getElem_cons_zero, List.setIfInBounds_toArray, List.set_cons_zero, List.set_cons_succ]
              obtain ⟨hS_0c, hG_0c⟩ := id hHeld
              refine wpAnyH_take (i := 15) (oi := _) (v := ?_) rfl (by kernel_rfl) (by kernel_rfl) (by kernel_rfl) (fun _ _ _ h => h) (Or.inl ⟨by rfl, ?_⟩) (by assumption) ?_
              (rotate_left); (focus (intro wv hSw; (obtain ⟨qS, qG⟩ := hSw);  go_simp; (try with_reducible rfl)))
              try simp only [Act.put, List.getElem_toArray, List.getElem_cons_succ, List.getElem_cons_zero, List.setIfInBounds_toArray, List.set_cons_zero, List.set_cons_succ]
              refine wpAnyH_take (i := 16) (oi := _) (v := ?_) rfl (by kernel_rfl) (by kernel_rfl) (by kernel_rfl) (fun _ _ _ h => h) (Or.inl ⟨by rfl, ?_⟩) (by assumption) ?_
              (rotate_left); (focus (intro wv hSw; (obtain ⟨qS, qG⟩ := hSw);  go_simp; (try with_reducible rfl)))
              try simp only [Act.put, List.getElem_toArray, List.getElem_cons_succ, List.getElem_cons_zero, List.setIfInBounds_toArray, List.set_cons_zero, List.set_cons_succ]
              refine wpAnyH_done (by kernel_rfl) ?_ _
              go_wp2_with fail
              go_roundw
              case rel => exact ⟨i + 1, _, by go_num, by omega, by omega, HD.out, hS_0c, hG_0c⟩
              case measure => simp [intOf]; omega
            · have hr0 : r < 0 := by have := cmp_neg (a := xs[i].1) (b := xs[i].2) (c := xs[x].1) (d := xs[x].2); rw [HR.out, hb] at this; simpa using this
              have HI2 : Hid (Ins xs i a (x :: b)) := hI.step (.inl (by rw [wy_at hx4, wy_at hi4]; exact befB_iff.1 hb))
              clear hb hI
              go_wp2_with fail
              refine wp_region_held_drew (S := (fun w' => SoB w0 A n cap w' ∧ IBlk w' g 3 (nat (a ++ [x] ++ i :: b ++ List.range' (i + 1) (n - (i + 1)))))) (by kernel_rfl) ⟨hS.drew, hG⟩ (fun hHeld => ?_)
              obtain ⟨hS_0, hG_0⟩ := id hHeld
              refine wpAnyH_take (i := 0) (oi := _) (v := ?_) rfl (by kernel_rfl) (by kernel_rfl) (by kernel_rfl) (fun _ _ _ h => h) (Or.inl ⟨by rfl, ?_⟩) (by assumption) ?_
              (rotate_left); (focus (intro wv hSw; (obtain ⟨qS, qG⟩ := hSw);  go_simp; (try with_reducible rfl)))
              try simp only [Act.put, List.getElem_toArray, List.getElem_cons_succ, List.getElem_cons_zero, List.setIfInBounds_toArray, List.set_cons_zero, List.set_cons_succ]
              refine wpAnyH_take (i := 1) (oi := _) (v := ?_) rfl (by kernel_rfl) (by kernel_rfl) (by kernel_rfl) (fun _ _ _ h => h) (Or.inl ⟨by rfl, ?_⟩) (by assumption) ?_
              (rotate_left); (focus (intro wv hSw; (obtain ⟨qS, qG⟩ := hSw);  go_simp; (try with_reducible rfl)))
              try simp only [Act.put, List.getElem_toArray, List.getElem_cons_succ, List.getElem_cons_zero, List.setIfInBounds_toArray, List.set_cons_zero, List.set_cons_succ]
              refine wpAnyH_take (i := 2) (oi := _) (v := ?_) rfl (by kernel_rfl) (by kernel_rfl) (by kernel_rfl) (fun _ _ _ h => h) (Or.inl ⟨by rfl, ?_⟩) (by assumption) ?_
              (rotate_left); (focus (intro wv hSw; (obtain ⟨qS, qG⟩ := hSw);  go_simp; (try with_reducible rfl)))
              try simp only [Act.put, List.getElem_toArray, List.getElem_cons_succ, List.getElem_cons_zero, List.setIfInBounds_toArray, List.set_cons_zero, List.set_cons_succ]
              refine wpAnyH_take (i := 3) (oi := _) (v := ?_) rfl (by kernel_rfl) (by kernel_rfl) (by kernel_rfl) (fun _ _ _ h => h) (Or.inl ⟨by rfl, ?_⟩) (by assumption) ?_
              (rotate_left); (focus (intro wv hSw; (obtain ⟨qS, qG⟩ := hSw);  go_simp; (try with_reducible rfl)))
              try simp only [Act.put, List.getElem_toArray, List.getElem_cons_succ, List.getElem_cons_zero, List.setIfInBounds_toArray, List.set_cons_zero, List.set_cons_succ]
              refine wpAnyH_take (i := 4) (oi := _) (v := ?_) rfl (by kernel_rfl) (by kernel_rfl) (by kernel_rfl) (fun _ _ _ h => h) (Or.inl ⟨by rfl, ?_⟩) (by assumption) ?_
              (rotate_left); (focus (intro wv hSw; (obtain ⟨qS, qG⟩ := hSw);  go_simp; (try with_reducible rfl)))
              try simp only [Act.put, List.getElem_toArray, List.getElem_cons_succ, List.getElem_cons_zero, List.setIfInBounds_toArray, List.set_cons_zero, List.set_cons_succ]
              refine wpAnyH_take (i := 5) (oi := _) (v := ?_) rfl (by kernel_rfl) (by kernel_rfl) (by kernel_rfl) (fun _ _ _ h => h) (Or.inl ⟨by rfl, ?_⟩) (by assumption) ?_
              (rotate_left); (focus (intro wv hSw; (obtain ⟨qS, qG⟩ := hSw);  go_simp; (try with_reducible rfl)))
              try simp only [Act.put, List.getElem_toArray, List.getElem_cons_succ, List.getElem_cons_zero, List.setIfInBounds_toArray, List.set_cons_zero, List.set_cons_succ]
              refine wpAnyH_take (i := 6) (oi := _) (v := ?_) rfl (by kernel_rfl) (by kernel_rfl) (by kernel_rfl) (fun _ _ _ h => h) (Or.inl ⟨by rfl, ?_⟩) (by assumption) ?_
              (rotate_left); (focus (intro wv hSw; (obtain ⟨qS, qG⟩ := hSw);  go_simp; (try with_reducible rfl)))
              try simp only [Act.put, List.getElem_toArray, List.getElem_cons_succ, List.getElem_cons_zero, List.setIfInBounds_toArray, List.set_cons_zero, List.set_cons_succ]
              refine wpAnyH_take (i := 7) (oi := _) (v := ?_) rfl (by kernel_rfl) (by kernel_rfl) (by kernel_rfl) (fun _ _ _ h => h) (Or.inl ⟨by rfl, ?_⟩) (by assumption) ?_
              (rotate_left); (focus (intro wv hSw; (obtain ⟨qS, qG⟩ := hSw);  go_simp; (try with_reducible rfl)))
              try simp only [Act.put, List.getElem_toArray, List.getElem_cons_succ, List.getElem_cons_zero, List.setIfInBounds_toArray, List.set_cons_zero, List.set_cons_succ]
              refine wpAnyH_take (i := 8) (oi := _) (v := ?_) rfl (by kernel_rfl) (by kernel_rfl) (by kernel_rfl) (fun _ _ _ h => h) (Or.inl ⟨by rfl, ?_⟩) (by assumption) ?_
              (rotate_left); (focus (intro wv hSw; (obtain ⟨qS, qG⟩ := hSw); obtain ⟨k0, k1, _, _⟩ := HY.out wv qG; go_simp; (try with_reducible rfl)))
              try simp only [Act.put, List.getElem_toArray, List.getElem_cons_succ, List.getElem_cons_zero, List.setIfInBounds_toArray, List.set_cons_zero, List.set_cons_succ]
              refine wpAnyH_take (i := 9) (oi := _) (v := ?_) rfl (by kernel_rfl) (by kernel_rfl) (by kernel_rfl) (fun _ _ _ h => h) (Or.inl ⟨by rfl, ?_⟩) (by assumption) ?_
              (rotate_left); (focus (intro wv hSw; (obtain ⟨qS, qG⟩ := hSw);  go_simp; (try with_reducible rfl)))
              try simp only [Act.put, List.getElem_toArray, List.getElem_cons_succ, List.getElem_cons_zero, List.setIfInBounds_toArray, List.set_cons_zero, List.set_cons_succ]
              refine wpAnyH_take (i := 10) (oi := _) (v := ?_) rfl (by kernel_rfl) (by kernel_rfl) (by kernel_rfl) (fun _ _ _ h => h) (Or.inl ⟨by rfl, ?_⟩) (by assumption) ?_
              (rotate_left); (focus (intro wv hSw; (obtain ⟨qS, qG⟩ := hSw);  go_simp; (try with_reducible rfl)))
              try simp only [Act.put, List.getElem_toArray, List.getElem_cons_succ, List.getElem_cons_zero, List.setIfInBounds_toArray, List.set_cons_zero, List.set_cons_succ]
              refine wpAnyH_take (i := 11) (oi := _) (v := ?_) rfl (by kernel_rfl) (by kernel_rfl) (by kernel_rfl) (fun _ _ _ h => h) (Or.inl ⟨by rfl, ?_⟩) (by assumption) ?_
              (rotate_left); (focus (intro wv hSw; (obtain ⟨qS, qG⟩ := hSw);  go_simp; (try with_reducible rfl)))
              try simp only [Act.put, List.getElem_toArray, List.getElem_cons_succ, List.getElem_cons_zero, List.setIfInBounds_toArray, List.set_cons_zero, List.set_cons_succ]
              refine wpAnyH_take (i := 12) (oi := _) (v := ?_) rfl (by kernel_rfl) (by kernel_rfl) (by kernel_rfl) (fun _ _ _ h => h) (Or.inl ⟨by rfl, ?_⟩) (by assumption) ?_
              (rotate_left); (focus (intro wv hSw; (obtain ⟨qS, qG⟩ := hSw);  go_simp; (try with_reducible rfl)))
              try simp only [Act.put, List.getElem_toArray, List.getElem_cons_succ, List.getElem_cons_zero, List.setIfInBounds_toArray, List.set_cons_zero, List.set_cons_succ]
              refine wpAnyH_take (i := 13) (oi := _) (v := ?_) rfl (by kernel_rfl) (by kernel_rfl) (by kernel_rfl) (fun _ _ _ h => h) (Or.inl ⟨by rfl, ?_⟩) (by assumption) ?_
              (rotate_left); (focus (intro wv hSw; (obtain ⟨qS, qG⟩ := hSw); obtain ⟨k0, k1, _, _⟩ := HY.out wv qG; go_simp; (try with_reducible rfl)))
              try simp only [Act.put, List.getElem_toArray, List.getElem_cons_succ, List.getElem_cons_zero, List.setIfInBounds_toArray, List.set_cons_zero, List.set_cons_succ]
              refine wpAnyH_ready (rs := [14]) (by kernel_rfl) (by simp) ?_
              refine AllReadyH.cons (o := _) rfl (fun K hK => ?_) AllReadyH.nil
              go_simp
              (go_at_call 17; refine (clo_is HV.out.1 HV.out.2 i x hi4 hx4 HN.out _ hS_0 r HR.out).mono ?_; rintro e x0c ⟨rfl, hw_0c⟩)
              refine hK.out _ _ ⟨hS_0.next hw_0c, hG_0.next hw_0c⟩ (fun hHeld => ?_)
              clear hK K
              try simp only [Act.put, List.getElem_toArray, List.getElem_cons_succ, List.getElem_cons_zero, List.setIfInBounds_toArray, List.set_cons_zero, List.set_cons_succ]
              obtain ⟨hS_0c, hG_0c⟩ := id hHeld
              refine wpAnyH_take (i := 15) (oi := _) (v := ?_) rfl (by kernel_rfl) (by kernel_rfl) (by kernel_rfl) (fun _ _ _ h => h) (Or.inl ⟨by rfl, ?_⟩) (by assumption) ?_
              (rotate_left); (focus (intro wv hSw; (obtain ⟨qS, qG⟩ := hSw);  go_simp; (try with_reducible rfl)))
              try simp only [Act.put, List.getElem_toArray, List.getElem_cons_succ, List.getElem_cons_zero, List.setIfInBounds_toArray, List.set_cons_zero, List.set_cons_succ]
              refine wpAnyH_take (i := 16) (oi := _) (v := ?_) rfl (by kernel_rfl) (by kernel_rfl) (by kernel_rfl) (fun _ _ _ h => h) (Or.inl ⟨by rfl, ?_⟩) (by assumption) ?_
              (rotate_left); (focus (intro wv hSw; (obtain ⟨qS, qG⟩ := hSw);  go_simp; (try with_reducible rfl)))
              try simp only [Act.put, List.getElem_toArray, List.getElem_cons_succ, List.getElem_cons_zero, List.setIfInBounds_toArray, List.set_cons_zero, List.set_cons_succ]
              refine wpAnyH_done (by kernel_rfl) ?_ _
              clear hS hG hS_0 hG_0 hHeld
              obtain ⟨k0, k1, k2, k3⟩ := HY.out _ hG_0c
              go_wp2_with fail
              go_region
              go_wp2_with fail
              go_roundw
              case rel =>
                refine ⟨k, a, x :: b, by go_num, hk, by simp at hab ⊢; omega, HI2.out, ?_, ?_⟩
                · exact ((hS_0c.far hg).far hg).drew
                · have h := (hG_0c.set (k + 1) x).set k i
                  rw [← hk, swap_list] at h
                  rw [← hk]
                  exact h
              case measure => simp [intOf]
      · obtain rfl : i = n := by omega
        go_wp2
        go_end0
        exact ⟨l, rfl, ⟨hs.2.1, fun x => by rw [HN.out]; exact hs.2.2 x⟩, by rw [HN.out]; exact hs.1, by rw [HN.out]; exact hS, by simpa using hG⟩
end Go.Proofs.Ytpdlffhjpnhkbaa
