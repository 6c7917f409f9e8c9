/- Contracts of chapter 6: sums of cities, and the light over cells. -/
import Derived.Test.YtidppabconifkaaYs
import Derived.Test.YtidppabconifkaaYn
import Derived.Laws.AppendOwn
namespace Go.Proofs.Ytidppabconifkaa
open Go Go.ChangeShapes Go.WideShapes Go.ChangeAt Go.RowKit
set_option linter.unusedSimpArgs false
set_option linter.unusedVariables false

theorem SRow.grownY {α : Type} {E : Enc α} {w w' : World} {A : Option Addr} {xs : List α} {row : Option Nat} (h : SRow E w A xs) (hg : w.grownBy w' row) (hne : ∀ b off, A = some ⟨b, off, none⟩ → some b ≠ row) : SRow E w' A xs := by
  rcases h with h | ⟨b, off, e, hc⟩
  · exact .inl h
  · exact .inr ⟨b, off, e, fun i hi j v hv => hg.cell (hc i hi j v hv) (hne b off e)⟩
theorem grown_nextY {w w' w2 : World} {row : Option Nat} (h : w.grownBy w' row) (hx : Below w'.heap.size w' w2) : w.grownBy w2 row := grown_nextS h hx
theorem below_grownY {w w' : World} {g : Nat} (hg : w.grownBy w' (some g)) (hb : w.heap.size ≤ g) : Below w.heap.size w w' := ⟨hg.os, hg.tape, hg.output, hg.size, fun k hk => hg.block k hk (fun e => by cases e; omega)⟩
def suI (xs : List Int) : Nat → Int
  | 0 => 0
  | k + 1 => suI xs k + xs.getD k 0
theorem su_next {xs : List Int} {k : Nat} (hk : k < xs.length) : suI xs (k + 1) = suI xs k + xs[k] := by rw [suI]; simp [hk]
theorem su_rng {xs : List Int} (h : ∀ t ∈ xs, 0 ≤ t ∧ t ≤ 20) : ∀ k, 0 ≤ suI xs k ∧ suI xs k ≤ 20 * k
  | 0 => by simp [suI]
  | k + 1 => by
    have i := su_rng h k
    by_cases hk : k < xs.length
    · have := h xs[k] (List.getElem_mem hk); rw [su_next hk]; omega
    · rw [suI]; simp [Nat.le_of_not_lt hk]; omega
def csI (d : Int) (xs : List Int) : Int := if cvB d xs = true then suI xs xs.length else -1
set_option maxHeartbeats 4000000 in
theorem sSum_any (A : Option Addr) (cap : Nat) (xs : List Int) {n : Nat} (w : World) (hn : xs.length = n) (h : SRow encNum w A xs) (hl : n ≤ 2000000) (HT : Hid (∀ t ∈ xs, 0 ≤ t ∧ t ≤ 20)) :
    Calls Try.prog 65 #[.slice A n cap] w fun E w' => E = .returned (.int .i64 (suI xs xs.length)) ∧ Below w.heap.size w w' := by
  have HN := Lib.hid hn
  clear hn
  go_enter Try.func65, Try.ntmps65
  go_wp2_with fail
  go_loopw [3, 4] (fun s v wr => ∃ k : Nat, v = .int .i64 k ∧ k ≤ n ∧ s = .int .i64 (suI xs k) ∧ Below w.heap.size w wr) (fun _ v _ => (n - intOf v).toNat)
  case atStart => exact ⟨0, rfl, by omega, rfl, Below.refl _ _⟩
  case round =>
    obtain ⟨k, rfl, k1, rfl, hB⟩ := hrel
    by_cases hlt : k < n
    · have hk : k < xs.length := by rw [HN.out]; exact hlt
      have hki : (k : Int) < (n : Int) := by omega
      obtain ⟨q0, q1⟩ := su_rng HT.out k
      have hs := su_next hk
      obtain ⟨t0, t1⟩ := HT.out xs[k] (List.getElem_mem hk)
      have HS := Lib.hid hs
      clear hs
      obtain ⟨b, off, rfl, hb, c0⟩ := rowNum (h.next hB) hk
      revert c0 HS q0 q1 t0 t1
      generalize xs[k] = t
      generalize suI xs k = q
      intro q0 q1 t0 t1 HS c0
      go_wp2_with fail
      go_roundw
      case rel => exact ⟨k + 1, by go_num, by omega, by rw [HS.out], hB⟩
      case measure => simp [intOf]; omega
    · obtain rfl : k = n := by omega
      go_wp2_with fail
      go_ret
      exact ⟨ret_int (by rw [HN.out]), hB⟩
set_option maxHeartbeats 4000000 in
theorem iCs_any (d : Int) (A : Option Addr) (cap : Nat) (xs : List Int) {n : Nat} (w : World) (hn : xs.length = n) (h : SRow encNum w A xs) (hl : n ≤ 2000000) :
    Calls Try.prog 36 #[.agg #[.int .i64 d, .slice A n cap]] w fun E w' => E = .returned (.int .i64 (csI d xs)) ∧ Below w.heap.size w w' := by
  cases h1 : cvB d xs
  · have HF : Hid (csI d xs = -1) := by show _ = _; unfold csI; rw [h1]; rfl
    have H1 := Lib.hid h1
    have HN := Lib.hid hn
    clear h1 hn
    go_enter Try.func36, Try.ntmps36
    go_wp2_with fail
    refine (iCv_is d A cap xs _ HN.out (h.next (bel1 w (.cells #[.int .i64 d, .slice A n cap] 25 (0, 0)))) hl H1.out).mono ?_; rintro E w1 ⟨rfl, hw1⟩
    obtain ⟨hP1, hB1⟩ := ownb hw1
    obtain ⟨p0, p1, f0, f1, zp⟩ := blk2 hP1
    go_wp2
    go_ret
    exact ⟨ret_int HF.out.symm, hB1⟩
  · have HT := Lib.hid (cvB_iff.1 h1).2.2
    have HF : Hid (csI d xs = suI xs xs.length) := by show _ = _; unfold csI; rw [h1]; rfl
    have H1 := Lib.hid h1
    have HN := Lib.hid hn
    clear h1 hn
    go_enter Try.func36, Try.ntmps36
    go_wp2_with fail
    refine (iCv_is d A cap xs _ HN.out (h.next (bel1 w (.cells #[.int .i64 d, .slice A n cap] 25 (0, 0)))) hl H1.out).mono ?_; rintro E w1 ⟨rfl, hw1⟩
    obtain ⟨hP1, hB1⟩ := ownb hw1
    obtain ⟨p0, p1, f0, f1, zp⟩ := blk2 hP1
    go_wp2_with fail
    go_loopw [3, 12] (fun s v wr => ∃ k : Nat, v = .int .i64 k ∧ k ≤ n ∧ s = .int .i64 (suI xs k) ∧ Below w.heap.size w wr) (fun _ v _ => (n - intOf v).toNat)
    case atStart => exact ⟨0, rfl, by omega, rfl, hB1⟩
    case round =>
      obtain ⟨k, rfl, k1, rfl, hB⟩ := hrel
      by_cases hlt : k < n
      · have hk : k < xs.length := by rw [HN.out]; exact hlt
        have hki : (k : Int) < (n : Int) := by omega
        obtain ⟨q0, q1⟩ := su_rng HT.out k
        have hs := su_next hk
        obtain ⟨t0, t1⟩ := HT.out xs[k] (List.getElem_mem hk)
        have HS := Lib.hid hs
        clear hs
        obtain ⟨b, off, rfl, hb, c0⟩ := rowNum (h.next hB) hk
        revert c0 HS q0 q1 t0 t1
        generalize xs[k] = t
        generalize suI xs k = q
        intro q0 q1 t0 t1 HS c0
        go_wp2_with fail
        go_roundw
        case rel => exact ⟨k + 1, by go_num, by omega, by rw [HS.out], hB⟩
        case measure => simp [intOf]; omega
      · obtain rfl : k = n := by omega
        go_wp2_with fail
        go_ret
        exact ⟨ret_int (by rw [HF.out, HN.out]), hB⟩
theorem iCs_is (d : Int) (A : Option Addr) (cap : Nat) (xs : List Int) {r : Int} {n : Nat} (w : World) (hn : xs.length = n) (h : SRow encNum w A xs) (hl : n ≤ 2000000) (hr : csI d xs = r) : Calls Try.prog 36 #[.agg #[.int .i64 d, .slice A n cap]] w fun E w' => E = .returned (.int .i64 r) ∧ Below w.heap.size w w' := by subst hr; exact iCs_any d A cap xs w hn h hl
set_option maxHeartbeats 4000000 in
theorem sCs_any (d : Int) (A : Option Addr) (cap : Nat) (xs : List Int) {n : Nat} (w : World) (hn : xs.length = n) (h : SRow encNum w A xs) (hl : n ≤ 2000000) :
    Calls Try.prog 40 #[.agg #[.int .i64 d, .slice A n cap]] w fun E w' => E = .returned (.int .i64 (csI d xs)) ∧ Below w.heap.size w w' := by
  cases h1 : cvB d xs
  · have HF : Hid (csI d xs = -1) := by show _ = _; unfold csI; rw [h1]; rfl
    have H1 := Lib.hid h1
    have HN := Lib.hid hn
    clear h1 hn
    go_enter Try.func40, Try.ntmps40
    go_wp2_with fail
    refine (sCv_is d A cap xs _ HN.out (h.next (bel1 w (.cells #[.int .i64 d, .slice A n cap] 25 (0, 0)))) hl H1.out).mono ?_; rintro E w1 ⟨rfl, hw1⟩
    obtain ⟨hP1, hB1⟩ := ownb hw1
    obtain ⟨p0, p1, f0, f1, zp⟩ := blk2 hP1
    go_wp2
    go_ret
    exact ⟨ret_int HF.out.symm, hB1⟩
  · have HT := Lib.hid (cvB_iff.1 h1).2.2
    have HF : Hid (csI d xs = suI xs xs.length) := by show _ = _; unfold csI; rw [h1]; rfl
    have H1 := Lib.hid h1
    have HN := Lib.hid hn
    clear h1 hn
    go_enter Try.func40, Try.ntmps40
    go_wp2_with fail
    refine (sCv_is d A cap xs _ HN.out (h.next (bel1 w (.cells #[.int .i64 d, .slice A n cap] 25 (0, 0)))) hl H1.out).mono ?_; rintro E w1 ⟨rfl, hw1⟩
    obtain ⟨hP1, hB1⟩ := ownb hw1
    obtain ⟨p0, p1, f0, f1, zp⟩ := blk2 hP1
    go_wp2_with fail
    refine (sSum_any A cap xs _ HN.out (h.next hB1) hl HT).mono ?_; rintro E w2 ⟨rfl, hw2⟩
    have hB2 := bel_next hB1 hw2
    go_wp2
    go_ret
    exact ⟨ret_int HF.out.symm, hB2⟩
theorem sCs_is (d : Int) (A : Option Addr) (cap : Nat) (xs : List Int) {r : Int} {n : Nat} (w : World) (hn : xs.length = n) (h : SRow encNum w A xs) (hl : n ≤ 2000000) (hr : csI d xs = r) : Calls Try.prog 40 #[.agg #[.int .i64 d, .slice A n cap]] w fun E w' => E = .returned (.int .i64 r) ∧ Below w.heap.size w w' := by subst hr; exact sCs_any d A cap xs w hn h hl
set_option maxRecDepth 100000 in
set_option maxHeartbeats 4000000 in
theorem sline (d c e f : Int) (A : Option Addr) (cap g cs base : Nat) (xs L : List Int) {n : Nat} (w : World) (hn : xs.length = n) (h : SRow encNum w A xs) (hl : n ≤ 2000000) (hv : cvB d xs = true) (hc : InC d c) (h0 : 0 ≤ e) (h1 : e ≤ 3) (hz : faN d c e = 0) (v0 : 0 ≤ f) (v1 : f ≤ 5) (hL : L.length = n) (hA : ∀ b off, A = some ⟨b, off, none⟩ → b ≠ g) (hO : SOwn encNum w base 3 (some ⟨g, 0, none⟩) cs L) :
    Calls Try.prog 60 #[.agg #[.int .i64 d, .slice A n cap], .int .i64 c, .int .i64 (opI e), .int .i64 f, .slice (some ⟨g, 0, none⟩) n cs] w fun E w' => E = .returned (.tuple #[]) ∧ SOwn encNum w' base 3 (some ⟨g, 0, none⟩) cs (laL d xs e f c L (faN d c (opI e) + 1)) ∧ w.grownBy w' (some g) := by
  obtain ⟨F, hF⟩ : ∃ F, faN d c (opI e) = F := ⟨_, rfl⟩
  have hF5 : F ≤ 5 := by obtain ⟨o0, o1, _⟩ := opI_in h0 h1; rw [← hF]; exact fa_le hc o0 o1
  rw [hF]
  obtain ⟨hAll, hdd⟩ := cv_cells hv hn
  have HN := Lib.hid hn
  have HLN := Lib.hid hL
  have HFF := Lib.hid hF
  have HC := Lib.hid (And.intro hc (And.intro (And.intro h0 h1) hz))
  have HV := Lib.hid hv
  have HAne := Lib.hid hA
  have HDD := Lib.hid hdd
  obtain ⟨oe, hoe⟩ : ∃ oe, opI e = oe := ⟨_, rfl⟩
  have HOE := Lib.hid hoe
  have hgw : g < w.heap.size := by rcases hO.form with ⟨e9, _⟩ | ⟨g9, e9, _, h9⟩; cases e9; cases e9; exact h9
  rw [hoe]
  clear hn hL hF hv hA hdd hoe hAll hz hc h0 h1
  go_enter Try.func60, Try.ntmps60
  go_wp2_with fail
  go_loopw [10, 11] (fun q v wr => ∃ j : Nat, ((j ≤ F ∧ v = .int .i64 (lnI d c oe j) ∧ q = .int .i64 (shI d xs e f (lnI d c oe j))) ∨ (j = F + 1 ∧ v = .int .i64 (-1) ∧ ∃ t, q = .int .i64 t)) ∧ SOwn encNum wr base 3 (some ⟨g, 0, none⟩) cs (laL d xs e f c L j) ∧ wr.heap[w.heap.size]? = some (.cells #[.int .i64 d, .slice A n cap] 25 (0, 0)) ∧ w.grownBy wr (some g)) (fun _ v _ => if intOf v = -1 then 0 else 1 + faN d (intOf v) oe)
  case atStart => exact ⟨0, .inl ⟨by omega, by rw [ln_zero], by rw [ln_zero, sh_edge HC.out.2.2]⟩, hO.alloc _, blk_new w _, World.grownBy_alloc w _ _⟩
  case round =>
    obtain ⟨j, hj, hO, hP1, hG⟩ := hrel
    obtain ⟨p0, p1, f0, f1, zp⟩ := blk2 hP1
    rcases hj with ⟨hj, rfl, rfl⟩ | ⟨rfl, rfl, t, rfl⟩
    · obtain ⟨o0, o1, _⟩ := opI_in HC.out.2.1.1 HC.out.2.1.2
      have A1 := aw_in HC.out.1 HC.out.2.1.1 HC.out.2.1.2 HC.out.2.2 (j := j) (by rw [HFF.out]; exact hj)
      have A2 := (ln_in HC.out.1 o0 o1 (j := j) (by rw [HFF.out]; exact hj)).2.1
      have A3 := ln_next HC.out.1 o0 o1 (j := j) (by rw [HFF.out]; exact hj)
      have A5 : laL d xs e f c L (j + 1) = (laL d xs e f c L j).set (lnI d c (opI e) j).toNat (shI d xs e f (lnI d c (opI e) j)) := rfl
      have A4 : j < F → shI d xs e f (lnI d c (opI e) (j + 1)) = max (max (shI d xs e f (lnI d c (opI e) j)) (tlI xs (lnI d c (opI e) j)) - f) 0 := fun hjF => sh_next HC.out.1 HC.out.2.1.1 HC.out.2.1.2 HC.out.2.2 (by rw [HFF.out]; omega)
      have A6 : j < F → InC d (lnI d c (opI e) (j + 1)) ∧ faN d (lnI d c (opI e) (j + 1)) (opI e) + (j + 1) = F := fun hjF => by have := ln_in HC.out.1 o0 o1 (j := j + 1) (by rw [HFF.out]; omega); rw [HFF.out] at this; exact ⟨this.1, this.2.1⟩
      have A7 := shd_rng HV.out (s := stI d e) v0 (faN d (lnI d c (opI e) j) e) (lnI d c (opI e) j)
      have A8 : shd xs (stI d e) f (faN d (lnI d c (opI e) j) e) (lnI d c (opI e) j) = shI d xs e f (lnI d c (opI e) j) := rfl
      rw [A8] at A7
      clear A8
      rw [HFF.out] at A2 A3
      rw [HOE.out] at A1 A2 A3 A4 A5 A6 A7 o0 o1
      have hlL : (laL d xs e f c L j).length = n := by rw [la_len]; exact HLN.out
      have HLL := Lib.hid hlL
      clear hlL
      have hin := in_lt HDD.out A1.1
      obtain ⟨hz1, hz2, hz3, hz4⟩ := id A1.1
      have HIN := Lib.hid A1.1
      clear A1
      revert A2 A3 A4 A5 A6 A7 hin hz1 hz2 hz3 hz4 HIN hO HLL
      generalize lnI d c oe j = z
      generalize hz9 : lnI d c oe (j + 1) = z2
      generalize laL d xs e f c L j = L1
      generalize hl9 : laL d xs e f c L (j + 1) = L2
      intro hO A2 A3 A5 A4 A6 A7 HLL hin hz1 hz2 hz3 hz4 HIN
      have HZ9 := Lib.hid hz9
      have HL9 := Lib.hid hl9
      clear hz9 hl9
      obtain ⟨q, hq⟩ : ∃ q, shI d xs e f z = q := ⟨_, rfl⟩
      obtain ⟨i, rfl⟩ : ∃ i : Nat, z = (i : Int) := ⟨z.toNat, by omega⟩
      have hi : i < xs.length := by rw [HN.out]; omega
      have hiL : i < L1.length := by rw [HLL.out]; omega
      have hii : (i : Int) < (n : Int) := by omega
      rw [tlI_at hi] at A4
      rw [Int.toNat_natCast] at A5
      obtain ⟨b, off, eA, hb, c0⟩ := rowNum (h.grownY hG (fun b off e9 e8 => by cases e8; exact HAne.out _ _ e9 rfl)) hi
      subst eA
      have hbg := HAne.out b off rfl
      have d0 := ownNum hO hiL
      have fr := hO.frozen i
      rw [hq] at A4 A5 A7
      rw [hq]
      obtain ⟨t0, t1⟩ : 0 ≤ xs[i] ∧ xs[i] ≤ 20 := (cvB_iff.1 HV.out).2.2 _ (List.getElem_mem hi)
      obtain ⟨q0, q1⟩ := A7
      revert c0 A4 t0 t1
      generalize xs[i] = t
      intro A4 c0 t0 t1
      have hO2 := setNumO hO i hiL q
      rw [← A5] at hO2
      have hG2 := setNumG (i := i) hG (.int .i64 q)
      have hP2 := blk_far (C := g) (i := i) hP1 (by omega) (.int .i64 q)
      clear A5 hq
      by_cases hqt : q < t
      · by_cases hmf : t - f < 0
        · have HA4 := Lib.hid A4
          have HA3 := Lib.hid A3
          have HA6 := Lib.hid A6
          have HA2 := Lib.hid A2
          clear A4 A3 A6 A2
          obtain ⟨_, _, _, _, _⟩ := blk2 hP2
          go_wp2_with fail
          refine (iBs_any d (i : Int) oe _ n cap _ HIN.out o0 o1).mono ?_; rintro E w3 ⟨rfl, hw3⟩
          have hO3 := hO2.next hw3
          have hG3 := grown_nextY hG2 hw3
          have hP3 := blk_next hP2 hw3
          rw [HA3.out]
          by_cases hjF : j < F
          · rw [if_pos hjF]
            have hz2 := HA6.out hjF
            have hn0 := hz2.1.2.2.1
            go_wp2_with fail
            go_roundw
            case rel => exact ⟨j + 1, .inl ⟨by omega, by rw [HZ9.out], by rw [HZ9.out, HA4.out hjF]; congr 1; omega⟩, by rw [HL9.out]; exact hO3, hP3, hG3⟩
            case measure =>
              have m2 := HA2.out
              have m3 := hz2.2
              have e1 : ¬ z2 = -1 := by omega
              have e2 : ¬ (i : Int) = -1 := by omega
              simp [intOf, e1, e2]
              omega
          · rw [if_neg hjF]
            go_wp2_with fail
            go_roundw
            case rel => exact ⟨j + 1, .inr ⟨by omega, rfl, _, rfl⟩, by rw [HL9.out]; exact hO3, hP3, hG3⟩
            case measure =>
              have e2 : ¬ (i : Int) = -1 := by omega
              simp [intOf, e2] <;> omega
        · have HA4 := Lib.hid A4
          have HA3 := Lib.hid A3
          have HA6 := Lib.hid A6
          have HA2 := Lib.hid A2
          clear A4 A3 A6 A2
          obtain ⟨_, _, _, _, _⟩ := blk2 hP2
          go_wp2_with fail
          refine (iBs_any d (i : Int) oe _ n cap _ HIN.out o0 o1).mono ?_; rintro E w3 ⟨rfl, hw3⟩
          have hO3 := hO2.next hw3
          have hG3 := grown_nextY hG2 hw3
          have hP3 := blk_next hP2 hw3
          rw [HA3.out]
          by_cases hjF : j < F
          · rw [if_pos hjF]
            have hz2 := HA6.out hjF
            have hn0 := hz2.1.2.2.1
            go_wp2_with fail
            go_roundw
            case rel => exact ⟨j + 1, .inl ⟨by omega, by rw [HZ9.out], by rw [HZ9.out, HA4.out hjF]; congr 1; omega⟩, by rw [HL9.out]; exact hO3, hP3, hG3⟩
            case measure =>
              have m2 := HA2.out
              have m3 := hz2.2
              have e1 : ¬ z2 = -1 := by omega
              have e2 : ¬ (i : Int) = -1 := by omega
              simp [intOf, e1, e2]
              omega
          · rw [if_neg hjF]
            go_wp2_with fail
            go_roundw
            case rel => exact ⟨j + 1, .inr ⟨by omega, rfl, _, rfl⟩, by rw [HL9.out]; exact hO3, hP3, hG3⟩
            case measure =>
              have e2 : ¬ (i : Int) = -1 := by omega
              simp [intOf, e2] <;> omega
      · by_cases hmf : q - f < 0
        · have HA4 := Lib.hid A4
          have HA3 := Lib.hid A3
          have HA6 := Lib.hid A6
          have HA2 := Lib.hid A2
          clear A4 A3 A6 A2
          obtain ⟨_, _, _, _, _⟩ := blk2 hP2
          go_wp2_with fail
          refine (iBs_any d (i : Int) oe _ n cap _ HIN.out o0 o1).mono ?_; rintro E w3 ⟨rfl, hw3⟩
          have hO3 := hO2.next hw3
          have hG3 := grown_nextY hG2 hw3
          have hP3 := blk_next hP2 hw3
          rw [HA3.out]
          by_cases hjF : j < F
          · rw [if_pos hjF]
            have hz2 := HA6.out hjF
            have hn0 := hz2.1.2.2.1
            go_wp2_with fail
            go_roundw
            case rel => exact ⟨j + 1, .inl ⟨by omega, by rw [HZ9.out], by rw [HZ9.out, HA4.out hjF]; congr 1; omega⟩, by rw [HL9.out]; exact hO3, hP3, hG3⟩
            case measure =>
              have m2 := HA2.out
              have m3 := hz2.2
              have e1 : ¬ z2 = -1 := by omega
              have e2 : ¬ (i : Int) = -1 := by omega
              simp [intOf, e1, e2]
              omega
          · rw [if_neg hjF]
            go_wp2_with fail
            go_roundw
            case rel => exact ⟨j + 1, .inr ⟨by omega, rfl, _, rfl⟩, by rw [HL9.out]; exact hO3, hP3, hG3⟩
            case measure =>
              have e2 : ¬ (i : Int) = -1 := by omega
              simp [intOf, e2] <;> omega
        · have HA4 := Lib.hid A4
          have HA3 := Lib.hid A3
          have HA6 := Lib.hid A6
          have HA2 := Lib.hid A2
          clear A4 A3 A6 A2
          obtain ⟨_, _, _, _, _⟩ := blk2 hP2
          go_wp2_with fail
          refine (iBs_any d (i : Int) oe _ n cap _ HIN.out o0 o1).mono ?_; rintro E w3 ⟨rfl, hw3⟩
          have hO3 := hO2.next hw3
          have hG3 := grown_nextY hG2 hw3
          have hP3 := blk_next hP2 hw3
          rw [HA3.out]
          by_cases hjF : j < F
          · rw [if_pos hjF]
            have hz2 := HA6.out hjF
            have hn0 := hz2.1.2.2.1
            go_wp2_with fail
            go_roundw
            case rel => exact ⟨j + 1, .inl ⟨by omega, by rw [HZ9.out], by rw [HZ9.out, HA4.out hjF]; congr 1; omega⟩, by rw [HL9.out]; exact hO3, hP3, hG3⟩
            case measure =>
              have m2 := HA2.out
              have m3 := hz2.2
              have e1 : ¬ z2 = -1 := by omega
              have e2 : ¬ (i : Int) = -1 := by omega
              simp [intOf, e1, e2]
              omega
          · rw [if_neg hjF]
            go_wp2_with fail
            go_roundw
            case rel => exact ⟨j + 1, .inr ⟨by omega, rfl, _, rfl⟩, by rw [HL9.out]; exact hO3, hP3, hG3⟩
            case measure =>
              have e2 : ¬ (i : Int) = -1 := by omega
              simp [intOf, e2] <;> omega
    · go_wp2_with fail
      go_end0
      exact ⟨rfl, hO, hG⟩
end Go.Proofs.Ytidppabconifkaa
