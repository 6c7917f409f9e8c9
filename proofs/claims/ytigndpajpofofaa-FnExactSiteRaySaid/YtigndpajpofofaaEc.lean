/- Sites: one that comes in as an argument. -/
import Derived.Test.YtigndpajpofofaaEa
namespace Go.Proofs.Ytigndpajpofofaa
open Go Go.ChangeShapes Go.WideShapes Go.ChangeAt Go.RowKit Go.Deep
set_option linter.unusedSimpArgs false
set_option linter.unusedVariables false
set_option linter.unnecessarySimpa false

section
variable {H : Type} {enc : TypeId × Value → H} {w : World} {base : Nat} {spare : Nat → Bool} {held : Bool}
theorem trod_struct11 {P : Program} {t : TypeId} {f0 f1 f2 f3 f4 f5 f6 f7 f8 f9 f10 : Field} {fuel : Nat} {cs : List Value} {x : DataW H × List MemPlace} (ht : P.underlying t = some (.struct #[f0, f1, f2, f3, f4, f5, f6, f7, f8, f9, f10])) (h : DataW.trod enc P w base spare held fuel t cs = some x) :
    ∃ y0 y1 y2 y3 y4 y5 y6 y7 y8 y9 y10 n, cs.length = P.cellsOf t ∧ DataW.trod enc P w base spare held n f0.type ((cs.drop f0.offset).take (P.cellsOf f0.type)) = some y0 ∧ DataW.trod enc P w base spare held n f1.type ((cs.drop f1.offset).take (P.cellsOf f1.type)) = some y1 ∧ DataW.trod enc P w base spare held n f2.type ((cs.drop f2.offset).take (P.cellsOf f2.type)) = some y2 ∧ DataW.trod enc P w base spare held n f3.type ((cs.drop f3.offset).take (P.cellsOf f3.type)) = some y3 ∧ DataW.trod enc P w base spare held n f4.type ((cs.drop f4.offset).take (P.cellsOf f4.type)) = some y4 ∧ DataW.trod enc P w base spare held n f5.type ((cs.drop f5.offset).take (P.cellsOf f5.type)) = some y5 ∧ DataW.trod enc P w base spare held n f6.type ((cs.drop f6.offset).take (P.cellsOf f6.type)) = some y6 ∧ DataW.trod enc P w base spare held n f7.type ((cs.drop f7.offset).take (P.cellsOf f7.type)) = some y7 ∧ DataW.trod enc P w base spare held n f8.type ((cs.drop f8.offset).take (P.cellsOf f8.type)) = some y8 ∧ DataW.trod enc P w base spare held n f9.type ((cs.drop f9.offset).take (P.cellsOf f9.type)) = some y9 ∧ DataW.trod enc P w base spare held n f10.type ((cs.drop f10.offset).take (P.cellsOf f10.type)) = some y10 := by
  obtain ⟨xs, n, _, rfl, hl, hlen, hf⟩ := DataW.trod_struct ht h
  match xs, hlen with
  | [y0, y1, y2, y3, y4, y5, y6, y7, y8, y9, y10], _ => exact ⟨y0, y1, y2, y3, y4, y5, y6, y7, y8, y9, y10, n, hl, by simpa using hf 0 f0 rfl, by simpa using hf 1 f1 rfl, by simpa using hf 2 f2 rfl, by simpa using hf 3 f3 rfl, by simpa using hf 4 f4 rfl, by simpa using hf 5 f5 rfl, by simpa using hf 6 f6 rfl, by simpa using hf 7 f7 rfl, by simpa using hf 8 f8 rfl, by simpa using hf 9 f9 rfl, by simpa using hf 10 f10 rfl⟩
set_option maxRecDepth 100000 in
set_option maxHeartbeats 4000000 in
theorem decSite (fuel : Nat) (cs : List Value) (x : DataW H × List MemPlace) (h : DataW.trod enc Try.prog w base spare held fuel 32 cs = some x) : ∃ (la dy mi e1 n1 fe fn fu ho ha ne lo hi st : Int) (up : Bool) (A : Option Addr) (cap : Nat) (xs : List VBlock), cs = [.int .i64 la, .int .i64 dy, .int .i64 mi, .slice A xs.length cap, .int .i64 e1, .int .i64 n1, .int .i64 fe, .int .i64 fn, .int .i64 fu, .int .i64 ho, .int .i64 ha, .int .i64 ne, .int .i64 lo, .int .i64 hi, .bool up, .int .i64 st] ∧ SRow encBlock w A xs ∧ xs.length ≤ maxLen ∧ Wf la ∧ Wf dy ∧ Wf mi ∧ Wf e1 ∧ Wf n1 ∧ Wf fe ∧ Wf fn ∧ Wf fu ∧ Wf ho ∧ Wf ha ∧ Wf ne ∧ Wf lo ∧ Wf hi ∧ Wf st := by
  obtain ⟨y0, y1, y2, y3, y4, y5, y6, y7, y8, y9, y10, n, hlen, h0, h1, h2, h3, h4, h5, h6, h7, h8, h9, h10⟩ := trod_struct11 Try.underlying32 h
  have hc : cs.length = 16 := hlen.trans (by kernel_rfl)
  match cs, hc with
  | [c0, c1, c2, c3, c4, c5, c6, c7, c8, c9, c10, c11, c12, c13, c14, c15], _ =>
    have dr0 : (([c0, c1, c2, c3, c4, c5, c6, c7, c8, c9, c10, c11, c12, c13, c14, c15] : List Value).drop 0).take 1 = [c0] := rfl
    have dr1 : (([c0, c1, c2, c3, c4, c5, c6, c7, c8, c9, c10, c11, c12, c13, c14, c15] : List Value).drop 1).take 1 = [c1] := rfl
    have dr2 : (([c0, c1, c2, c3, c4, c5, c6, c7, c8, c9, c10, c11, c12, c13, c14, c15] : List Value).drop 2).take 1 = [c2] := rfl
    have dr3 : (([c0, c1, c2, c3, c4, c5, c6, c7, c8, c9, c10, c11, c12, c13, c14, c15] : List Value).drop 3).take 1 = [c3] := rfl
    have dr4 : (([c0, c1, c2, c3, c4, c5, c6, c7, c8, c9, c10, c11, c12, c13, c14, c15] : List Value).drop 4).take 2 = [c4, c5] := rfl
    have dr5 : (([c0, c1, c2, c3, c4, c5, c6, c7, c8, c9, c10, c11, c12, c13, c14, c15] : List Value).drop 6).take 3 = [c6, c7, c8] := rfl
    have dr6 : (([c0, c1, c2, c3, c4, c5, c6, c7, c8, c9, c10, c11, c12, c13, c14, c15] : List Value).drop 9).take 1 = [c9] := rfl
    have dr7 : (([c0, c1, c2, c3, c4, c5, c6, c7, c8, c9, c10, c11, c12, c13, c14, c15] : List Value).drop 10).take 1 = [c10] := rfl
    have dr8 : (([c0, c1, c2, c3, c4, c5, c6, c7, c8, c9, c10, c11, c12, c13, c14, c15] : List Value).drop 11).take 1 = [c11] := rfl
    have dr9 : (([c0, c1, c2, c3, c4, c5, c6, c7, c8, c9, c10, c11, c12, c13, c14, c15] : List Value).drop 12).take 2 = [c12, c13] := rfl
    have dr10 : (([c0, c1, c2, c3, c4, c5, c6, c7, c8, c9, c10, c11, c12, c13, c14, c15] : List Value).drop 14).take 2 = [c14, c15] := rfl
    have k0 : Try.prog.cellsOf 3 = 1 := by kernel_rfl
    have k1 : Try.prog.cellsOf 22 = 1 := by kernel_rfl
    have k2 : Try.prog.cellsOf 24 = 2 := by kernel_rfl
    have k3 : Try.prog.cellsOf 26 = 3 := by kernel_rfl
    have k4 : Try.prog.cellsOf 28 = 2 := by kernel_rfl
    have k5 : Try.prog.cellsOf 30 = 2 := by kernel_rfl
    simp only [k0, dr0] at h0
    simp only [k0, dr1] at h1
    simp only [k0, dr2] at h2
    simp only [k1, dr3] at h3
    simp only [k2, dr4] at h4
    simp only [k3, dr5] at h5
    simp only [k0, dr6] at h6
    simp only [k0, dr7] at h7
    simp only [k0, dr8] at h8
    simp only [k4, dr9] at h9
    simp only [k5, dr10] at h10
    obtain ⟨la, g0, _, qla⟩ := DataW.trod_int Try.underlying3 h0
    simp at g0
    subst g0
    obtain ⟨dy, g1, _, qdy⟩ := DataW.trod_int Try.underlying3 h1
    simp at g1
    subst g1
    obtain ⟨mi, g2, _, qmi⟩ := DataW.trod_int Try.underlying3 h2
    simp at g2
    subst g2
    obtain ⟨A, cap, xs, g3, hl, hr, _⟩ := openBlockS h3
    simp at g3
    subst g3
    obtain ⟨⟨e1, n1⟩, g4, qe1, qn1⟩ := decPlace _ _ _ h4
    simp [encPlace] at g4
    obtain ⟨rfl, rfl⟩ := g4
    obtain ⟨⟨fe, fn, fu⟩, g5, qfe, qfn, qfu⟩ := decFace _ _ _ h5
    simp [encFace] at g5
    obtain ⟨rfl, rfl, rfl⟩ := g5
    obtain ⟨ho, g6, _, qho⟩ := DataW.trod_int Try.underlying3 h6
    simp at g6
    subst g6
    obtain ⟨ha, g7, _, qha⟩ := DataW.trod_int Try.underlying3 h7
    simp at g7
    subst g7
    obtain ⟨ne, g8, _, qne⟩ := DataW.trod_int Try.underlying3 h8
    simp at g8
    subst g8
    obtain ⟨⟨lo, hi⟩, g9, qlo, qhi⟩ := decBand _ _ _ h9
    simp [encBand] at g9
    obtain ⟨rfl, rfl⟩ := g9
    obtain ⟨⟨up, st⟩, g10, qup, qst⟩ := decBlind _ _ _ h10
    simp [encBlind] at g10
    obtain ⟨rfl, rfl⟩ := g10
    exact ⟨la, dy, mi, e1, n1, fe, fn, fu, ho, ha, ne, lo, hi, st, up, A, cap, xs, rfl, hr, hl, qla, qdy, qmi, qe1, qn1, qfe, qfn, qfu, qho, qha, qne, qlo, qhi, qst⟩
set_option maxRecDepth 100000 in
set_option maxHeartbeats 4000000 in
theorem openSite {r : Reach} {b0 : Nat} {v : Value} {d : DataW H} {p : List MemPlace} (hv : Value.okWide Try.prog w r b0 32 v) (h : DataW.Trod enc Try.prog w base spare held 32 v d p) : ∃ (la dy mi e1 n1 fe fn fu ho ha ne lo hi st : Int) (up : Bool) (A : Option Addr) (cap : Nat) (xs : List VBlock), v = .agg #[.int .i64 la, .int .i64 dy, .int .i64 mi, .slice A xs.length cap, .int .i64 e1, .int .i64 n1, .int .i64 fe, .int .i64 fn, .int .i64 fu, .int .i64 ho, .int .i64 ha, .int .i64 ne, .int .i64 lo, .int .i64 hi, .bool up, .int .i64 st] ∧ SRow encBlock w A xs ∧ xs.length ≤ maxLen ∧ Wf la ∧ Wf dy ∧ Wf mi ∧ Wf e1 ∧ Wf n1 ∧ Wf fe ∧ Wf fn ∧ Wf fu ∧ Wf ho ∧ Wf ha ∧ Wf ne ∧ Wf lo ∧ Wf hi ∧ Wf st := by
  obtain ⟨cs, rfl, hsz⟩ := okWide_struct Try.underlying32 hv
  obtain ⟨fuel, hf⟩ := h
  obtain ⟨la, dy, mi, e1, n1, fe, fn, fu, ho, ha, ne, lo, hi, st, up, A, cap, xs, hx, hq⟩ := decSite _ _ _ hf
  refine ⟨la, dy, mi, e1, n1, fe, fn, fu, ho, ha, ne, lo, hi, st, up, A, cap, xs, ?_, hq⟩
  have e : cs.toList = [.int .i64 la, .int .i64 dy, .int .i64 mi, .slice A xs.length cap, .int .i64 e1, .int .i64 n1, .int .i64 fe, .int .i64 fn, .int .i64 fu, .int .i64 ho, .int .i64 ha, .int .i64 ne, .int .i64 lo, .int .i64 hi, .bool up, .int .i64 st] := by simpa [Value.cells] using hx
  rw [← e]
end
end Go.Proofs.Ytigndpajpofofaa
