/- QH: texts joined. -/
import Derived.Test.YtigndpajpofofaaGreatLQC
import Derived.Test.YtigndpajpofofaaGreatLQD
import Derived.Laws.Rows
import Derived.Laws.AppendOwn
namespace Go.Proofs.YtigndpajpofofaaGreat
open Go Go.ChangeShapes Go.WideShapes Go.ChangeAt Go.RowKit Go.Deep
set_option linter.unusedSimpArgs false
set_option linter.unusedVariables false
set_option linter.unnecessarySimpa false
theorem blk16 {w : World} {b : Nat} {x0 x1 x2 x3 x4 x5 x6 x7 x8 x9 x10 x11 x12 x13 x14 x15 : Value} {t : TypeId} (h : w.heap[b]? = some (.cells #[x0, x1, x2, x3, x4, x5, x6, x7, x8, x9, x10, x11, x12, x13, x14, x15] t (0, 0))) :
    w.cell? ⟨b, 0, none⟩ = some x0 ∧ w.cell? ⟨b, 1, none⟩ = some x1 ∧ w.cell? ⟨b, 2, none⟩ = some x2 ∧ w.cell? ⟨b, 3, none⟩ = some x3 ∧ w.cell? ⟨b, 4, none⟩ = some x4 ∧ w.cell? ⟨b, 5, none⟩ = some x5 ∧ w.cell? ⟨b, 6, none⟩ = some x6 ∧ w.cell? ⟨b, 7, none⟩ = some x7 ∧ w.cell? ⟨b, 8, none⟩ = some x8 ∧ w.cell? ⟨b, 9, none⟩ = some x9 ∧ w.cell? ⟨b, 10, none⟩ = some x10 ∧ w.cell? ⟨b, 11, none⟩ = some x11 ∧ w.cell? ⟨b, 12, none⟩ = some x12 ∧ w.cell? ⟨b, 13, none⟩ = some x13 ∧ w.cell? ⟨b, 14, none⟩ = some x14 ∧ w.cell? ⟨b, 15, none⟩ = some x15 ∧ w.frozen? ⟨b, 0, none⟩ = false ∧ w.frozen? ⟨b, 1, none⟩ = false ∧ w.frozen? ⟨b, 2, none⟩ = false ∧ w.frozen? ⟨b, 3, none⟩ = false ∧ w.frozen? ⟨b, 4, none⟩ = false ∧ w.frozen? ⟨b, 5, none⟩ = false ∧ w.frozen? ⟨b, 6, none⟩ = false ∧ w.frozen? ⟨b, 7, none⟩ = false ∧ w.frozen? ⟨b, 8, none⟩ = false ∧ w.frozen? ⟨b, 9, none⟩ = false ∧ w.frozen? ⟨b, 10, none⟩ = false ∧ w.frozen? ⟨b, 11, none⟩ = false ∧ w.frozen? ⟨b, 12, none⟩ = false ∧ w.frozen? ⟨b, 13, none⟩ = false ∧ w.frozen? ⟨b, 14, none⟩ = false ∧ w.frozen? ⟨b, 15, none⟩ = false ∧ b < w.heap.size :=
  ⟨by simp [World.cell?, h], by simp [World.cell?, h], by simp [World.cell?, h], by simp [World.cell?, h], by simp [World.cell?, h], by simp [World.cell?, h], by simp [World.cell?, h], by simp [World.cell?, h], by simp [World.cell?, h], by simp [World.cell?, h], by simp [World.cell?, h], by simp [World.cell?, h], by simp [World.cell?, h], by simp [World.cell?, h], by simp [World.cell?, h], by simp [World.cell?, h], by simp [World.frozen?, h], by simp [World.frozen?, h], by simp [World.frozen?, h], by simp [World.frozen?, h], by simp [World.frozen?, h], by simp [World.frozen?, h], by simp [World.frozen?, h], by simp [World.frozen?, h], by simp [World.frozen?, h], by simp [World.frozen?, h], by simp [World.frozen?, h], by simp [World.frozen?, h], by simp [World.frozen?, h], by simp [World.frozen?, h], by simp [World.frozen?, h], by simp [World.frozen?, h], blk_lt h⟩
theorem blk16_at0 {v : Value} {w : World} {b : Nat} {x0 x1 x2 x3 x4 x5 x6 x7 x8 x9 x10 x11 x12 x13 x14 x15 : Value} {t : TypeId} (h : w.heap[b]? = some (.cells #[x0, x1, x2, x3, x4, x5, x6, x7, x8, x9, x10, x11, x12, x13, x14, x15] t (0, 0))) : (w.setCell ⟨b, 0, none⟩ v).heap[b]? = some (.cells #[v, x1, x2, x3, x4, x5, x6, x7, x8, x9, x10, x11, x12, x13, x14, x15] t (0, 0)) := by
  have := blk_at 0 v _ h
  rw [this]; simp
theorem blk16_at1 {v : Value} {w : World} {b : Nat} {x0 x1 x2 x3 x4 x5 x6 x7 x8 x9 x10 x11 x12 x13 x14 x15 : Value} {t : TypeId} (h : w.heap[b]? = some (.cells #[x0, x1, x2, x3, x4, x5, x6, x7, x8, x9, x10, x11, x12, x13, x14, x15] t (0, 0))) : (w.setCell ⟨b, 1, none⟩ v).heap[b]? = some (.cells #[x0, v, x2, x3, x4, x5, x6, x7, x8, x9, x10, x11, x12, x13, x14, x15] t (0, 0)) := by
  have := blk_at 1 v _ h
  rw [this]; simp
theorem blk16_at2 {v : Value} {w : World} {b : Nat} {x0 x1 x2 x3 x4 x5 x6 x7 x8 x9 x10 x11 x12 x13 x14 x15 : Value} {t : TypeId} (h : w.heap[b]? = some (.cells #[x0, x1, x2, x3, x4, x5, x6, x7, x8, x9, x10, x11, x12, x13, x14, x15] t (0, 0))) : (w.setCell ⟨b, 2, none⟩ v).heap[b]? = some (.cells #[x0, x1, v, x3, x4, x5, x6, x7, x8, x9, x10, x11, x12, x13, x14, x15] t (0, 0)) := by
  have := blk_at 2 v _ h
  rw [this]; simp
theorem blk16_at3 {v : Value} {w : World} {b : Nat} {x0 x1 x2 x3 x4 x5 x6 x7 x8 x9 x10 x11 x12 x13 x14 x15 : Value} {t : TypeId} (h : w.heap[b]? = some (.cells #[x0, x1, x2, x3, x4, x5, x6, x7, x8, x9, x10, x11, x12, x13, x14, x15] t (0, 0))) : (w.setCell ⟨b, 3, none⟩ v).heap[b]? = some (.cells #[x0, x1, x2, v, x4, x5, x6, x7, x8, x9, x10, x11, x12, x13, x14, x15] t (0, 0)) := by
  have := blk_at 3 v _ h
  rw [this]; simp
theorem blk16_at4 {v : Value} {w : World} {b : Nat} {x0 x1 x2 x3 x4 x5 x6 x7 x8 x9 x10 x11 x12 x13 x14 x15 : Value} {t : TypeId} (h : w.heap[b]? = some (.cells #[x0, x1, x2, x3, x4, x5, x6, x7, x8, x9, x10, x11, x12, x13, x14, x15] t (0, 0))) : (w.setCell ⟨b, 4, none⟩ v).heap[b]? = some (.cells #[x0, x1, x2, x3, v, x5, x6, x7, x8, x9, x10, x11, x12, x13, x14, x15] t (0, 0)) := by
  have := blk_at 4 v _ h
  rw [this]; simp
theorem blk16_at5 {v : Value} {w : World} {b : Nat} {x0 x1 x2 x3 x4 x5 x6 x7 x8 x9 x10 x11 x12 x13 x14 x15 : Value} {t : TypeId} (h : w.heap[b]? = some (.cells #[x0, x1, x2, x3, x4, x5, x6, x7, x8, x9, x10, x11, x12, x13, x14, x15] t (0, 0))) : (w.setCell ⟨b, 5, none⟩ v).heap[b]? = some (.cells #[x0, x1, x2, x3, x4, v, x6, x7, x8, x9, x10, x11, x12, x13, x14, x15] t (0, 0)) := by
  have := blk_at 5 v _ h
  rw [this]; simp
theorem blk16_at6 {v : Value} {w : World} {b : Nat} {x0 x1 x2 x3 x4 x5 x6 x7 x8 x9 x10 x11 x12 x13 x14 x15 : Value} {t : TypeId} (h : w.heap[b]? = some (.cells #[x0, x1, x2, x3, x4, x5, x6, x7, x8, x9, x10, x11, x12, x13, x14, x15] t (0, 0))) : (w.setCell ⟨b, 6, none⟩ v).heap[b]? = some (.cells #[x0, x1, x2, x3, x4, x5, v, x7, x8, x9, x10, x11, x12, x13, x14, x15] t (0, 0)) := by
  have := blk_at 6 v _ h
  rw [this]; simp
theorem blk16_at7 {v : Value} {w : World} {b : Nat} {x0 x1 x2 x3 x4 x5 x6 x7 x8 x9 x10 x11 x12 x13 x14 x15 : Value} {t : TypeId} (h : w.heap[b]? = some (.cells #[x0, x1, x2, x3, x4, x5, x6, x7, x8, x9, x10, x11, x12, x13, x14, x15] t (0, 0))) : (w.setCell ⟨b, 7, none⟩ v).heap[b]? = some (.cells #[x0, x1, x2, x3, x4, x5, x6, v, x8, x9, x10, x11, x12, x13, x14, x15] t (0, 0)) := by
  have := blk_at 7 v _ h
  rw [this]; simp
theorem blk16_at8 {v : Value} {w : World} {b : Nat} {x0 x1 x2 x3 x4 x5 x6 x7 x8 x9 x10 x11 x12 x13 x14 x15 : Value} {t : TypeId} (h : w.heap[b]? = some (.cells #[x0, x1, x2, x3, x4, x5, x6, x7, x8, x9, x10, x11, x12, x13, x14, x15] t (0, 0))) : (w.setCell ⟨b, 8, none⟩ v).heap[b]? = some (.cells #[x0, x1, x2, x3, x4, x5, x6, x7, v, x9, x10, x11, x12, x13, x14, x15] t (0, 0)) := by
  have := blk_at 8 v _ h
  rw [this]; simp
theorem blk16_at9 {v : Value} {w : World} {b : Nat} {x0 x1 x2 x3 x4 x5 x6 x7 x8 x9 x10 x11 x12 x13 x14 x15 : Value} {t : TypeId} (h : w.heap[b]? = some (.cells #[x0, x1, x2, x3, x4, x5, x6, x7, x8, x9, x10, x11, x12, x13, x14, x15] t (0, 0))) : (w.setCell ⟨b, 9, none⟩ v).heap[b]? = some (.cells #[x0, x1, x2, x3, x4, x5, x6, x7, x8, v, x10, x11, x12, x13, x14, x15] t (0, 0)) := by
  have := blk_at 9 v _ h
  rw [this]; simp
theorem blk16_at10 {v : Value} {w : World} {b : Nat} {x0 x1 x2 x3 x4 x5 x6 x7 x8 x9 x10 x11 x12 x13 x14 x15 : Value} {t : TypeId} (h : w.heap[b]? = some (.cells #[x0, x1, x2, x3, x4, x5, x6, x7, x8, x9, x10, x11, x12, x13, x14, x15] t (0, 0))) : (w.setCell ⟨b, 10, none⟩ v).heap[b]? = some (.cells #[x0, x1, x2, x3, x4, x5, x6, x7, x8, x9, v, x11, x12, x13, x14, x15] t (0, 0)) := by
  have := blk_at 10 v _ h
  rw [this]; simp
theorem blk16_at11 {v : Value} {w : World} {b : Nat} {x0 x1 x2 x3 x4 x5 x6 x7 x8 x9 x10 x11 x12 x13 x14 x15 : Value} {t : TypeId} (h : w.heap[b]? = some (.cells #[x0, x1, x2, x3, x4, x5, x6, x7, x8, x9, x10, x11, x12, x13, x14, x15] t (0, 0))) : (w.setCell ⟨b, 11, none⟩ v).heap[b]? = some (.cells #[x0, x1, x2, x3, x4, x5, x6, x7, x8, x9, x10, v, x12, x13, x14, x15] t (0, 0)) := by
  have := blk_at 11 v _ h
  rw [this]; simp
theorem blk16_at12 {v : Value} {w : World} {b : Nat} {x0 x1 x2 x3 x4 x5 x6 x7 x8 x9 x10 x11 x12 x13 x14 x15 : Value} {t : TypeId} (h : w.heap[b]? = some (.cells #[x0, x1, x2, x3, x4, x5, x6, x7, x8, x9, x10, x11, x12, x13, x14, x15] t (0, 0))) : (w.setCell ⟨b, 12, none⟩ v).heap[b]? = some (.cells #[x0, x1, x2, x3, x4, x5, x6, x7, x8, x9, x10, x11, v, x13, x14, x15] t (0, 0)) := by
  have := blk_at 12 v _ h
  rw [this]; simp
theorem blk16_at13 {v : Value} {w : World} {b : Nat} {x0 x1 x2 x3 x4 x5 x6 x7 x8 x9 x10 x11 x12 x13 x14 x15 : Value} {t : TypeId} (h : w.heap[b]? = some (.cells #[x0, x1, x2, x3, x4, x5, x6, x7, x8, x9, x10, x11, x12, x13, x14, x15] t (0, 0))) : (w.setCell ⟨b, 13, none⟩ v).heap[b]? = some (.cells #[x0, x1, x2, x3, x4, x5, x6, x7, x8, x9, x10, x11, x12, v, x14, x15] t (0, 0)) := by
  have := blk_at 13 v _ h
  rw [this]; simp
theorem blk16_at14 {v : Value} {w : World} {b : Nat} {x0 x1 x2 x3 x4 x5 x6 x7 x8 x9 x10 x11 x12 x13 x14 x15 : Value} {t : TypeId} (h : w.heap[b]? = some (.cells #[x0, x1, x2, x3, x4, x5, x6, x7, x8, x9, x10, x11, x12, x13, x14, x15] t (0, 0))) : (w.setCell ⟨b, 14, none⟩ v).heap[b]? = some (.cells #[x0, x1, x2, x3, x4, x5, x6, x7, x8, x9, x10, x11, x12, x13, v, x15] t (0, 0)) := by
  have := blk_at 14 v _ h
  rw [this]; simp
theorem blk16_at15 {v : Value} {w : World} {b : Nat} {x0 x1 x2 x3 x4 x5 x6 x7 x8 x9 x10 x11 x12 x13 x14 x15 : Value} {t : TypeId} (h : w.heap[b]? = some (.cells #[x0, x1, x2, x3, x4, x5, x6, x7, x8, x9, x10, x11, x12, x13, x14, x15] t (0, 0))) : (w.setCell ⟨b, 15, none⟩ v).heap[b]? = some (.cells #[x0, x1, x2, x3, x4, x5, x6, x7, x8, x9, x10, x11, x12, x13, x14, v] t (0, 0)) := by
  have := blk_at 15 v _ h
  rw [this]; simp
theorem blk16_put {y0 y1 y2 y3 y4 y5 y6 y7 y8 y9 y10 y11 y12 y13 y14 y15 : Value} {w : World} {b : Nat} {x0 x1 x2 x3 x4 x5 x6 x7 x8 x9 x10 x11 x12 x13 x14 x15 : Value} {t : TypeId} (h : w.heap[b]? = some (.cells #[x0, x1, x2, x3, x4, x5, x6, x7, x8, x9, x10, x11, x12, x13, x14, x15] t (0, 0))) : ((((((((((((((((w.setCell ⟨b, 0, none⟩ y0).setCell ⟨b, 1, none⟩ y1).setCell ⟨b, 2, none⟩ y2).setCell ⟨b, 3, none⟩ y3).setCell ⟨b, 4, none⟩ y4).setCell ⟨b, 5, none⟩ y5).setCell ⟨b, 6, none⟩ y6).setCell ⟨b, 7, none⟩ y7).setCell ⟨b, 8, none⟩ y8).setCell ⟨b, 9, none⟩ y9).setCell ⟨b, 10, none⟩ y10).setCell ⟨b, 11, none⟩ y11).setCell ⟨b, 12, none⟩ y12).setCell ⟨b, 13, none⟩ y13).setCell ⟨b, 14, none⟩ y14).setCell ⟨b, 15, none⟩ y15).heap[b]? = some (.cells #[y0, y1, y2, y3, y4, y5, y6, y7, y8, y9, y10, y11, y12, y13, y14, y15] t (0, 0)) :=
  blk16_at15 (blk16_at14 (blk16_at13 (blk16_at12 (blk16_at11 (blk16_at10 (blk16_at9 (blk16_at8 (blk16_at7 (blk16_at6 (blk16_at5 (blk16_at4 (blk16_at3 (blk16_at2 (blk16_at1 (blk16_at0 (h))))))))))))))))
theorem blk_store16 {w : World} {k C : Nat} {o : Obj} (h : w.heap[k]? = some o) (hne : k ≠ C) (y0 y1 y2 y3 y4 y5 y6 y7 y8 y9 y10 y11 y12 y13 y14 y15 : Value) : ((((((((((((((((w.setCell ⟨C, 0, none⟩ y0).setCell ⟨C, 1, none⟩ y1).setCell ⟨C, 2, none⟩ y2).setCell ⟨C, 3, none⟩ y3).setCell ⟨C, 4, none⟩ y4).setCell ⟨C, 5, none⟩ y5).setCell ⟨C, 6, none⟩ y6).setCell ⟨C, 7, none⟩ y7).setCell ⟨C, 8, none⟩ y8).setCell ⟨C, 9, none⟩ y9).setCell ⟨C, 10, none⟩ y10).setCell ⟨C, 11, none⟩ y11).setCell ⟨C, 12, none⟩ y12).setCell ⟨C, 13, none⟩ y13).setCell ⟨C, 14, none⟩ y14).setCell ⟨C, 15, none⟩ y15).heap[k]? = some o :=
  blk_far (blk_far (blk_far (blk_far (blk_far (blk_far (blk_far (blk_far (blk_far (blk_far (blk_far (blk_far (blk_far (blk_far (blk_far (blk_far (h) hne y0) hne y1) hne y2) hne y3) hne y4) hne y5) hne y6) hne y7) hne y8) hne y9) hne y10) hne y11) hne y12) hne y13) hne y14) hne y15
theorem store16_bel {w0 w : World} {C : Nat} (h : Below w0.heap.size w0 w) (hC : w0.heap.size ≤ C) (y0 y1 y2 y3 y4 y5 y6 y7 y8 y9 y10 y11 y12 y13 y14 y15 : Value) : Below w0.heap.size w0 ((((((((((((((((w.setCell ⟨C, 0, none⟩ y0).setCell ⟨C, 1, none⟩ y1).setCell ⟨C, 2, none⟩ y2).setCell ⟨C, 3, none⟩ y3).setCell ⟨C, 4, none⟩ y4).setCell ⟨C, 5, none⟩ y5).setCell ⟨C, 6, none⟩ y6).setCell ⟨C, 7, none⟩ y7).setCell ⟨C, 8, none⟩ y8).setCell ⟨C, 9, none⟩ y9).setCell ⟨C, 10, none⟩ y10).setCell ⟨C, 11, none⟩ y11).setCell ⟨C, 12, none⟩ y12).setCell ⟨C, 13, none⟩ y13).setCell ⟨C, 14, none⟩ y14).setCell ⟨C, 15, none⟩ y15) :=
  ((((((((((((((((h).setCell (p := ⟨C, 0, none⟩) hC y0).setCell (p := ⟨C, 1, none⟩) hC y1).setCell (p := ⟨C, 2, none⟩) hC y2).setCell (p := ⟨C, 3, none⟩) hC y3).setCell (p := ⟨C, 4, none⟩) hC y4).setCell (p := ⟨C, 5, none⟩) hC y5).setCell (p := ⟨C, 6, none⟩) hC y6).setCell (p := ⟨C, 7, none⟩) hC y7).setCell (p := ⟨C, 8, none⟩) hC y8).setCell (p := ⟨C, 9, none⟩) hC y9).setCell (p := ⟨C, 10, none⟩) hC y10).setCell (p := ⟨C, 11, none⟩) hC y11).setCell (p := ⟨C, 12, none⟩) hC y12).setCell (p := ⟨C, 13, none⟩) hC y13).setCell (p := ⟨C, 14, none⟩) hC y14).setCell (p := ⟨C, 15, none⟩) hC y15
def CopySite (la dy mi e1 n1 fe fn fu ho ha ne lo hi st : Int) (up : Bool) (xs : List VBlock) (w : World) (e : Ending) (w' : World) : Prop := ∃ g : Nat, e = .returned (.agg #[.int .i64 la, .int .i64 dy, .int .i64 mi, .slice (some ⟨g, 0, none⟩) xs.length xs.length, .int .i64 e1, .int .i64 n1, .int .i64 fe, .int .i64 fn, .int .i64 fu, .int .i64 ho, .int .i64 ha, .int .i64 ne, .int .i64 lo, .int .i64 hi, .bool up, .int .i64 st]) ∧ w.heap.size ≤ g ∧ SBlk encBlock w' g 58 xs ∧ Below w.heap.size w w'
theorem toBlockS_len (A : Option Addr) (cap : Nat) (xs : List VBlock) {n : Nat} (w : World) (hn : xs.length = n) (h : SRow encBlock w A xs) (hl : n ≤ 2000000) :
    Calls Tryz.prog 37 #[.slice A n cap] w fun e w' => ∃ g : Nat, e = .returned (.slice (some ⟨g, 0, none⟩) n n) ∧ w.heap.size ≤ g ∧ SBlk encBlock w' g 58 xs ∧ Below w.heap.size w w' := by
  subst hn; exact toBlockS_any A cap xs w h hl
set_option maxRecDepth 100000 in
set_option maxHeartbeats 4000000 in
theorem toSite_any (la dy mi e1 n1 fe fn fu ho ha ne lo hi st : Int) (up : Bool) (A : Option Addr) (cap : Nat) (xs : List VBlock) (w : World) (h : SRow encBlock w A xs) (hl : xs.length ≤ 2000000) :
    Calls Tryz.prog 10 #[.agg #[.int .i64 la, .int .i64 dy, .int .i64 mi, .slice A xs.length cap, .int .i64 e1, .int .i64 n1, .int .i64 fe, .int .i64 fn, .int .i64 fu, .int .i64 ho, .int .i64 ha, .int .i64 ne, .int .i64 lo, .int .i64 hi, .bool up, .int .i64 st]] w (CopySite la dy mi e1 n1 fe fn fu ho ha ne lo hi st up xs w) := by
  unfold CopySite
  generalize hn : xs.length = n at hl ⊢
  have HN := Lib.hid hn
  clear hn
  go_enter Tryz.func10, Tryz.ntmps10
  go_wp2_with fail
  refine (toBlockS_len A cap xs _ HN.out (h.next (bel3 w _ _ _)) hl).mono ?_; rintro E w1 ⟨g, rfl, hg, hb1, hw1⟩
  simp at hg
  obtain ⟨hP1, hQ1, hR1, hB1⟩ := ownb3 hw1
  obtain ⟨cP1_0, cP1_1, cP1_2, cP1_3, cP1_4, cP1_5, cP1_6, cP1_7, cP1_8, cP1_9, cP1_10, cP1_11, cP1_12, cP1_13, cP1_14, cP1_15, fP1_0, fP1_1, fP1_2, fP1_3, fP1_4, fP1_5, fP1_6, fP1_7, fP1_8, fP1_9, fP1_10, fP1_11, fP1_12, fP1_13, fP1_14, fP1_15, zP1⟩ := blk16 hP1
  obtain ⟨cR1_0, cR1_1, cR1_2, cR1_3, cR1_4, cR1_5, cR1_6, cR1_7, cR1_8, cR1_9, cR1_10, cR1_11, cR1_12, cR1_13, cR1_14, cR1_15, fR1_0, fR1_1, fR1_2, fR1_3, fR1_4, fR1_5, fR1_6, fR1_7, fR1_8, fR1_9, fR1_10, fR1_11, fR1_12, fR1_13, fR1_14, fR1_15, zR1⟩ := blk16 hR1
  go_wp2_with fail
  refine (toPlace_any _ _ _).mono ?_; rintro E w2 ⟨rfl, hw2⟩
  have hP2 : w2.heap[w.heap.size]? = some (.cells #[.int .i64 la, .int .i64 dy, .int .i64 mi, .slice A n cap, .int .i64 e1, .int .i64 n1, .int .i64 fe, .int .i64 fn, .int .i64 fu, .int .i64 ho, .int .i64 ha, .int .i64 ne, .int .i64 lo, .int .i64 hi, .bool up, .int .i64 st] 32 (0, 0)) := by refine blk_next ?_ hw2; exact blk_far (hP1) (by omega) _
  have hQ2 : w2.heap[(w.heap.size + 1)]? = some (.cells #[.int .i64 0, .int .i64 0, .int .i64 0, .slice none 0 0, .int .i64 0, .int .i64 0, .int .i64 0, .int .i64 0, .int .i64 0, .int .i64 0, .int .i64 0, .int .i64 0, .int .i64 0, .int .i64 0, .bool false, .int .i64 0] 40 (0, 0)) := by refine blk_next ?_ hw2; exact blk_far (hQ1) (by omega) _
  have hR2 : w2.heap[(w.heap.size + 1 + 1)]? = some (.cells #[.int .i64 la, .int .i64 dy, .int .i64 mi, .slice (some ⟨g, 0, none⟩) n n, .int .i64 0, .int .i64 0, .int .i64 0, .int .i64 0, .int .i64 0, .int .i64 0, .int .i64 0, .int .i64 0, .int .i64 0, .int .i64 0, .bool false, .int .i64 0] 40 (0, 0)) := by refine blk_next ?_ hw2; exact blk16_at3 (hR1)
  have hB2 : Below w.heap.size w w2 := by refine bel_next ?_ hw2; exact (hB1).setCell (p := ⟨(w.heap.size + 1 + 1), 3, none⟩) (by simp; omega) _
  have hb2 : SBlk encBlock w2 g 58 xs := by refine SBlk.next ?_ hw2; exact blk_far (hb1) (by omega) _
  clear cP1_0 fP1_0 cP1_1 fP1_1 cP1_2 fP1_2 cP1_3 fP1_3 cP1_4 fP1_4 cP1_5 fP1_5 cP1_6 fP1_6 cP1_7 fP1_7 cP1_8 fP1_8 cP1_9 fP1_9 cP1_10 fP1_10 cP1_11 fP1_11 cP1_12 fP1_12 cP1_13 fP1_13 cP1_14 fP1_14 cP1_15 fP1_15 cR1_0 fR1_0 cR1_1 fR1_1 cR1_2 fR1_2 cR1_3 fR1_3 cR1_4 fR1_4 cR1_5 fR1_5 cR1_6 fR1_6 cR1_7 fR1_7 cR1_8 fR1_8 cR1_9 fR1_9 cR1_10 fR1_10 cR1_11 fR1_11 cR1_12 fR1_12 cR1_13 fR1_13 cR1_14 fR1_14 cR1_15 fR1_15 hP1 hQ1 hR1 hB1 hb1
  obtain ⟨cP2_0, cP2_1, cP2_2, cP2_3, cP2_4, cP2_5, cP2_6, cP2_7, cP2_8, cP2_9, cP2_10, cP2_11, cP2_12, cP2_13, cP2_14, cP2_15, fP2_0, fP2_1, fP2_2, fP2_3, fP2_4, fP2_5, fP2_6, fP2_7, fP2_8, fP2_9, fP2_10, fP2_11, fP2_12, fP2_13, fP2_14, fP2_15, zP2⟩ := blk16 hP2
  obtain ⟨cR2_0, cR2_1, cR2_2, cR2_3, cR2_4, cR2_5, cR2_6, cR2_7, cR2_8, cR2_9, cR2_10, cR2_11, cR2_12, cR2_13, cR2_14, cR2_15, fR2_0, fR2_1, fR2_2, fR2_3, fR2_4, fR2_5, fR2_6, fR2_7, fR2_8, fR2_9, fR2_10, fR2_11, fR2_12, fR2_13, fR2_14, fR2_15, zR2⟩ := blk16 hR2
  go_wp2_with fail
  refine (toFace_any _ _ _ _).mono ?_; rintro E w3 ⟨rfl, hw3⟩
  have hP3 : w3.heap[w.heap.size]? = some (.cells #[.int .i64 la, .int .i64 dy, .int .i64 mi, .slice A n cap, .int .i64 e1, .int .i64 n1, .int .i64 fe, .int .i64 fn, .int .i64 fu, .int .i64 ho, .int .i64 ha, .int .i64 ne, .int .i64 lo, .int .i64 hi, .bool up, .int .i64 st] 32 (0, 0)) := by refine blk_next ?_ hw3; exact blk_far (blk_far (hP2) (by omega) _) (by omega) _
  have hQ3 : w3.heap[(w.heap.size + 1)]? = some (.cells #[.int .i64 0, .int .i64 0, .int .i64 0, .slice none 0 0, .int .i64 0, .int .i64 0, .int .i64 0, .int .i64 0, .int .i64 0, .int .i64 0, .int .i64 0, .int .i64 0, .int .i64 0, .int .i64 0, .bool false, .int .i64 0] 40 (0, 0)) := by refine blk_next ?_ hw3; exact blk_far (blk_far (hQ2) (by omega) _) (by omega) _
  have hR3 : w3.heap[(w.heap.size + 1 + 1)]? = some (.cells #[.int .i64 la, .int .i64 dy, .int .i64 mi, .slice (some ⟨g, 0, none⟩) n n, .int .i64 e1, .int .i64 n1, .int .i64 0, .int .i64 0, .int .i64 0, .int .i64 0, .int .i64 0, .int .i64 0, .int .i64 0, .int .i64 0, .bool false, .int .i64 0] 40 (0, 0)) := by refine blk_next ?_ hw3; exact blk16_at5 (blk16_at4 (hR2))
  have hB3 : Below w.heap.size w w3 := by refine bel_next ?_ hw3; exact ((hB2).setCell (p := ⟨(w.heap.size + 1 + 1), 4, none⟩) (by simp; omega) _).setCell (p := ⟨(w.heap.size + 1 + 1), 5, none⟩) (by simp; omega) _
  have hb3 : SBlk encBlock w3 g 58 xs := by refine SBlk.next ?_ hw3; exact blk_far (blk_far (hb2) (by omega) _) (by omega) _
  clear cP2_0 fP2_0 cP2_1 fP2_1 cP2_2 fP2_2 cP2_3 fP2_3 cP2_4 fP2_4 cP2_5 fP2_5 cP2_6 fP2_6 cP2_7 fP2_7 cP2_8 fP2_8 cP2_9 fP2_9 cP2_10 fP2_10 cP2_11 fP2_11 cP2_12 fP2_12 cP2_13 fP2_13 cP2_14 fP2_14 cP2_15 fP2_15 cR2_0 fR2_0 cR2_1 fR2_1 cR2_2 fR2_2 cR2_3 fR2_3 cR2_4 fR2_4 cR2_5 fR2_5 cR2_6 fR2_6 cR2_7 fR2_7 cR2_8 fR2_8 cR2_9 fR2_9 cR2_10 fR2_10 cR2_11 fR2_11 cR2_12 fR2_12 cR2_13 fR2_13 cR2_14 fR2_14 cR2_15 fR2_15 hP2 hQ2 hR2 hB2 hb2
  obtain ⟨cP3_0, cP3_1, cP3_2, cP3_3, cP3_4, cP3_5, cP3_6, cP3_7, cP3_8, cP3_9, cP3_10, cP3_11, cP3_12, cP3_13, cP3_14, cP3_15, fP3_0, fP3_1, fP3_2, fP3_3, fP3_4, fP3_5, fP3_6, fP3_7, fP3_8, fP3_9, fP3_10, fP3_11, fP3_12, fP3_13, fP3_14, fP3_15, zP3⟩ := blk16 hP3
  obtain ⟨cR3_0, cR3_1, cR3_2, cR3_3, cR3_4, cR3_5, cR3_6, cR3_7, cR3_8, cR3_9, cR3_10, cR3_11, cR3_12, cR3_13, cR3_14, cR3_15, fR3_0, fR3_1, fR3_2, fR3_3, fR3_4, fR3_5, fR3_6, fR3_7, fR3_8, fR3_9, fR3_10, fR3_11, fR3_12, fR3_13, fR3_14, fR3_15, zR3⟩ := blk16 hR3
  go_wp2_with fail
  refine (toBand_any _ _ _).mono ?_; rintro E w4 ⟨rfl, hw4⟩
  have hP4 : w4.heap[w.heap.size]? = some (.cells #[.int .i64 la, .int .i64 dy, .int .i64 mi, .slice A n cap, .int .i64 e1, .int .i64 n1, .int .i64 fe, .int .i64 fn, .int .i64 fu, .int .i64 ho, .int .i64 ha, .int .i64 ne, .int .i64 lo, .int .i64 hi, .bool up, .int .i64 st] 32 (0, 0)) := by refine blk_next ?_ hw4; exact blk_far (blk_far (blk_far (blk_far (blk_far (blk_far (hP3) (by omega) _) (by omega) _) (by omega) _) (by omega) _) (by omega) _) (by omega) _
  have hQ4 : w4.heap[(w.heap.size + 1)]? = some (.cells #[.int .i64 0, .int .i64 0, .int .i64 0, .slice none 0 0, .int .i64 0, .int .i64 0, .int .i64 0, .int .i64 0, .int .i64 0, .int .i64 0, .int .i64 0, .int .i64 0, .int .i64 0, .int .i64 0, .bool false, .int .i64 0] 40 (0, 0)) := by refine blk_next ?_ hw4; exact blk_far (blk_far (blk_far (blk_far (blk_far (blk_far (hQ3) (by omega) _) (by omega) _) (by omega) _) (by omega) _) (by omega) _) (by omega) _
  have hR4 : w4.heap[(w.heap.size + 1 + 1)]? = some (.cells #[.int .i64 la, .int .i64 dy, .int .i64 mi, .slice (some ⟨g, 0, none⟩) n n, .int .i64 e1, .int .i64 n1, .int .i64 fe, .int .i64 fn, .int .i64 fu, .int .i64 ho, .int .i64 ha, .int .i64 ne, .int .i64 0, .int .i64 0, .bool false, .int .i64 0] 40 (0, 0)) := by refine blk_next ?_ hw4; exact blk16_at11 (blk16_at10 (blk16_at9 (blk16_at8 (blk16_at7 (blk16_at6 (hR3))))))
  have hB4 : Below w.heap.size w w4 := by refine bel_next ?_ hw4; exact ((((((hB3).setCell (p := ⟨(w.heap.size + 1 + 1), 6, none⟩) (by simp; omega) _).setCell (p := ⟨(w.heap.size + 1 + 1), 7, none⟩) (by simp; omega) _).setCell (p := ⟨(w.heap.size + 1 + 1), 8, none⟩) (by simp; omega) _).setCell (p := ⟨(w.heap.size + 1 + 1), 9, none⟩) (by simp; omega) _).setCell (p := ⟨(w.heap.size + 1 + 1), 10, none⟩) (by simp; omega) _).setCell (p := ⟨(w.heap.size + 1 + 1), 11, none⟩) (by simp; omega) _
  have hb4 : SBlk encBlock w4 g 58 xs := by refine SBlk.next ?_ hw4; exact blk_far (blk_far (blk_far (blk_far (blk_far (blk_far (hb3) (by omega) _) (by omega) _) (by omega) _) (by omega) _) (by omega) _) (by omega) _
  clear cP3_0 fP3_0 cP3_1 fP3_1 cP3_2 fP3_2 cP3_3 fP3_3 cP3_4 fP3_4 cP3_5 fP3_5 cP3_6 fP3_6 cP3_7 fP3_7 cP3_8 fP3_8 cP3_9 fP3_9 cP3_10 fP3_10 cP3_11 fP3_11 cP3_12 fP3_12 cP3_13 fP3_13 cP3_14 fP3_14 cP3_15 fP3_15 cR3_0 fR3_0 cR3_1 fR3_1 cR3_2 fR3_2 cR3_3 fR3_3 cR3_4 fR3_4 cR3_5 fR3_5 cR3_6 fR3_6 cR3_7 fR3_7 cR3_8 fR3_8 cR3_9 fR3_9 cR3_10 fR3_10 cR3_11 fR3_11 cR3_12 fR3_12 cR3_13 fR3_13 cR3_14 fR3_14 cR3_15 fR3_15 hP3 hQ3 hR3 hB3 hb3
  obtain ⟨cP4_0, cP4_1, cP4_2, cP4_3, cP4_4, cP4_5, cP4_6, cP4_7, cP4_8, cP4_9, cP4_10, cP4_11, cP4_12, cP4_13, cP4_14, cP4_15, fP4_0, fP4_1, fP4_2, fP4_3, fP4_4, fP4_5, fP4_6, fP4_7, fP4_8, fP4_9, fP4_10, fP4_11, fP4_12, fP4_13, fP4_14, fP4_15, zP4⟩ := blk16 hP4
  obtain ⟨cR4_0, cR4_1, cR4_2, cR4_3, cR4_4, cR4_5, cR4_6, cR4_7, cR4_8, cR4_9, cR4_10, cR4_11, cR4_12, cR4_13, cR4_14, cR4_15, fR4_0, fR4_1, fR4_2, fR4_3, fR4_4, fR4_5, fR4_6, fR4_7, fR4_8, fR4_9, fR4_10, fR4_11, fR4_12, fR4_13, fR4_14, fR4_15, zR4⟩ := blk16 hR4
  go_wp2_with fail
  refine (toBlind_any _ _ _).mono ?_; rintro E w5 ⟨rfl, hw5⟩
  have hP5 : w5.heap[w.heap.size]? = some (.cells #[.int .i64 la, .int .i64 dy, .int .i64 mi, .slice A n cap, .int .i64 e1, .int .i64 n1, .int .i64 fe, .int .i64 fn, .int .i64 fu, .int .i64 ho, .int .i64 ha, .int .i64 ne, .int .i64 lo, .int .i64 hi, .bool up, .int .i64 st] 32 (0, 0)) := by refine blk_next ?_ hw5; exact blk_far (blk_far (hP4) (by omega) _) (by omega) _
  have hQ5 : w5.heap[(w.heap.size + 1)]? = some (.cells #[.int .i64 0, .int .i64 0, .int .i64 0, .slice none 0 0, .int .i64 0, .int .i64 0, .int .i64 0, .int .i64 0, .int .i64 0, .int .i64 0, .int .i64 0, .int .i64 0, .int .i64 0, .int .i64 0, .bool false, .int .i64 0] 40 (0, 0)) := by refine blk_next ?_ hw5; exact blk_far (blk_far (hQ4) (by omega) _) (by omega) _
  have hR5 : w5.heap[(w.heap.size + 1 + 1)]? = some (.cells #[.int .i64 la, .int .i64 dy, .int .i64 mi, .slice (some ⟨g, 0, none⟩) n n, .int .i64 e1, .int .i64 n1, .int .i64 fe, .int .i64 fn, .int .i64 fu, .int .i64 ho, .int .i64 ha, .int .i64 ne, .int .i64 lo, .int .i64 hi, .bool false, .int .i64 0] 40 (0, 0)) := by refine blk_next ?_ hw5; exact blk16_at13 (blk16_at12 (hR4))
  have hB5 : Below w.heap.size w w5 := by refine bel_next ?_ hw5; exact ((hB4).setCell (p := ⟨(w.heap.size + 1 + 1), 12, none⟩) (by simp; omega) _).setCell (p := ⟨(w.heap.size + 1 + 1), 13, none⟩) (by simp; omega) _
  have hb5 : SBlk encBlock w5 g 58 xs := by refine SBlk.next ?_ hw5; exact blk_far (blk_far (hb4) (by omega) _) (by omega) _
  clear cP4_0 fP4_0 cP4_1 fP4_1 cP4_2 fP4_2 cP4_3 fP4_3 cP4_4 fP4_4 cP4_5 fP4_5 cP4_6 fP4_6 cP4_7 fP4_7 cP4_8 fP4_8 cP4_9 fP4_9 cP4_10 fP4_10 cP4_11 fP4_11 cP4_12 fP4_12 cP4_13 fP4_13 cP4_14 fP4_14 cP4_15 fP4_15 cR4_0 fR4_0 cR4_1 fR4_1 cR4_2 fR4_2 cR4_3 fR4_3 cR4_4 fR4_4 cR4_5 fR4_5 cR4_6 fR4_6 cR4_7 fR4_7 cR4_8 fR4_8 cR4_9 fR4_9 cR4_10 fR4_10 cR4_11 fR4_11 cR4_12 fR4_12 cR4_13 fR4_13 cR4_14 fR4_14 cR4_15 fR4_15 hP4 hQ4 hR4 hB4 hb4
  obtain ⟨cR5_0, cR5_1, cR5_2, cR5_3, cR5_4, cR5_5, cR5_6, cR5_7, cR5_8, cR5_9, cR5_10, cR5_11, cR5_12, cR5_13, cR5_14, cR5_15, fR5_0, fR5_1, fR5_2, fR5_3, fR5_4, fR5_5, fR5_6, fR5_7, fR5_8, fR5_9, fR5_10, fR5_11, fR5_12, fR5_13, fR5_14, fR5_15, zR5⟩ := blk16 hR5
  obtain ⟨cQ5_0, cQ5_1, cQ5_2, cQ5_3, cQ5_4, cQ5_5, cQ5_6, cQ5_7, cQ5_8, cQ5_9, cQ5_10, cQ5_11, cQ5_12, cQ5_13, cQ5_14, cQ5_15, fQ5_0, fQ5_1, fQ5_2, fQ5_3, fQ5_4, fQ5_5, fQ5_6, fQ5_7, fQ5_8, fQ5_9, fQ5_10, fQ5_11, fQ5_12, fQ5_13, fQ5_14, fQ5_15, zQ5⟩ := blk16 hQ5
  have hQ6 := blk16_put (y0 := .int .i64 la) (y1 := .int .i64 dy) (y2 := .int .i64 mi) (y3 := .slice (some ⟨g, 0, none⟩) n n) (y4 := .int .i64 e1) (y5 := .int .i64 n1) (y6 := .int .i64 fe) (y7 := .int .i64 fn) (y8 := .int .i64 fu) (y9 := .int .i64 ho) (y10 := .int .i64 ha) (y11 := .int .i64 ne) (y12 := .int .i64 lo) (y13 := .int .i64 hi) (y14 := .bool up) (y15 := .int .i64 st) (blk_far (C := (w.heap.size + 1 + 1)) (i := 15) (blk_far (C := (w.heap.size + 1 + 1)) (i := 14) hQ5 (by omega) (.bool up)) (by omega) (.int .i64 st))
  obtain ⟨u0, u1, u2, u3, u4, u5, u6, u7, u8, u9, u10, u11, u12, u13, u14, u15, _⟩ := blk16 hQ6
  clear hQ6
  go_wp2
  exact bodyPost_ret (v := .agg #[.int .i64 la, .int .i64 dy, .int .i64 mi, .slice (some ⟨g, 0, none⟩) n n, .int .i64 e1, .int .i64 n1, .int .i64 fe, .int .i64 fn, .int .i64 fu, .int .i64 ho, .int .i64 ha, .int .i64 ne, .int .i64 lo, .int .i64 hi, .bool up, .int .i64 st]) (by simp [results, Tryz.results10, go_sem, u0, u1, u2, u3, u4, u5, u6, u7, u8, u9, u10, u11, u12, u13, u14, u15]) rfl ⟨g, rfl, by omega, blk_store16 (blk_far (blk_far hb5 (by omega) _) (by omega) _) (by omega) _ _ _ _ _ _ _ _ _ _ _ _ _ _ _ _, store16_bel ((hB5.setCell (p := ⟨(w.heap.size + 1 + 1), 14, none⟩) (by simp; omega) _).setCell (p := ⟨(w.heap.size + 1 + 1), 15, none⟩) (by simp; omega) _) (by omega) _ _ _ _ _ _ _ _ _ _ _ _ _ _ _ _⟩
set_option maxRecDepth 100000 in
set_option maxHeartbeats 4000000 in
theorem eqSite_same (la dy mi e1 n1 fe fn fu ho ha ne lo hi st : Int) (up : Bool) (A B : Option Addr) (ca cb : Nat) (xs : List VBlock) {n : Nat} {w : World} (hn : xs.length = n) (hA : SRow encBlock w A xs) (hB' : SRow encBlock w B xs) (hl : n ≤ 2000000) :
    Calls Tryz.prog 12 #[.agg #[.int .i64 la, .int .i64 dy, .int .i64 mi, .slice A n ca, .int .i64 e1, .int .i64 n1, .int .i64 fe, .int .i64 fn, .int .i64 fu, .int .i64 ho, .int .i64 ha, .int .i64 ne, .int .i64 lo, .int .i64 hi, .bool up, .int .i64 st], .agg #[.int .i64 la, .int .i64 dy, .int .i64 mi, .slice B n cb, .int .i64 e1, .int .i64 n1, .int .i64 fe, .int .i64 fn, .int .i64 fu, .int .i64 ho, .int .i64 ha, .int .i64 ne, .int .i64 lo, .int .i64 hi, .bool up, .int .i64 st]] w fun e w' => e = .returned (.bool true) ∧ Below w.heap.size w w' := by
  have HN := Lib.hid hn
  clear hn
  go_enter Tryz.func12, Tryz.ntmps12
  go_wp2_with fail
  refine (eqBlockS_same A B ca cb xs HN.out (hA.next (bel2 w _ _)) (hB'.next (bel2 w _ _)) hl).mono ?_; rintro E w1 ⟨rfl, hw1⟩
  obtain ⟨hP1, hQ1, hB1⟩ := ownb2 hw1
  obtain ⟨cP1_0, cP1_1, cP1_2, cP1_3, cP1_4, cP1_5, cP1_6, cP1_7, cP1_8, cP1_9, cP1_10, cP1_11, cP1_12, cP1_13, cP1_14, cP1_15, fP1_0, fP1_1, fP1_2, fP1_3, fP1_4, fP1_5, fP1_6, fP1_7, fP1_8, fP1_9, fP1_10, fP1_11, fP1_12, fP1_13, fP1_14, fP1_15, zP1⟩ := blk16 hP1
  obtain ⟨cQ1_0, cQ1_1, cQ1_2, cQ1_3, cQ1_4, cQ1_5, cQ1_6, cQ1_7, cQ1_8, cQ1_9, cQ1_10, cQ1_11, cQ1_12, cQ1_13, cQ1_14, cQ1_15, fQ1_0, fQ1_1, fQ1_2, fQ1_3, fQ1_4, fQ1_5, fQ1_6, fQ1_7, fQ1_8, fQ1_9, fQ1_10, fQ1_11, fQ1_12, fQ1_13, fQ1_14, fQ1_15, zQ1⟩ := blk16 hQ1
  go_wp2_with fail
  refine (eqPlace_same _ _ _).mono ?_; rintro E w2 ⟨rfl, hw2⟩
  have hP2 := blk_next hP1 hw2
  have hQ2 := blk_next hQ1 hw2
  have hB2 := bel_next hB1 hw2
  clear cP1_0 fP1_0 cP1_1 fP1_1 cP1_2 fP1_2 cP1_3 fP1_3 cP1_4 fP1_4 cP1_5 fP1_5 cP1_6 fP1_6 cP1_7 fP1_7 cP1_8 fP1_8 cP1_9 fP1_9 cP1_10 fP1_10 cP1_11 fP1_11 cP1_12 fP1_12 cP1_13 fP1_13 cP1_14 fP1_14 cP1_15 fP1_15 cQ1_0 fQ1_0 cQ1_1 fQ1_1 cQ1_2 fQ1_2 cQ1_3 fQ1_3 cQ1_4 fQ1_4 cQ1_5 fQ1_5 cQ1_6 fQ1_6 cQ1_7 fQ1_7 cQ1_8 fQ1_8 cQ1_9 fQ1_9 cQ1_10 fQ1_10 cQ1_11 fQ1_11 cQ1_12 fQ1_12 cQ1_13 fQ1_13 cQ1_14 fQ1_14 cQ1_15 fQ1_15 hP1 hQ1
  obtain ⟨cP2_0, cP2_1, cP2_2, cP2_3, cP2_4, cP2_5, cP2_6, cP2_7, cP2_8, cP2_9, cP2_10, cP2_11, cP2_12, cP2_13, cP2_14, cP2_15, fP2_0, fP2_1, fP2_2, fP2_3, fP2_4, fP2_5, fP2_6, fP2_7, fP2_8, fP2_9, fP2_10, fP2_11, fP2_12, fP2_13, fP2_14, fP2_15, zP2⟩ := blk16 hP2
  obtain ⟨cQ2_0, cQ2_1, cQ2_2, cQ2_3, cQ2_4, cQ2_5, cQ2_6, cQ2_7, cQ2_8, cQ2_9, cQ2_10, cQ2_11, cQ2_12, cQ2_13, cQ2_14, cQ2_15, fQ2_0, fQ2_1, fQ2_2, fQ2_3, fQ2_4, fQ2_5, fQ2_6, fQ2_7, fQ2_8, fQ2_9, fQ2_10, fQ2_11, fQ2_12, fQ2_13, fQ2_14, fQ2_15, zQ2⟩ := blk16 hQ2
  go_wp2_with fail
  refine (eqFace_same _ _ _ _).mono ?_; rintro E w3 ⟨rfl, hw3⟩
  have hP3 := blk_next hP2 hw3
  have hQ3 := blk_next hQ2 hw3
  have hB3 := bel_next hB2 hw3
  clear cP2_0 fP2_0 cP2_1 fP2_1 cP2_2 fP2_2 cP2_3 fP2_3 cP2_4 fP2_4 cP2_5 fP2_5 cP2_6 fP2_6 cP2_7 fP2_7 cP2_8 fP2_8 cP2_9 fP2_9 cP2_10 fP2_10 cP2_11 fP2_11 cP2_12 fP2_12 cP2_13 fP2_13 cP2_14 fP2_14 cP2_15 fP2_15 cQ2_0 fQ2_0 cQ2_1 fQ2_1 cQ2_2 fQ2_2 cQ2_3 fQ2_3 cQ2_4 fQ2_4 cQ2_5 fQ2_5 cQ2_6 fQ2_6 cQ2_7 fQ2_7 cQ2_8 fQ2_8 cQ2_9 fQ2_9 cQ2_10 fQ2_10 cQ2_11 fQ2_11 cQ2_12 fQ2_12 cQ2_13 fQ2_13 cQ2_14 fQ2_14 cQ2_15 fQ2_15 hP2 hQ2
  obtain ⟨cP3_0, cP3_1, cP3_2, cP3_3, cP3_4, cP3_5, cP3_6, cP3_7, cP3_8, cP3_9, cP3_10, cP3_11, cP3_12, cP3_13, cP3_14, cP3_15, fP3_0, fP3_1, fP3_2, fP3_3, fP3_4, fP3_5, fP3_6, fP3_7, fP3_8, fP3_9, fP3_10, fP3_11, fP3_12, fP3_13, fP3_14, fP3_15, zP3⟩ := blk16 hP3
  obtain ⟨cQ3_0, cQ3_1, cQ3_2, cQ3_3, cQ3_4, cQ3_5, cQ3_6, cQ3_7, cQ3_8, cQ3_9, cQ3_10, cQ3_11, cQ3_12, cQ3_13, cQ3_14, cQ3_15, fQ3_0, fQ3_1, fQ3_2, fQ3_3, fQ3_4, fQ3_5, fQ3_6, fQ3_7, fQ3_8, fQ3_9, fQ3_10, fQ3_11, fQ3_12, fQ3_13, fQ3_14, fQ3_15, zQ3⟩ := blk16 hQ3
  go_wp2_with fail
  refine (eqBand_same _ _ _).mono ?_; rintro E w4 ⟨rfl, hw4⟩
  have hP4 := blk_next hP3 hw4
  have hQ4 := blk_next hQ3 hw4
  have hB4 := bel_next hB3 hw4
  clear cP3_0 fP3_0 cP3_1 fP3_1 cP3_2 fP3_2 cP3_3 fP3_3 cP3_4 fP3_4 cP3_5 fP3_5 cP3_6 fP3_6 cP3_7 fP3_7 cP3_8 fP3_8 cP3_9 fP3_9 cP3_10 fP3_10 cP3_11 fP3_11 cP3_12 fP3_12 cP3_13 fP3_13 cP3_14 fP3_14 cP3_15 fP3_15 cQ3_0 fQ3_0 cQ3_1 fQ3_1 cQ3_2 fQ3_2 cQ3_3 fQ3_3 cQ3_4 fQ3_4 cQ3_5 fQ3_5 cQ3_6 fQ3_6 cQ3_7 fQ3_7 cQ3_8 fQ3_8 cQ3_9 fQ3_9 cQ3_10 fQ3_10 cQ3_11 fQ3_11 cQ3_12 fQ3_12 cQ3_13 fQ3_13 cQ3_14 fQ3_14 cQ3_15 fQ3_15 hP3 hQ3
  obtain ⟨cP4_0, cP4_1, cP4_2, cP4_3, cP4_4, cP4_5, cP4_6, cP4_7, cP4_8, cP4_9, cP4_10, cP4_11, cP4_12, cP4_13, cP4_14, cP4_15, fP4_0, fP4_1, fP4_2, fP4_3, fP4_4, fP4_5, fP4_6, fP4_7, fP4_8, fP4_9, fP4_10, fP4_11, fP4_12, fP4_13, fP4_14, fP4_15, zP4⟩ := blk16 hP4
  obtain ⟨cQ4_0, cQ4_1, cQ4_2, cQ4_3, cQ4_4, cQ4_5, cQ4_6, cQ4_7, cQ4_8, cQ4_9, cQ4_10, cQ4_11, cQ4_12, cQ4_13, cQ4_14, cQ4_15, fQ4_0, fQ4_1, fQ4_2, fQ4_3, fQ4_4, fQ4_5, fQ4_6, fQ4_7, fQ4_8, fQ4_9, fQ4_10, fQ4_11, fQ4_12, fQ4_13, fQ4_14, fQ4_15, zQ4⟩ := blk16 hQ4
  go_wp2_with fail
  refine (eqBlind_same _ _ _).mono ?_; rintro E w5 ⟨rfl, hw5⟩
  have hP5 := blk_next hP4 hw5
  have hQ5 := blk_next hQ4 hw5
  have hB5 := bel_next hB4 hw5
  clear cP4_0 fP4_0 cP4_1 fP4_1 cP4_2 fP4_2 cP4_3 fP4_3 cP4_4 fP4_4 cP4_5 fP4_5 cP4_6 fP4_6 cP4_7 fP4_7 cP4_8 fP4_8 cP4_9 fP4_9 cP4_10 fP4_10 cP4_11 fP4_11 cP4_12 fP4_12 cP4_13 fP4_13 cP4_14 fP4_14 cP4_15 fP4_15 cQ4_0 fQ4_0 cQ4_1 fQ4_1 cQ4_2 fQ4_2 cQ4_3 fQ4_3 cQ4_4 fQ4_4 cQ4_5 fQ4_5 cQ4_6 fQ4_6 cQ4_7 fQ4_7 cQ4_8 fQ4_8 cQ4_9 fQ4_9 cQ4_10 fQ4_10 cQ4_11 fQ4_11 cQ4_12 fQ4_12 cQ4_13 fQ4_13 cQ4_14 fQ4_14 cQ4_15 fQ4_15 hP4 hQ4
  go_wp2
  go_ret
  exact ⟨rfl, hB5⟩
set_option maxRecDepth 100000 in
set_option maxHeartbeats 4000000 in
theorem szSite_any (la dy mi e1 n1 fe fn fu ho ha ne lo hi st : Int) (up : Bool) (A : Option Addr) (n cap : Nat) (L : Int) (w : World) (h0 : 0 ≤ L) (h1 : L ≤ 1048576) (hl : n ≤ maxLen) : Calls Tryz.prog 8 #[.agg #[.int .i64 la, .int .i64 dy, .int .i64 mi, .slice A n cap, .int .i64 e1, .int .i64 n1, .int .i64 fe, .int .i64 fn, .int .i64 fu, .int .i64 ho, .int .i64 ha, .int .i64 ne, .int .i64 lo, .int .i64 hi, .bool up, .int .i64 st], .int .i64 L] w fun e w' => ∃ r, e = .returned (.int .i64 r) ∧ LeftBlock L n r ∧ Below w.heap.size w w' := by
  go_enter Tryz.func8, Tryz.ntmps8
  go_wp2_with fail
  refine (szBlockS_any A n cap L _ h0 h1 hl).mono ?_; rintro E w1 ⟨r, rfl, hL, rfl⟩
  rcases hL with rfl | ⟨q0, q1, q2⟩
  · go_wp2
    go_ret
    exact ⟨-1, rfl, .inl rfl, bel1 _ _⟩
  · have hr : ¬ r < 0 := by omega
    go_wp2
    go_ret
    exact ⟨r, rfl, .inr ⟨q0, q1, q2⟩, bel1 _ _⟩
end Go.Proofs.YtigndpajpofofaaGreat
namespace Go.Proofs.YtigndpajpofofaaGreat
open Go Go.ChangeShapes Go.WideShapes Go.ChangeAt Go.RowKit
set_option linter.unusedSimpArgs false
set_option linter.unusedVariables false
section
variable {P : Program}
/-- A whole load. -/
theorem run_load_row9 {o : Oper} {a : Act} {w : World} (ty : TypeId) (x : Operand) (ho : o.op = .load ty x)
    (g : Nat) (hx : a.eval x = .pointer (some ⟨g, 0, none⟩)) (t : TypeId) (cs : Array Value) (fr : Nat × Nat) (d : TypeDesc) (hg : w.heap[g]? = some (.cells cs t fr))
    (hu : P.underlying ty = some d) (hd : (match d with | .struct _ | .array _ _ => true | _ => false) = true) (hi : (P.info? ty).map (·.size) = some cs.size) :
    (execOp a.eval o).run P w = .ok (.value (.agg cs)) w := by
  unfold execOp
  simp only [ho, hx, Instr.loadAt, Instr.sureAddr, Sem.run_bind, Sem.run_pure, Result.andThen_ok, run_loadVar_row w g t ty cs fr d hg hu hd hi]
/-- A whole load behind a guard that holds. -/
theorem wpList_load_rowG {ops : Array Oper} {rest : List Oper} {o : Oper} {a : Act} {w : World} {Q : Exit → Act → World → Prop} (hgd : Region.wanted o (yielded ops a.tmps) = true) (ty : TypeId) (x : Operand) (ho : o.op = .load ty x)
    (g : Nat) (hx : a.eval x = .pointer (some ⟨g, 0, none⟩)) (t : TypeId) (cs : Array Value) (fr : Nat × Nat) (d : TypeDesc) (hg : w.heap[g]? = some (.cells cs t fr))
    (hu : P.underlying ty = some d) (hd : (match d with | .struct _ | .array _ _ => true | _ => false) = true) (hi : (P.info? ty).map (·.size) = some cs.size)
    (h : wpList P ops Q rest (a.put o.dst (.agg cs)) w) : wpList P ops Q (o :: rest) a w :=
  wpList_step fun K hK => by rw [if_pos hgd]; exact wp_load_row ty x ho g hx t cs fr d hg hu hd hi (hK _ _ h)
end
set_option maxRecDepth 100000 in
set_option maxHeartbeats 4000000 in
theorem markSite_any (la dy mi e1 n1 fe fn fu ho ha ne lo hi st : Int) (up : Bool) (base : Nat) (A : Option Addr) (cap : Nat) (xs : List VBlock) (k0 : Nat) {m : Nat} {w : World} (hm : xs.length = m) (hb : base ≤ w.heap.size) (hO : SOwn encBlock w base 58 A cap xs) (hl : m ≤ 2000000) (h0 : 1 ≤ k0) (h1 : k0 ≤ 10000000) :
    Calls Tryz.prog 13 #[.agg #[.int .i64 la, .int .i64 dy, .int .i64 mi, .slice A m cap, .int .i64 e1, .int .i64 n1, .int .i64 fe, .int .i64 fn, .int .i64 fu, .int .i64 ho, .int .i64 ha, .int .i64 ne, .int .i64 lo, .int .i64 hi, .bool up, .int .i64 st], .int .i64 k0] w fun e w' => e = .returned (.int .i64 (k0 + 5 * m)) ∧ SOwn encBlock w' base 58 A cap (markS (mkBlock k0) m) ∧ w.grownBy w' (Value.ownBlock (.slice A m cap)) := by
  have HM := Lib.hid hm
  clear hm
  go_enter Tryz.func13, Tryz.ntmps13
  go_wp2_with fail
  refine (markBlockS_any base A cap xs k0 HM.out (hO.alloc _) hl h0 h1).mono ?_; rintro E w1 ⟨rfl, hO1, hG⟩
  go_wp2
  go_ret
  refine ⟨rfl, hO1, ?_⟩
  exact ⟨hG.os.trans rfl, hG.tape.trans rfl, hG.output.trans rfl, by have := hG.size; simp at this; omega, fun k hk hne => by rw [hG.block k (by simp; omega) hne]; exact (bel1 w _).block k hk⟩
end Go.Proofs.YtigndpajpofofaaGreat
namespace Go.Proofs.YtigndpajpofofaaGreat
open Go Go.ChangeShapes Go.WideShapes Go.ChangeAt Go.RowKit Go.Deep
set_option linter.unusedSimpArgs false
set_option linter.unusedVariables false
set_option linter.unnecessarySimpa false
section
variable {H : Type} {enc : TypeId × Value → H} {w : World} {base : Nat} {spare : Nat → Bool} {held : Bool}
theorem trod_struct11 {P : Program} {t : TypeId} {f0 f1 f2 f3 f4 f5 f6 f7 f8 f9 f10 : Field} {fuel : Nat} {cs : List Value} {x : DataW H × List MemPlace} (ht : P.underlying t = some (.struct #[f0, f1, f2, f3, f4, f5, f6, f7, f8, f9, f10])) (h : DataW.trod enc P w base spare held fuel t cs = some x) :
    ∃ y0 y1 y2 y3 y4 y5 y6 y7 y8 y9 y10 n, cs.length = P.cellsOf t ∧ DataW.trod enc P w base spare held n f0.type ((cs.drop f0.offset).take (P.cellsOf f0.type)) = some y0 ∧ DataW.trod enc P w base spare held n f1.type ((cs.drop f1.offset).take (P.cellsOf f1.type)) = some y1 ∧ DataW.trod enc P w base spare held n f2.type ((cs.drop f2.offset).take (P.cellsOf f2.type)) = some y2 ∧ DataW.trod enc P w base spare held n f3.type ((cs.drop f3.offset).take (P.cellsOf f3.type)) = some y3 ∧ DataW.trod enc P w base spare held n f4.type ((cs.drop f4.offset).take (P.cellsOf f4.type)) = some y4 ∧ DataW.trod enc P w base spare held n f5.type ((cs.drop f5.offset).take (P.cellsOf f5.type)) = some y5 ∧ DataW.trod enc P w base spare held n f6.type ((cs.drop f6.offset).take (P.cellsOf f6.type)) = some y6 ∧ DataW.trod enc P w base spare held n f7.type ((cs.drop f7.offset).take (P.cellsOf f7.type)) = some y7 ∧ DataW.trod enc P w base spare held n f8.type ((cs.drop f8.offset).take (P.cellsOf f8.type)) = some y8 ∧ DataW.trod enc P w base spare held n f9.type ((cs.drop f9.offset).take (P.cellsOf f9.type)) = some y9 ∧ DataW.trod enc P w base spare held n f10.type ((cs.drop f10.offset).take (P.cellsOf f10.type)) = some y10 := by
  obtain ⟨xs, n, _, rfl, hl, hlen, hf⟩ := DataW.trod_struct ht h
  match xs, hlen with
  | [y0, y1, y2, y3, y4, y5, y6, y7, y8, y9, y10], _ => exact ⟨y0, y1, y2, y3, y4, y5, y6, y7, y8, y9, y10, n, hl, by simpa using hf 0 f0 rfl, by simpa using hf 1 f1 rfl, by simpa using hf 2 f2 rfl, by simpa using hf 3 f3 rfl, by simpa using hf 4 f4 rfl, by simpa using hf 5 f5 rfl, by simpa using hf 6 f6 rfl, by simpa using hf 7 f7 rfl, by simpa using hf 8 f8 rfl, by simpa using hf 9 f9 rfl, by simpa using hf 10 f10 rfl⟩
set_option maxRecDepth 100000 in
set_option maxHeartbeats 4000000 in
theorem decSite (fuel : Nat) (cs : List Value) (x : DataW H × List MemPlace) (h : DataW.trod enc Tryz.prog w base spare held fuel 32 cs = some x) : ∃ (la dy mi e1 n1 fe fn fu ho ha ne lo hi st : Int) (up : Bool) (A : Option Addr) (cap : Nat) (xs : List VBlock), cs = [.int .i64 la, .int .i64 dy, .int .i64 mi, .slice A xs.length cap, .int .i64 e1, .int .i64 n1, .int .i64 fe, .int .i64 fn, .int .i64 fu, .int .i64 ho, .int .i64 ha, .int .i64 ne, .int .i64 lo, .int .i64 hi, .bool up, .int .i64 st] ∧ SRow encBlock w A xs ∧ xs.length ≤ maxLen ∧ Wf la ∧ Wf dy ∧ Wf mi ∧ Wf e1 ∧ Wf n1 ∧ Wf fe ∧ Wf fn ∧ Wf fu ∧ Wf ho ∧ Wf ha ∧ Wf ne ∧ Wf lo ∧ Wf hi ∧ Wf st := by
  obtain ⟨y0, y1, y2, y3, y4, y5, y6, y7, y8, y9, y10, n, hlen, h0, h1, h2, h3, h4, h5, h6, h7, h8, h9, h10⟩ := trod_struct11 Tryz.underlying32 h
  have hc : cs.length = 16 := hlen.trans (by kernel_rfl)
  match cs, hc with
  | [c0, c1, c2, c3, c4, c5, c6, c7, c8, c9, c10, c11, c12, c13, c14, c15], _ =>
    have dr0 : (([c0, c1, c2, c3, c4, c5, c6, c7, c8, c9, c10, c11, c12, c13, c14, c15] : List Value).drop 0).take 1 = [c0] := rfl
    have dr1 : (([c0, c1, c2, c3, c4, c5, c6, c7, c8, c9, c10, c11, c12, c13, c14, c15] : List Value).drop 1).take 1 = [c1] := rfl
    have dr2 : (([c0, c1, c2, c3, c4, c5, c6, c7, c8, c9, c10, c11, c12, c13, c14, c15] : List Value).drop 2).take 1 = [c2] := rfl
    have dr3 : (([c0, c1, c2, c3, c4, c5, c6, c7, c8, c9, c10, c11, c12, c13, c14, c15] : List Value).drop 3).take 1 = [c3] := rfl
    have dr4 : (([c0, c1, c2, c3, c4, c5, c6, c7, c8, c9, c10, c11, c12, c13, c14, c15] : List Value).drop 4).take 2 = [c4, c5] := rfl
    have dr5 : (([c0, c1, c2, c3, c4, c5, c6, c7, c8, c9, c10, c11, c12, c13, c14, c15] : List Value).drop 6).take 3 = [c6, c7, c8] := rfl
    have dr6 : (([c0, c1, c2, c3, c4, c5, c6, c7, c8, c9, c10, c11, c12, c13, c14, c15] : List Value).drop 9).take 1 = [c9] := rfl
    have dr7 : (([c0, c1, c2, c3, c4, c5, c6, c7, c8, c9, c10, c11, c12, c13, c14, c15] : List Value).drop 10).take 1 = [c10] := rfl
    have dr8 : (([c0, c1, c2, c3, c4, c5, c6, c7, c8, c9, c10, c11, c12, c13, c14, c15] : List Value).drop 11).take 1 = [c11] := rfl
    have dr9 : (([c0, c1, c2, c3, c4, c5, c6, c7, c8, c9, c10, c11, c12, c13, c14, c15] : List Value).drop 12).take 2 = [c12, c13] := rfl
    have dr10 : (([c0, c1, c2, c3, c4, c5, c6, c7, c8, c9, c10, c11, c12, c13, c14, c15] : List Value).drop 14).take 2 = [c14, c15] := rfl
    have k0 : Tryz.prog.cellsOf 3 = 1 := by kernel_rfl
    have k1 : Tryz.prog.cellsOf 22 = 1 := by kernel_rfl
    have k2 : Tryz.prog.cellsOf 24 = 2 := by kernel_rfl
    have k3 : Tryz.prog.cellsOf 26 = 3 := by kernel_rfl
    have k4 : Tryz.prog.cellsOf 28 = 2 := by kernel_rfl
    have k5 : Tryz.prog.cellsOf 30 = 2 := by kernel_rfl
    simp only [k0, dr0] at h0
    simp only [k0, dr1] at h1
    simp only [k0, dr2] at h2
    simp only [k1, dr3] at h3
    simp only [k2, dr4] at h4
    simp only [k3, dr5] at h5
    simp only [k0, dr6] at h6
    simp only [k0, dr7] at h7
    simp only [k0, dr8] at h8
    simp only [k4, dr9] at h9
    simp only [k5, dr10] at h10
    obtain ⟨la, g0, _, qla⟩ := DataW.trod_int Tryz.underlying3 h0
    simp at g0
    subst g0
    obtain ⟨dy, g1, _, qdy⟩ := DataW.trod_int Tryz.underlying3 h1
    simp at g1
    subst g1
    obtain ⟨mi, g2, _, qmi⟩ := DataW.trod_int Tryz.underlying3 h2
    simp at g2
    subst g2
    obtain ⟨A, cap, xs, g3, hl, hr, _⟩ := openBlockS h3
    simp at g3
    subst g3
    obtain ⟨⟨e1, n1⟩, g4, qe1, qn1⟩ := decPlace _ _ _ h4
    simp [encPlace] at g4
    obtain ⟨rfl, rfl⟩ := g4
    obtain ⟨⟨fe, fn, fu⟩, g5, qfe, qfn, qfu⟩ := decFace _ _ _ h5
    simp [encFace] at g5
    obtain ⟨rfl, rfl, rfl⟩ := g5
    obtain ⟨ho, g6, _, qho⟩ := DataW.trod_int Tryz.underlying3 h6
    simp at g6
    subst g6
    obtain ⟨ha, g7, _, qha⟩ := DataW.trod_int Tryz.underlying3 h7
    simp at g7
    subst g7
    obtain ⟨ne, g8, _, qne⟩ := DataW.trod_int Tryz.underlying3 h8
    simp at g8
    subst g8
    obtain ⟨⟨lo, hi⟩, g9, qlo, qhi⟩ := decBand _ _ _ h9
    simp [encBand] at g9
    obtain ⟨rfl, rfl⟩ := g9
    obtain ⟨⟨up, st⟩, g10, qup, qst⟩ := decBlind _ _ _ h10
    simp [encBlind] at g10
    obtain ⟨rfl, rfl⟩ := g10
    exact ⟨la, dy, mi, e1, n1, fe, fn, fu, ho, ha, ne, lo, hi, st, up, A, cap, xs, rfl, hr, hl, qla, qdy, qmi, qe1, qn1, qfe, qfn, qfu, qho, qha, qne, qlo, qhi, qst⟩
set_option maxRecDepth 100000 in
set_option maxHeartbeats 4000000 in
theorem openSite {r : Reach} {b0 : Nat} {v : Value} {d : DataW H} {p : List MemPlace} (hv : Value.okWide Tryz.prog w r b0 32 v) (h : DataW.Trod enc Tryz.prog w base spare held 32 v d p) : ∃ (la dy mi e1 n1 fe fn fu ho ha ne lo hi st : Int) (up : Bool) (A : Option Addr) (cap : Nat) (xs : List VBlock), v = .agg #[.int .i64 la, .int .i64 dy, .int .i64 mi, .slice A xs.length cap, .int .i64 e1, .int .i64 n1, .int .i64 fe, .int .i64 fn, .int .i64 fu, .int .i64 ho, .int .i64 ha, .int .i64 ne, .int .i64 lo, .int .i64 hi, .bool up, .int .i64 st] ∧ SRow encBlock w A xs ∧ xs.length ≤ maxLen ∧ Wf la ∧ Wf dy ∧ Wf mi ∧ Wf e1 ∧ Wf n1 ∧ Wf fe ∧ Wf fn ∧ Wf fu ∧ Wf ho ∧ Wf ha ∧ Wf ne ∧ Wf lo ∧ Wf hi ∧ Wf st := by
  obtain ⟨cs, rfl, hsz⟩ := okWide_struct Tryz.underlying32 hv
  obtain ⟨fuel, hf⟩ := h
  obtain ⟨la, dy, mi, e1, n1, fe, fn, fu, ho, ha, ne, lo, hi, st, up, A, cap, xs, hx, hq⟩ := decSite _ _ _ hf
  refine ⟨la, dy, mi, e1, n1, fe, fn, fu, ho, ha, ne, lo, hi, st, up, A, cap, xs, ?_, hq⟩
  have e : cs.toList = [.int .i64 la, .int .i64 dy, .int .i64 mi, .slice A xs.length cap, .int .i64 e1, .int .i64 n1, .int .i64 fe, .int .i64 fn, .int .i64 fu, .int .i64 ho, .int .i64 ha, .int .i64 ne, .int .i64 lo, .int .i64 hi, .bool up, .int .i64 st] := by simpa [Value.cells] using hx
  rw [← e]
end
end Go.Proofs.YtigndpajpofofaaGreat
