/- Contracts of chapter 6: cities that are turned. -/
import Derived.Test.YtidppabconifkabYl
import Derived.Laws.AppendOwn
import Derived.RegionTactic
import Derived.Deep.CutBlock
import Derived.Deep.DeepCutAuto
namespace Go.Proofs.Ytidppabconifkab
open Go Go.Deep Go.ChangeShapes Go.WideShapes Go.ChangeAt Go.RowKit
set_option linter.unusedSimpArgs false
set_option linter.unusedVariables false

theorem wp_make_structsY {P : Program} (w : World) {o : Oper} {a : Act} {Q : Exit → Act → World → Prop} {K : Act → World → Prop} {α : Type} (E : Enc α) (z0 : α)
    (l c : Operand) (t : TypeId) (hop : o.op = Op.makeSlice t l c)
    (e : TypeId) (i : TypeInfo) (z : Value) (ht : P.underlying t = some (.slice e)) (hi : P.info? e = some i) (hz : i.zero = some z) (hsize : i.size = E.k) (hz2 : z.cells = (E.enc z0).toArray)
    (kl kc : IntKind) (n : Nat) (hl : a.eval l = .int kl (n : Int)) (hc : a.eval c = .int kc (n : Int)) (hbytes : i.bytes * n ≤ 281474976710656) (h63 : n ≤ 9223372036854775807)
    (hK : K (a.put o.dst (.slice (some ⟨w.heap.size, 0, none⟩) n n)) (w.alloc (.cells (E.flat (List.replicate n z0)).toArray e))) :
    o.wp P a w K Q := by
  have hb' : (i.bytes : Int) * (n : Int) ≤ 281474976710656 := by
    have h : ((i.bytes * n : Nat) : Int) ≤ 281474976710656 := by omega
    rwa [Int.natCast_mul] at h
  have hrun := run_make (P := P) w t e i z ht hi hz kl kc n n (by omega) (Int.le_refl _) hb' (by omega)
  have hmade : madeCells z.cells (n * i.size) = (E.flat (List.replicate n z0)).toArray := by
    rw [hz2, hsize, E.flat_rep, ← E.len z0]
    exact mod_mul_cells _ (by rw [E.len]; exact E.pos) n
  simp only [Int.toNat_natCast, hmade] at hrun
  unfold Oper.wp
  simp [execOp, hop, hl, hc, hrun, Result.andThen]
  exact hK
theorem blk_drwY {w : World} {k : Nat} {o : Obj} (h : w.heap[k]? = some o) : w.drew.heap[k]? = some o := h
def tnI (d k : Int) : Int := k % d * d + d - 1 - k / d
def ctT (d : Int) (xs : List Int) (n : Nat) : Nat → List Int
  | 0 => List.replicate n 0
  | k + 1 => (ctT d xs n k).set (tnI d k).toNat (xs.getD k 0)
theorem ct_len (d : Int) (xs : List Int) (n : Nat) : ∀ k, (ctT d xs n k).length = n
  | 0 => by simp [ctT]
  | k + 1 => by rw [ctT, List.length_set, ct_len d xs n k]
def ctL (d : Int) (xs : List Int) : List Int := if cvB d xs = true then ctT d xs xs.length xs.length else []
def ctD (d : Int) (xs : List Int) : Int := if cvB d xs = true then d else 0
theorem ctL_len (d : Int) (xs : List Int) : (ctL d xs).length ≤ xs.length := by unfold ctL; split; rw [ct_len]; exact Nat.le_refl _; simp
theorem tn_in {d k : Int} (h : InC d k) : 0 ≤ tnI d k ∧ tnI d k < d * d := by
  refine h.all (P := fun d k => 0 ≤ tnI d k ∧ tnI d k < d * d) ?_ ?_ ?_ ?_ ?_ ?_
  all_goals (intro c a b; unfold tnI; omega)
def CityRet (d : Int) (l : List Int) (w : World) (e : Ending) (w' : World) : Prop := ∃ (A : Option Addr) (cap : Nat), e = .returned (.agg #[.int .i64 d, .slice A l.length cap]) ∧ SOwn encNum w' w.heap.size 3 A cap l ∧ Below w.heap.size w w'
end Go.Proofs.Ytidppabconifkab
