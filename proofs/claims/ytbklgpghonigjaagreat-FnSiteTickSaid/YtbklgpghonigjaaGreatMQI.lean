/- QI: texts joined. -/
import Derived.Test.YtbklgpghonigjaaGreatRows
import Derived.Test.YtbklgpghonigjaaGreatMQA
import Derived.Deep.AppendLies
import Derived.OwnWalk
import Derived.Laws.MakeOwn
import Derived.Test.YtbklgpghonigjaaGreatMQD
namespace Go.Proofs.YtbklgpghonigjaaGreat
open Go.ChangeShapes Go.WideShapes Go.ChangeAt Go.RowKit
set_option linter.unusedSimpArgs false
set_option linter.unusedVariables false
def ints (xs : List Int) : List Value := xs.map (Value.int .i64)
theorem ints_snoc (xs : List Int) (x : Int) : ints xs ++ [.int .i64 x] = ints (xs ++ [x]) := by simp [ints]
theorem ints_at (xs : List Int) (i : Nat) (h : i < xs.length) : (ints xs)[i]? = some (.int .i64 xs[i]) := by simp [ints, h]
theorem cell_next {w w' : World} {b o : Nat} {v : Value} (h : w.cell? ⟨b, o, none⟩ = some v) (hw : Below w.heap.size w w') : w'.cell? ⟨b, o, none⟩ = some v := by
  rw [hw.cell (p := ⟨b, o, none⟩) (World.block_lt_of_cell? w _ h)]; exact h
/-- A slice that reads as a list of numbers. -/
def IRow (w : World) (A : Option Addr) (xs : List Int) : Prop :=
  xs = [] ∨ ∃ b off : Nat, A = some ⟨b, off, none⟩ ∧ ∀ i (h : i < xs.length), w.cell? ⟨b, off + i, none⟩ = some (.int .i64 xs[i])
theorem IRow.nil (w : World) (A : Option Addr) : IRow w A [] := .inl rfl
theorem IRow.at_ {w : World} {A : Option Addr} {xs : List Int} (h : IRow w A xs) {i : Nat} (hi : i < xs.length) :
    ∃ b off : Nat, A = some ⟨b, off, none⟩ ∧ b < w.heap.size ∧ w.cell? ⟨b, off + i, none⟩ = some (.int .i64 xs[i]) := by
  rcases h with rfl | ⟨b, off, rfl, h⟩
  · simp at hi
  · exact ⟨b, off, rfl, World.block_lt_of_cell? w _ (h i hi), h i hi⟩
theorem IRow.next {w w' : World} {A : Option Addr} {xs : List Int} (h : IRow w A xs) (hw : Below w.heap.size w w') : IRow w' A xs := by
  rcases h with rfl | ⟨b, off, rfl, h⟩
  · exact .inl rfl
  · exact .inr ⟨b, off, rfl, fun i hi => cell_next (h i hi) hw⟩
/-- A block that is just these numbers. -/
def IBlk (w : World) (g : Nat) (T : TypeId) (xs : List Int) : Prop := w.heap[g]? = some (.cells (ints xs).toArray T (0, 0))
theorem IBlk.cell {w : World} {g : Nat} {T : TypeId} {xs : List Int} (h : IBlk w g T xs) (i : Nat) (hi : i < xs.length) : w.cell? ⟨g, i, none⟩ = some (.int .i64 xs[i]) := by
  have h1 := ints_at xs i hi
  unfold IBlk at h
  simp [World.cell?, h, h1]
theorem IBlk.frozen {w : World} {g : Nat} {T : TypeId} {xs : List Int} (h : IBlk w g T xs) (i : Nat) : w.frozen? ⟨g, i, none⟩ = false := by
  unfold IBlk at h
  simp [World.frozen?, h]
theorem IBlk.lt {w : World} {g : Nat} {T : TypeId} {xs : List Int} (h : IBlk w g T xs) : g < w.heap.size := blk_lt h
theorem IBlk.next {w w' : World} {g : Nat} {T : TypeId} {xs : List Int} (h : IBlk w g T xs) (hw : Below w.heap.size w w') : IBlk w' g T xs := blk_next h hw
theorem IBlk.row {w : World} {g : Nat} {T : TypeId} {xs : List Int} (h : IBlk w g T xs) : IRow w (some ⟨g, 0, none⟩) xs :=
  .inr ⟨g, 0, rfl, fun i hi => by have := h.cell i hi; simpa using this⟩
/-- A row of numbers of the call's own: nil, or a block of its own. -/
def OwnI (w : World) (base : Nat) (A : Option Addr) (cap : Nat) (xs : List Int) : Prop := w.ownsRow base 3 1 (.slice A xs.length cap) xs.length (ints xs)
theorem OwnI.nil (w : World) (base : Nat) : OwnI w base none 0 [] := World.ownsRow_nil w base 3 1
theorem OwnI.empty {w : World} {g : Nat} (h : w.heap[g]? = some (.cells #[] 3 (0, 0))) {base : Nat} (hb : base ≤ g) : OwnI w base (some ⟨g, 0, none⟩) 0 [] :=
  ⟨by simp [ints], .inr ⟨g, 0, #[], rfl, hb, h, by simp, by simp, by simp, by simp [ints]⟩⟩
theorem OwnI.form {w : World} {base : Nat} {A : Option Addr} {cap : Nat} {xs : List Int} (h : OwnI w base A cap xs) : (A = none ∧ xs = [] ∧ cap = 0) ∨ ∃ g, A = some ⟨g, 0, none⟩ ∧ base ≤ g ∧ g < w.heap.size := by
  have hlt := World.ownsRow.lt h
  rcases h.2 with ⟨e, e0⟩ | ⟨g, cap', cur, e, hb, hg, _⟩
  · left
    simp only [Value.slice.injEq] at e
    exact ⟨e.1, List.length_eq_zero_iff.1 e0, e.2.2⟩
  · right
    simp only [Value.slice.injEq] at e
    obtain ⟨rfl, _, rfl⟩ := e
    exact ⟨g, rfl, hlt g rfl⟩
theorem OwnI.next {w w' : World} {base : Nat} {A : Option Addr} {cap : Nat} {xs : List Int} (h : OwnI w base A cap xs) (hx : Below w.heap.size w w') : OwnI w' base A cap xs :=
  World.ownsRow.kept (row := none) h ⟨hx.os, hx.tape, hx.output, hx.size, fun k hk _ => hx.block k hk⟩ (by cases h' : Value.ownBlock (.slice A xs.length cap) <;> simp)
theorem OwnI.alloc {w : World} {base : Nat} {A : Option Addr} {cap : Nat} {xs : List Int} (h : OwnI w base A cap xs) (o : Obj) : OwnI (w.alloc o) base A cap xs := World.ownsRow.alloc h o
theorem OwnI.drew {w : World} {base : Nat} {A : Option Addr} {cap : Nat} {xs : List Int} (h : OwnI w base A cap xs) : OwnI w.drew base A cap xs := World.ownsRow.drew h
theorem OwnI.mono {w : World} {base base' : Nat} {A : Option Addr} {cap : Nat} {xs : List Int} (h : OwnI w base A cap xs) (hb : base' ≤ base) : OwnI w base' A cap xs := by
  refine ⟨h.1, ?_⟩
  rcases h.2 with h2 | ⟨g, cap', cur, e, hb2, h3⟩
  · exact .inl h2
  · exact .inr ⟨g, cap', cur, e, Nat.le_trans hb hb2, h3⟩
theorem OwnI.cell {w : World} {base g cap : Nat} {xs : List Int} (h : OwnI w base (some ⟨g, 0, none⟩) cap xs) (i : Nat) (hi : i < xs.length) : w.cell? ⟨g, i, none⟩ = some (.int .i64 xs[i]) := by
  have h1 := World.ownsRow.cellAt h i (by omega)
  rw [h1]; exact ints_at xs i hi
theorem OwnI.frozen {w : World} {base g cap : Nat} {xs : List Int} (h : OwnI w base (some ⟨g, 0, none⟩) cap xs) (i : Nat) : w.frozen? ⟨g, i, none⟩ = false := World.ownsRow.frozenAt h i
theorem OwnI.at_ {w : World} {base : Nat} {A : Option Addr} {cap : Nat} {xs : List Int} (h : OwnI w base A cap xs) {i : Nat} (hi : i < xs.length) :
    ∃ g, A = some ⟨g, 0, none⟩ ∧ base ≤ g ∧ g < w.heap.size ∧ w.cell? ⟨g, i, none⟩ = some (.int .i64 xs[i]) ∧ w.frozen? ⟨g, i, none⟩ = false := by
  rcases h.form with ⟨_, rfl, _⟩ | ⟨g, rfl, hb, hg⟩
  · simp at hi
  · exact ⟨g, rfl, hb, hg, h.cell i hi, h.frozen i⟩
theorem OwnI.row {w : World} {base : Nat} {A : Option Addr} {cap : Nat} {xs : List Int} (h : OwnI w base A cap xs) : IRow w A xs := by
  rcases h.form with ⟨_, rfl, _⟩ | ⟨g, rfl, hb, hg⟩
  · exact .inl rfl
  · exact .inr ⟨g, 0, rfl, fun i hi => by have := h.cell i hi; simpa using this⟩
/-- A store into another block. -/
theorem OwnI.far {w : World} {base : Nat} {A : Option Addr} {cap : Nat} {xs : List Int} (h : OwnI w base A cap xs) {C : Nat} (hne : ∀ g, A = some ⟨g, 0, none⟩ → g ≠ C) (i : Nat) (v : Value) : OwnI (w.setCell ⟨C, i, none⟩ v) base A cap xs := by
  refine World.ownsRow.kept (row := some C) h ⟨rfl, rfl, rfl, by simp [World.setCell], fun k hk hk2 => by
    rw [Below.heap_setCell _ _ _ _ (fun e => hk2 (by rw [e]))]⟩ ?_
  rcases h.form with ⟨rfl, _⟩ | ⟨g, rfl, _⟩
  · exact .inl rfl
  · exact .inr (by simp [Value.ownBlock]; exact hne g rfl)
theorem IBlk.far {w : World} {g : Nat} {T : TypeId} {xs : List Int} (h : IBlk w g T xs) {C : Nat} (hne : g ≠ C) (i : Nat) (v : Value) : IBlk (w.setCell ⟨C, i, none⟩ v) g T xs := by
  unfold IBlk; rw [Below.heap_setCell _ _ _ _ hne]; exact h
theorem IBlk.grown {w w' : World} {g : Nat} {T : TypeId} {xs : List Int} {row : Option Nat} (h : IBlk w g T xs) (hg : w.grownBy w' row) (hne : ∀ k, row = some k → g ≠ k) : IBlk w' g T xs := by
  unfold IBlk; rw [hg.block g h.lt (fun e => hne g e.symm rfl)]; exact h
theorem OwnI.grown_far {w w' : World} {base : Nat} {A : Option Addr} {cap : Nat} {xs : List Int} {row : Option Nat} (h : OwnI w base A cap xs) (hg : w.grownBy w' row) (hne : ∀ g, A = some ⟨g, 0, none⟩ → row ≠ some g) : OwnI w' base A cap xs := by
  refine World.ownsRow.kept h hg ?_
  rcases h.form with ⟨rfl, _⟩ | ⟨g, rfl, _⟩
  · exact .inl rfl
  · exact .inr (by simp [Value.ownBlock]; exact fun e => hne g rfl e.symm)
theorem infoI : (Tryz.prog.info? 3).map (fun i => (i.zero, i.size, i.bytes)) = some (some (.int .i64 0), 1, 8) := by kernel_rfl
theorem one_cell (x : Int) : ∀ u ∈ [Value.int .i64 x], u.oneCell' = true := by intro u hu; simp at hu; subst hu; rfl
theorem new_one (w : World) (x : Int) : ∀ j u, [Value.int .i64 x][j]? = some u → (w.alloc (.cells #[.int .i64 x] 3)).cell? ((⟨w.heap.size, 0, none⟩ : Addr).add j) = some u :=
  World.news_of_block (cs := #[.int .i64 x]) (blk_new w _)
/-- Behind an append of one number: the new row, and where old memory is kept. -/
theorem OwnI.snoc {w' : World} {base : Nat} {cap' : Nat} {xs : List Int} {x : Int} {g : Nat} (h : w'.ownsRow base 3 1 (.slice (some ⟨g, 0, none⟩) (xs.length + 1) cap') (xs.length + 1) (ints xs ++ [.int .i64 x])) : OwnI w' base (some ⟨g, 0, none⟩) cap' (xs ++ [x]) := by
  unfold OwnI; rw [ints_snoc] at h; simpa using h
theorem OwnI.below_grown {w0 w w' : World} {A : Option Addr} {cap : Nat} {xs : List Int} {n : Nat} (h : OwnI w w0.heap.size A cap xs) (hB : Below w0.heap.size w0 w) (hg : w.grownBy w' (Value.ownBlock (.slice A n cap))) : Below w0.heap.size w0 w' := by
  refine hB.grown hg hB.size (fun j hj => ?_)
  rcases h.form with ⟨rfl, _⟩ | ⟨g, rfl, hb, _⟩
  · simp [Value.ownBlock] at hj
  · simp [Value.ownBlock] at hj; omega
/-- Marks from k on. -/
def marks (k : Int) (n : Nat) : List Int := (List.range n).map (fun i : Nat => k + (i : Int))
end Go.Proofs.YtbklgpghonigjaaGreat
namespace Go.Proofs.YtbklgpghonigjaaGreat
open Go Go.ChangeShapes Go.WideShapes Go.ChangeAt Go.RowKit
set_option linter.unusedSimpArgs false
set_option linter.unusedVariables false
def lo5 (p r lo hi : Int) : Int := if 0 < r then lo - p else if r < 0 then p - hi else 0
def hi5 (p r lo hi : Int) : Int := if 0 < r then hi - p else if r < 0 then p - lo else 0
def de5 (r : Int) : Int := if 0 < r then r else if r < 0 then -r else 0
def ok5 (p r lo hi : Int) : Bool := if 0 < r then true else if r < 0 then true else decide (lo ≤ p ∧ p ≤ hi)
theorem lo5_eq {p r lo hi : Int} (h : r ≠ 0) : lo5 p r lo hi = sN p r lo hi := by
  unfold lo5 sN
  by_cases g1 : 0 < r
  · simp only [if_pos g1]
  · have g2 : r < 0 := by omega
    simp only [if_neg g1, if_pos g2]
theorem hi5_eq {p r lo hi : Int} (h : r ≠ 0) : hi5 p r lo hi = eN p r lo hi := by
  unfold hi5 eN
  by_cases g1 : 0 < r
  · simp only [if_pos g1]
  · have g2 : r < 0 := by omega
    simp only [if_neg g1, if_pos g2]
theorem de5_eq {r : Int} (h : r ≠ 0) : de5 r = dN r := by
  unfold de5 dN
  by_cases g1 : 0 < r
  · simp only [if_pos g1]
  · have g2 : r < 0 := by omega
    simp only [if_neg g1, if_pos g2]
theorem ok5_eq {p r lo hi : Int} (h : r ≠ 0) : ok5 p r lo hi = true := by
  unfold ok5
  by_cases g1 : 0 < r
  · simp only [if_pos g1]
  · have g2 : r < 0 := by omega
    simp only [if_neg g1, if_pos g2]
/-- An interval: its start and its end over a denominator. -/
abbrev Tri := Int × Int × Int
def addT (T : List Tri) (p r lo hi : Int) : List Tri := if r = 0 then T else T ++ [(sN p r lo hi, eN p r lo hi, dN r)]
def losT (T : List Tri) : List Int := T.map (·.1)
def hisT (T : List Tri) : List Int := T.map (·.2.1)
def desT (T : List Tri) : List Int := T.map (·.2.2)
def TOk (x : Tri) : Prop := (-100 ≤ x.1 ∧ x.1 ≤ 100) ∧ (-100 ≤ x.2.1 ∧ x.2.1 ≤ 100) ∧ (1 ≤ x.2.2 ∧ x.2.2 ≤ 20)
def AllT (T : List Tri) : Prop := ∀ x ∈ T, ∀ y ∈ T, Le x.1 x.2.2 y.2.1 y.2.2
theorem addT_ok {T : List Tri} {p r lo hi : Int} (hT : ∀ x ∈ T, TOk x) (h0 : -50 ≤ p) (h1 : p ≤ 50) (h2 : -50 ≤ lo) (h3 : lo ≤ 50) (h4 : -50 ≤ hi) (h5 : hi ≤ 50) (h6 : -20 ≤ r) (h7 : r ≤ 20) : ∀ x ∈ addT T p r lo hi, TOk x := by
  unfold addT; split
  · exact hT
  · intro x hx
    rw [List.mem_append] at hx
    rcases hx with hx | hx
    · exact hT x hx
    · simp only [List.mem_singleton] at hx; subst hx
      exact ⟨sN_bd h0 h1 h2 h3 h4 h5, eN_bd h0 h1 h2 h3 h4 h5, by have := dN_pos r; show 1 ≤ dN r; omega, dN_le h6 h7⟩
theorem addT_zero (T : List Tri) (p lo hi : Int) : addT T p 0 lo hi = T := by unfold addT; rw [if_pos rfl]
theorem addT_go {T : List Tri} {p r lo hi : Int} (h : r ≠ 0) : addT T p r lo hi = T ++ [(sN p r lo hi, eN p r lo hi, dN r)] := by unfold addT; rw [if_neg h]
theorem ok5_out {p lo hi : Int} (h : ok5 p 0 lo hi = false) : sN p 0 lo hi = 1 ∧ eN p 0 lo hi = 0 ∧ dN 0 = 1 := by
  unfold ok5 at h
  have h := of_decide_eq_false h
  unfold sN eN
  exact ⟨by rw [if_neg (by omega), if_neg (by omega), if_neg h], by rw [if_neg (by omega), if_neg (by omega), if_neg h], rfl⟩
theorem ok5_in {p lo hi : Int} (h : ok5 p 0 lo hi = true) : sN p 0 lo hi = 0 ∧ eN p 0 lo hi = 30 ∧ dN 0 = 1 := by
  unfold ok5 at h
  have h := of_decide_eq_true h
  unfold sN eN
  exact ⟨by rw [if_neg (by omega), if_neg (by omega), if_pos h], by rw [if_neg (by omega), if_neg (by omega), if_pos h], rfl⟩
theorem prM_f1 {pe pn a b c d h re rn ru : Int} (hk : ok5 pe re a b = false) : ¬ PrM pe pn a b c d h re rn ru := by
  by_cases hr : re = 0
  · subst hr
    obtain ⟨e1, e2, e3⟩ := ok5_out hk
    intro m
    have := m.1.1
    unfold Le at this; rw [e1, e2, e3] at this; omega
  · rw [ok5_eq hr] at hk; cases hk
theorem prM_f2 {pe pn a b c d h re rn ru : Int} (hk : ok5 pn rn c d = false) : ¬ PrM pe pn a b c d h re rn ru := by
  by_cases hr : rn = 0
  · subst hr
    obtain ⟨e1, e2, e3⟩ := ok5_out hk
    intro m
    have := m.2.1.2.1
    unfold Le at this; rw [e1, e2, e3] at this; omega
  · rw [ok5_eq hr] at hk; cases hk
def tri0 (h ru : Int) : List Tri := [(0, h, ru)]
def triAt (pe pn a b c d h re rn ru : Int) (k : Nat) : List Tri := if k = 0 then tri0 h ru else if k = 1 then addT (tri0 h ru) pe re a b else addT (addT (tri0 h ru) pe re a b) pn rn c d
theorem allT_snoc {T : List Tri} {x : Tri} : AllT (T ++ [x]) ↔ AllT T ∧ (∀ y ∈ T, Le x.1 x.2.2 y.2.1 y.2.2) ∧ (∀ y ∈ T, Le y.1 y.2.2 x.2.1 x.2.2) ∧ Le x.1 x.2.2 x.2.1 x.2.2 := by
  unfold AllT
  simp only [List.mem_append, List.mem_singleton]
  constructor
  · intro h
    exact ⟨fun u hu v hv => h u (.inl hu) v (.inl hv), fun y hy => h x (.inr rfl) y (.inl hy), fun y hy => h y (.inl hy) x (.inr rfl), h x (.inr rfl) x (.inr rfl)⟩
  · rintro ⟨h1, h2, h3, h4⟩ u hu v hv
    rcases hu with hu | rfl
    · rcases hv with hv | rfl
      · exact h1 u hu v hv
      · exact h3 u hu
    · rcases hv with hv | rfl
      · exact h2 v hv
      · exact h4
/-- A number that stays between its sides adds nothing. -/
theorem in_adds {s d h ru : Int} (hd : 0 < d) (hu : 1 ≤ ru) (hh : h ≤ 30) (hl : Le s d h ru) : Le s d 30 1 := by
  refine Le.trans hd (show 0 < ru by omega) (by omega) hl ?_
  unfold Le; have := Int.mul_le_mul_of_nonneg_left hu (show (0 : Int) ≤ 30 by omega); omega
theorem at_adds {e d ru : Int} (hd : 0 < d) (hu : 1 ≤ ru) (hl : Le 0 ru e d) : Le 0 1 e d := by
  unfold Le at *
  rw [Int.zero_mul] at *
  have h2 : 0 * ru ≤ e * ru := by rw [Int.zero_mul]; exact hl
  have := Int.le_of_mul_le_mul_right h2 (show 0 < ru by omega)
  rw [Int.mul_one]; exact this
theorem allT_iff {pe pn a b c d h re rn ru : Int} (h1 : 1 ≤ h) (hh : h ≤ 30) (hu : 1 ≤ ru) (k1 : ok5 pe re a b = true) (k2 : ok5 pn rn c d = true) :
    AllT (triAt pe pn a b c d h re rn ru 2) ↔ PrM pe pn a b c d h re rn ru := by
  have e0 : triAt pe pn a b c d h re rn ru 2 = addT (addT (tri0 h ru) pe re a b) pn rn c d := rfl
  have t0 : AllT (tri0 h ru) ↔ Le 0 ru h ru := by unfold AllT tri0; simp
  have z0 : Le 0 ru h ru := by unfold Le; have := Int.mul_nonneg (show 0 ≤ h by omega) (show 0 ≤ ru by omega); omega
  rw [e0]
  unfold PrM Prs
  by_cases hr : re = 0
  · subst hr
    obtain ⟨s1, s2, s3⟩ := ok5_in k1
    rw [addT_zero, s1, s2, s3]
    by_cases hn : rn = 0
    · subst hn
      obtain ⟨n1, n2, n3⟩ := ok5_in k2
      rw [addT_zero, n1, n2, n3, t0]
      have z1 : Le 0 1 h ru := by unfold Le; omega
      have z2 : Le 0 ru 30 1 := by unfold Le; omega
      have z3 : Le 0 1 30 1 := by unfold Le; omega
      exact ⟨fun _ => ⟨⟨z3, z3, z1⟩, ⟨z3, z3, z1⟩, ⟨z2, z2, z0⟩⟩, fun _ => z0⟩
    · have hd := dN_pos rn
      rw [addT_go hn, allT_snoc, t0]
      simp only [tri0, List.mem_singleton, forall_eq]
      have z1 : Le 0 1 h ru := by unfold Le; omega
      have z2 : Le 0 ru 30 1 := by unfold Le; omega
      have z3 : Le 0 1 30 1 := by unfold Le; omega
      exact ⟨fun ⟨_, a1, a2, a3⟩ => ⟨⟨z3, at_adds hd hu a2, z1⟩, ⟨in_adds hd hu hh a1, a3, a1⟩, ⟨z2, a2, z0⟩⟩, fun ⟨_, ⟨_, a3, a1⟩, ⟨_, a2, _⟩⟩ => ⟨z0, a1, a2, a3⟩⟩
  · have hd := dN_pos re
    rw [addT_go hr]
    by_cases hn : rn = 0
    · subst hn
      obtain ⟨n1, n2, n3⟩ := ok5_in k2
      rw [addT_zero, n1, n2, n3, allT_snoc, t0]
      simp only [tri0, List.mem_singleton, forall_eq]
      have z1 : Le 0 1 h ru := by unfold Le; omega
      have z2 : Le 0 ru 30 1 := by unfold Le; omega
      have z3 : Le 0 1 30 1 := by unfold Le; omega
      exact ⟨fun ⟨_, a1, a2, a3⟩ => ⟨⟨a3, in_adds hd hu hh a1, a1⟩, ⟨at_adds hd hu a2, z3, z1⟩, ⟨a2, z2, z0⟩⟩, fun ⟨⟨a3, _, a1⟩, _, ⟨a2, _, _⟩⟩ => ⟨z0, a1, a2, a3⟩⟩
    · rw [addT_go hn, allT_snoc, allT_snoc, t0]
      simp only [tri0, List.mem_append, List.mem_singleton, forall_eq_or_imp, forall_eq]
      exact ⟨fun ⟨⟨_, a1, a2, a3⟩, ⟨b1, b2⟩, ⟨c1, c2⟩, d1⟩ => ⟨⟨a3, c2, a1⟩, ⟨b2, d1, b1⟩, ⟨a2, c1, z0⟩⟩, fun ⟨⟨a3, c2, a1⟩, ⟨b2, d1, b1⟩, ⟨a2, c1, _⟩⟩ => ⟨⟨z0, a1, a2, a3⟩, ⟨b1, b2⟩, ⟨c1, c2⟩, d1⟩⟩
set_option maxHeartbeats 4000000 in
theorem side5_any (p r lo hi : Int) (w : World) (p0 : -100 ≤ p) (p1 : p ≤ 100) (r0 : -100 ≤ r) (r1 : r ≤ 100) (l0 : -100 ≤ lo) (l1 : lo ≤ 100) (h0 : -100 ≤ hi) (h1 : hi ≤ 100) :
    Calls Tryz.prog 144 #[.int .i64 p, .int .i64 r, .int .i64 lo, .int .i64 hi] w fun E w' => E = .returned (.tuple #[.int .i64 (lo5 p r lo hi), .int .i64 (hi5 p r lo hi), .int .i64 (de5 r), .bool (ok5 p r lo hi)]) ∧ w = w' := by
  by_cases g1 : 0 < r
  · have e1 : lo5 p r lo hi = lo - p := by unfold lo5; exact if_pos g1
    have e2 : hi5 p r lo hi = hi - p := by unfold hi5; exact if_pos g1
    have e3 : de5 r = r := by unfold de5; exact if_pos g1
    have e4 : ok5 p r lo hi = true := by unfold ok5; exact if_pos g1
    rw [e1, e2, e3, e4]; clear e1 e2 e3 e4
    go_enter Tryz.func144, Tryz.ntmps144
    go_wp2
    refine bodyPost_ret (v := .tuple #[.int .i64 _, .int .i64 _, .int .i64 _, .bool _]) (by simp [results, Tryz.results144, go_sem]; try exact ⟨rfl, rfl, rfl, rfl⟩) rfl ⟨rfl, rfl⟩
  · by_cases g2 : r < 0
    · have e1 : lo5 p r lo hi = p - hi := by unfold lo5; rw [if_neg g1, if_pos g2]
      have e2 : hi5 p r lo hi = p - lo := by unfold hi5; rw [if_neg g1, if_pos g2]
      have e3 : de5 r = -r := by unfold de5; rw [if_neg g1, if_pos g2]
      have e4 : ok5 p r lo hi = true := by unfold ok5; rw [if_neg g1, if_pos g2]
      rw [e1, e2, e3, e4]; clear e1 e2 e3 e4
      go_enter Tryz.func144, Tryz.ntmps144
      go_wp2
      refine bodyPost_ret (v := .tuple #[.int .i64 _, .int .i64 _, .int .i64 _, .bool _]) (by simp [results, Tryz.results144, go_sem]; try exact ⟨rfl, rfl, rfl, rfl⟩) rfl ⟨rfl, rfl⟩
    · obtain rfl : r = 0 := by omega
      have e1 : lo5 p 0 lo hi = 0 := rfl
      have e2 : hi5 p 0 lo hi = 0 := rfl
      have e3 : de5 0 = 0 := rfl
      by_cases g3 : lo ≤ p
      · by_cases g4 : p ≤ hi
        · have e4 : ok5 p 0 lo hi = true := by unfold ok5; simp; omega
          rw [e1, e2, e3, e4]; clear e1 e2 e3 e4
          go_enter Tryz.func144, Tryz.ntmps144
          go_wp2
          refine bodyPost_ret (v := .tuple #[.int .i64 _, .int .i64 _, .int .i64 _, .bool _]) (by simp [results, Tryz.results144, go_sem]; try exact ⟨rfl, rfl, rfl, rfl⟩) rfl ⟨rfl, rfl⟩
        · have e4 : ok5 p 0 lo hi = false := by unfold ok5; simp; omega
          rw [e1, e2, e3, e4]; clear e1 e2 e3 e4
          go_enter Tryz.func144, Tryz.ntmps144
          go_wp2
          refine bodyPost_ret (v := .tuple #[.int .i64 _, .int .i64 _, .int .i64 _, .bool _]) (by simp [results, Tryz.results144, go_sem]; try exact ⟨rfl, rfl, rfl, rfl⟩) rfl ⟨rfl, rfl⟩
      · have e4 : ok5 p 0 lo hi = false := by unfold ok5; simp; omega
        rw [e1, e2, e3, e4]; clear e1 e2 e3 e4
        go_enter Tryz.func144, Tryz.ntmps144
        go_wp2
        refine bodyPost_ret (v := .tuple #[.int .i64 _, .int .i64 _, .int .i64 _, .bool _]) (by simp [results, Tryz.results144, go_sem]; try exact ⟨rfl, rfl, rfl, rfl⟩) rfl ⟨rfl, rfl⟩
end Go.Proofs.YtbklgpghonigjaaGreat
namespace Go.Proofs.YtbklgpghonigjaaGreat
open Go Go.ChangeShapes Go.WideShapes Go.ChangeAt Go.RowKit
set_option linter.unusedSimpArgs false
set_option linter.unusedVariables false
theorem mulD {a b p q : Int} (h0 : -p ≤ a) (h1 : a ≤ p) (h2 : -q ≤ b) (h3 : b ≤ q) : -(p * q) ≤ a * b ∧ a * b ≤ p * q := by
  have e1 := Int.mul_nonneg (show 0 ≤ p - a by omega) (show 0 ≤ q + b by omega)
  have e2 := Int.mul_nonneg (show 0 ≤ p + a by omega) (show 0 ≤ q - b by omega)
  have e3 := Int.mul_nonneg (show 0 ≤ p - a by omega) (show 0 ≤ q - b by omega)
  have e4 := Int.mul_nonneg (show 0 ≤ p + a by omega) (show 0 ≤ q + b by omega)
  simp only [Int.sub_mul, Int.add_mul, Int.mul_add, Int.mul_sub] at e1 e2 e3 e4
  omega
/-- Three rows of the call's own, in three blocks. -/
def Ap (w : World) (base ga ca : Nat) (xs : List Int) (gb cb : Nat) (ys : List Int) (gc cc : Nat) (zs : List Int) : Prop :=
  OwnI w base (some ⟨ga, 0, none⟩) ca xs ∧ OwnI w base (some ⟨gb, 0, none⟩) cb ys ∧ OwnI w base (some ⟨gc, 0, none⟩) cc zs ∧ ga ≠ gb ∧ ga ≠ gc ∧ gb ≠ gc
theorem Ap.rot {w : World} {base ga ca gb cb gc cc : Nat} {xs ys zs : List Int} (h : Ap w base ga ca xs gb cb ys gc cc zs) : Ap w base gb cb ys gc cc zs ga ca xs :=
  ⟨h.2.1, h.2.2.1, h.1, h.2.2.2.2.2, fun e => h.2.2.2.1 e.symm, fun e => h.2.2.2.2.1 e.symm⟩
theorem Ap.next {w w' : World} {base ga ca gb cb gc cc : Nat} {xs ys zs : List Int} (h : Ap w base ga ca xs gb cb ys gc cc zs) (hw : Below w.heap.size w w') : Ap w' base ga ca xs gb cb ys gc cc zs :=
  ⟨h.1.next hw, h.2.1.next hw, h.2.2.1.next hw, h.2.2.2⟩
theorem own_lt {w : World} {base g c : Nat} {xs : List Int} (h : OwnI w base (some ⟨g, 0, none⟩) c xs) : g < w.heap.size := by
  rcases h.form with ⟨e, _⟩ | ⟨k, e, _, hk⟩
  · cases e
  · cases e; exact hk
theorem own_ge {w : World} {base g c : Nat} {xs : List Int} (h : OwnI w base (some ⟨g, 0, none⟩) c xs) : base ≤ g := by
  rcases h.form with ⟨e, _⟩ | ⟨k, e, hk, _⟩
  · cases e
  · cases e; exact hk
theorem Ap.app {w w' : World} {base ga ca gb cb gc cc g5 cap5 n : Nat} {xs ys zs : List Int} {x : Int} (h : Ap w base ga ca xs gb cb ys gc cc zs) (hn : xs.length = n)
    (hown : w'.ownsRow base 3 1 (.slice (some ⟨g5, 0, none⟩) (n + 1) cap5) (n + 1) (ints xs ++ [.int .i64 x])) (hgr : w.grownBy w' (Value.ownBlock (.slice (some ⟨ga, 0, none⟩) n ca)))
    (hat : Value.ownBlock (.slice (some ⟨ga, 0, none⟩) n ca) = some g5 ∨ g5 = w.heap.size) : Ap w' base g5 cap5 (xs ++ [x]) gb cb ys gc cc zs := by
  subst hn
  obtain ⟨h1, h2, h3, e1, e2, e3⟩ := h
  have l2 := own_lt h2
  have l3 := own_lt h3
  have hd : g5 = ga ∨ g5 = w.heap.size := by
    rcases hat with e | e
    · simp [Value.ownBlock] at e; exact .inl e.symm
    · exact .inr e
  refine ⟨OwnI.snoc hown, h2.grown_far hgr (fun g hg e => ?_), h3.grown_far hgr (fun g hg e => ?_), by omega, by omega, e3⟩
  · simp [Value.ownBlock] at e; cases hg; exact e1 e
  · simp [Value.ownBlock] at e; cases hg; exact e2 e
theorem blk_grownI {w w' : World} {k ga n ca : Nat} {o : Obj} (h : w.heap[k]? = some o) (hgr : w.grownBy w' (Value.ownBlock (.slice (some ⟨ga, 0, none⟩) n ca))) (hne : k ≠ ga) : w'.heap[k]? = some o := by
  rw [hgr.block k (blk_lt h) (fun e => by simp [Value.ownBlock] at e; first | exact hne e.symm | exact hne e)]; exact h
theorem bel_grownI {w0 w w' : World} {ga n ca : Nat} (hB : Below w0.heap.size w0 w) (hgr : w.grownBy w' (Value.ownBlock (.slice (some ⟨ga, 0, none⟩) n ca))) (hg : w0.heap.size ≤ ga) : Below w0.heap.size w0 w' :=
  hB.grown hgr hB.size (fun j hj => by simp [Value.ownBlock] at hj; omega)
/-- What a round of the sides keeps. -/
def Sx (w0 : World) (oP oQ oR : Obj) (ga ca : Nat) (xs : List Int) (gb cb : Nat) (ys : List Int) (gc cc : Nat) (zs : List Int) (w : World) : Prop :=
  w.heap[w0.heap.size]? = some oP ∧ w.heap[w0.heap.size + 1]? = some oQ ∧ w.heap[w0.heap.size + 1 + 1]? = some oR ∧ Below w0.heap.size w0 w ∧ Ap w (w0.heap.size + 3) ga ca xs gb cb ys gc cc zs
theorem Sx.rot {w0 w : World} {oP oQ oR : Obj} {ga ca gb cb gc cc : Nat} {xs ys zs : List Int} (h : Sx w0 oP oQ oR ga ca xs gb cb ys gc cc zs w) : Sx w0 oP oQ oR gb cb ys gc cc zs ga ca xs w := ⟨h.1, h.2.1, h.2.2.1, h.2.2.2.1, h.2.2.2.2.rot⟩
theorem Sx.app {w0 w w' : World} {oP oQ oR : Obj} {ga ca gb cb gc cc g5 cap5 n : Nat} {xs ys zs : List Int} {x : Int} {o : Obj} (h : Sx w0 oP oQ oR ga ca xs gb cb ys gc cc zs w) (hn : xs.length = n)
    (hown : w'.ownsRow (w0.heap.size + 3) 3 1 (.slice (some ⟨g5, 0, none⟩) (n + 1) cap5) (n + 1) (ints xs ++ [.int .i64 x])) (hgr : (w.alloc o).grownBy w' (Value.ownBlock (.slice (some ⟨ga, 0, none⟩) n ca)))
    (hat : Value.ownBlock (.slice (some ⟨ga, 0, none⟩) n ca) = some g5 ∨ g5 = (w.alloc o).heap.size) : Sx w0 oP oQ oR g5 cap5 (xs ++ [x]) gb cb ys gc cc zs w' := by
  obtain ⟨h1, h2, h3, h4, h5⟩ := h
  have hg := own_ge h5.1
  exact ⟨blk_grownI (blk_old h1 o) hgr (by omega), blk_grownI (blk_old h2 o) hgr (by omega), blk_grownI (blk_old h3 o) hgr (by omega), bel_grownI (h4.alloc h4.size o) hgr (by omega), (h5.next (bel1 w o)).app hn hown hgr hat⟩
def St (w0 : World) (oP oQ oR : Obj) (T : List Tri) (ga ca gb cb gc cc : Nat) (w : World) : Prop :=
  w.heap[w0.heap.size]? = some oP ∧ w.heap[w0.heap.size + 1]? = some oQ ∧ w.heap[w0.heap.size + 1 + 1]? = some oR ∧ Below w0.heap.size w0 w ∧ Ap w (w0.heap.size + 3) ga ca (losT T) gb cb (hisT T) gc cc (desT T)
theorem St.next {w0 w w' : World} {oP oQ oR : Obj} {T : List Tri} {ga ca gb cb gc cc : Nat} (h : St w0 oP oQ oR T ga ca gb cb gc cc w) (hw : Below w.heap.size w w') : St w0 oP oQ oR T ga ca gb cb gc cc w' :=
  ⟨blk_next h.1 hw, blk_next h.2.1 hw, blk_next h.2.2.1 hw, bel_next h.2.2.2.1 hw, h.2.2.2.2.next hw⟩
theorem losT_len (T : List Tri) : (losT T).length = T.length := by simp [losT]
theorem hisT_len (T : List Tri) : (hisT T).length = T.length := by simp [hisT]
theorem desT_len (T : List Tri) : (desT T).length = T.length := by simp [desT]
theorem losT_at (T : List Tri) (i : Nat) (h : i < (losT T).length) : (losT T)[i] = (T[i]'(by simpa [losT] using h)).1 := by simp [losT]
theorem hisT_at (T : List Tri) (i : Nat) (h : i < (hisT T).length) : (hisT T)[i] = (T[i]'(by simpa [hisT] using h)).2.1 := by simp [hisT]
theorem desT_at (T : List Tri) (i : Nat) (h : i < (desT T).length) : (desT T)[i] = (T[i]'(by simpa [desT] using h)).2.2 := by simp [desT]
theorem losT_snoc (T : List Tri) (x : Tri) : losT (T ++ [x]) = losT T ++ [x.1] := by simp [losT]
theorem hisT_snoc (T : List Tri) (x : Tri) : hisT (T ++ [x]) = hisT T ++ [x.2.1] := by simp [hisT]
theorem desT_snoc (T : List Tri) (x : Tri) : desT (T ++ [x]) = desT T ++ [x.2.2] := by simp [desT]
theorem St.cells {w0 w : World} {oP oQ oR : Obj} {T : List Tri} {ga ca gb cb gc cc : Nat} (h : St w0 oP oQ oR T ga ca gb cb gc cc w) (i : Nat) (hi : i < T.length) :
    w.cell? ⟨ga, i, none⟩ = some (.int .i64 T[i].1) ∧ w.cell? ⟨gb, i, none⟩ = some (.int .i64 T[i].2.1) ∧ w.cell? ⟨gc, i, none⟩ = some (.int .i64 T[i].2.2) := by
  obtain ⟨h1, h2, h3, _⟩ := h.2.2.2.2
  refine ⟨?_, ?_, ?_⟩
  · have := h1.cell i (by rw [losT_len]; exact hi); rwa [losT_at] at this
  · have := h2.cell i (by rw [hisT_len]; exact hi); rwa [hisT_at] at this
  · have := h3.cell i (by rw [desT_len]; exact hi); rwa [desT_at] at this
theorem own_lit {w : World} {g base : Nat} {x : Int} (h : w.heap[g]? = some (.cells #[.int .i64 x] 3 (0, 0))) (hb : base ≤ g) : OwnI w base (some ⟨g, 0, none⟩) 1 [x] :=
  ⟨by simp [ints], .inr ⟨g, 1, #[.int .i64 x], rfl, hb, h, by simp, by simp [maxLen], by simp, by simp [ints]⟩⟩
end Go.Proofs.YtbklgpghonigjaaGreat
