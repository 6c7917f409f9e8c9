/- Rows of rows of numbers, made by the call. -/
import Derived.Test.YtoklehmoeollfaaOb
import Derived.Test.YtoklehmoeollfaaGNum
namespace Go.Proofs.Ytoklehmoeollfaa
open Go Go.ChangeShapes Go.WideShapes Go.ChangeAt Go.RowKit
set_option linter.unusedSimpArgs false
set_option linter.unusedVariables false

def encHd (n : Nat) : Enc Nat := ⟨1, fun g => [.slice (some ⟨g, 0, none⟩) n n], fun _ => rfl, by intro x u hu; simp at hu; subst hu; rfl, by omega⟩
theorem infoHd : (Try.prog.info? 29).map (fun i => (i.zero, i.size, i.bytes)) = some (some (.slice none 0 0), 1, 24) := by kernel_rfl
/-- A row of rows, all n long, that the call has made. -/
structure NT (w : World) (base : Nat) (A : Option Addr) (cap n : Nat) (hs : List Nat) (R : Nat → Nat → Int) : Prop where
  hd : SOwn (encHd n) w base 29 A cap hs
  rows : ∀ i (h : i < hs.length), SBlk encNum w hs[i] 3 (markS (R i) n)
  inj : ∀ i j (hi : i < hs.length) (hj : j < hs.length), hs[i] = hs[j] → i = j
  low : ∀ i (h : i < hs.length), base ≤ hs[i]
section
variable {w w' : World} {base cap n : Nat} {A : Option Addr} {hs : List Nat} {R : Nat → Nat → Int}
theorem NT.next (h : NT w base A cap n hs R) (hw : Below w.heap.size w w') : NT w' base A cap n hs R := ⟨h.hd.next hw, fun i hi => (h.rows i hi).next hw, h.inj, h.low⟩
theorem NT.drew (h : NT w base A cap n hs R) : NT w.drew base A cap n hs R := ⟨h.hd.drew, fun i hi => h.rows i hi, h.inj, h.low⟩
theorem NT.nil {g : Nat} (h : w.heap[g]? = some (.cells #[] 29 (0, 0))) (hb : base ≤ g) : NT w base (some ⟨g, 0, none⟩) 0 n [] R :=
  ⟨SOwn.empty h hb, fun i hi => absurd hi (Nat.not_lt_zero _), fun i j hi => absurd hi (Nat.not_lt_zero _), fun i hi => absurd hi (Nat.not_lt_zero _)⟩
theorem NT.lt (h : NT w base A cap n hs R) {i : Nat} (hi : i < hs.length) : hs[i] < w.heap.size := (h.rows i hi).lt
/-- One row more: made, put into a literal, appended. -/
theorem NT.snoc {g g5 cap5 : Nat} {w5 : World} {L : List Int} (h : NT w base A cap n hs R) (hg : SBlk encNum w g 3 L) (hL : L = markS (R hs.length) n) (hn : ∀ i (h : i < hs.length), hs[i] < g) (hb : base ≤ g)
    (ho : SOwn (encHd n) w5 base 29 (some ⟨g5, 0, none⟩) cap5 (hs ++ [g])) (hgr : w.grownBy w5 (Value.ownBlock (.slice A hs.length cap))) : NT w5 base (some ⟨g5, 0, none⟩) cap5 n (hs ++ [g]) R := by
  refine ⟨ho, fun i hi => ?_, fun i j hi hj e => ?_, fun i hi => ?_⟩
  · by_cases c : i < hs.length
    · rw [List.getElem_append_left c]
      exact blk_grownT (h.rows i c) h.hd hgr (by decide)
    · have hi' : i = hs.length := by simp at hi; omega
      subst hi'
      rw [List.getElem_append_right (Nat.le_refl _)]
      simp only [Nat.sub_self, List.getElem_cons_zero]
      rw [← hL]
      exact blk_grownT hg h.hd hgr (by decide)
  · simp only [List.length_append, List.length_cons, List.length_nil] at hi hj
    by_cases c : i < hs.length <;> by_cases d : j < hs.length
    · rw [List.getElem_append_left c, List.getElem_append_left d] at e
      exact h.inj i j c d e
    · rw [List.getElem_append_left c, List.getElem_append_right (by omega)] at e
      simp only [show j - hs.length = 0 by omega, List.getElem_cons_zero] at e
      have := hn i c; omega
    · rw [List.getElem_append_right (by omega), List.getElem_append_left d] at e
      simp only [show i - hs.length = 0 by omega, List.getElem_cons_zero] at e
      have := hn j d; omega
    · omega
  · by_cases c : i < hs.length
    · rw [List.getElem_append_left c]; exact h.low i c
    · have hi' : i = hs.length := by simp at hi; omega
      subst hi'
      rw [List.getElem_append_right (Nat.le_refl _)]
      simpa using hb
def updR (R : Nat → Nat → Int) (i q : Nat) (v : Int) : Nat → Nat → Int := fun a b => if a = i ∧ b = q then v else R a b
theorem mark_set (f : Nat → Int) {n q : Nat} (hq : q < n) (v : Int) : (markS f n).set q v = markS (fun b => if b = q then v else f b) n := by
  refine List.ext_getElem (by simp [markS]) (fun i h1 h2 => ?_)
  simp only [markS, List.getElem_set, List.getElem_map, List.getElem_range]
  by_cases c : q = i
  · rw [if_pos c, if_pos c.symm]
  · rw [if_neg c, if_neg (fun d => c d.symm)]
theorem mark_congr {f g : Nat → Int} {n : Nat} (h : ∀ q, q < n → f q = g q) : markS f n = markS g n := by
  unfold markS
  exact List.map_congr_left (fun q hq => h q (List.mem_range.1 hq))
/-- A store into a place of one of the rows. -/
theorem NT.set (h : NT w base A cap n hs R) {i q : Nat} (hi : i < hs.length) (hq : q < n) (v : Int) : NT (w.setCell ⟨hs[i], q, none⟩ (.int .i64 v)) base A cap n hs (updR R i q v) := by
  refine ⟨h.hd.grown_far (row := some hs[i]) (setAll_grown [.int .i64 v] q ⟨rfl, rfl, rfl, Nat.le_refl _, fun _ _ _ => rfl⟩) (fun g e e2 => ?_), fun j hj => ?_, h.inj, h.low⟩
  · have := SOwn.ne_typeO (n := 0) h.hd (h.rows i hi) (by decide)
    rw [e] at this
    simp [Value.ownBlock] at this
    simp at e2
    exact this e2.symm
  · by_cases c : j = i
    · subst c
      have := setNumB (h.rows j hj) q (by rw [markS_len]; exact hq) v
      rw [mark_set _ hq] at this
      rw [mark_congr (g := fun b => if b = q then v else R j b) (fun b _ => by unfold updR; simp)]
      exact this
    · rw [mark_congr (g := R j) (fun b _ => by unfold updR; simp [c])]
      exact blk_far (h.rows j hj) (fun e => c (h.inj j i hj hi e)) _
theorem NT.setBel {w0 : World} (h : NT w w0.heap.size A cap n hs R) (hB : Below w0.heap.size w0 w) {i : Nat} (q : Nat) (hi : i < hs.length) (v : Value) : Below w0.heap.size w0 (w.setCell ⟨hs[i], q, none⟩ v) := hB.setCell (p := ⟨hs[i], q, none⟩) (h.low i hi) v
theorem NT.num (h : NT w base A cap n hs R) {i q : Nat} (hi : i < hs.length) (hq : q < n) : w.cell? ⟨hs[i], q, none⟩ = some (.int .i64 (R i q)) := by
  have := blkNum (h.rows i hi) (i := q) (by rw [markS_len]; exact hq)
  rw [markS_at] at this; exact this
theorem NT.frz (h : NT w base A cap n hs R) {i : Nat} (hi : i < hs.length) (q : Nat) : w.frozen? ⟨hs[i], q, none⟩ = false := (h.rows i hi).frozen q
theorem NT.grownN {w5 : World} {b2 cv m : Nat} {V : Option Addr} {us : List Int} (h : NT w base A cap n hs R) (hO : SOwn encNum w b2 3 V cv us) (hgr : w.grownBy w5 (Value.ownBlock (.slice V m cv))) (hd : ∀ g, V = some ⟨g, 0, none⟩ → ∀ i (hi : i < hs.length), hs[i] ≠ g) : NT w5 base A cap n hs R := by
  rcases hO.form with ⟨rfl, _⟩ | ⟨g, rfl, _⟩
  · exact ⟨h.hd.grown_far hgr (fun g _ => by simp [Value.ownBlock]), fun i hi => (h.rows i hi).grown hgr (by simp [Value.ownBlock]), h.inj, h.low⟩
  · refine ⟨h.hd.grown_far hgr (fun g' e => ?_), fun i hi => (h.rows i hi).grown hgr ?_, h.inj, h.low⟩
    · rcases hO.2 with ⟨e2, _⟩ | ⟨g2, cap2, cur, e2, hb2, hg2, _⟩
      · simp at e2
      · simp only [Value.slice.injEq, Option.some.injEq, Addr.mk.injEq] at e2
        obtain ⟨⟨rfl, _⟩, _⟩ := e2
        have := SOwn.ne_typeO (n := 0) h.hd hg2 (by decide)
        rw [e] at this
        simp [Value.ownBlock] at this
        simp [Value.ownBlock]
        exact fun c => this c.symm
    · have := hd g rfl i hi
      simp [Value.ownBlock]
      exact fun c => this c.symm
theorem disj_next {b2 cv m g5 H : Nat} {V : Option Addr} {us : List Int} (hO : SOwn encNum w b2 3 V cv us) (hd : ∀ g, V = some ⟨g, 0, none⟩ → ∀ i (h : i < hs.length), hs[i] ≠ g) (hat : Value.ownBlock (.slice V m cv) = some g5 ∨ g5 = H) (hH : ∀ i (h : i < hs.length), hs[i] < H) : ∀ g, (some ⟨g5, 0, none⟩ : Option Addr) = some ⟨g, 0, none⟩ → ∀ i (h : i < hs.length), hs[i] ≠ g := by
  intro g e i hi c
  simp only [Option.some.injEq, Addr.mk.injEq, and_true] at e
  subst e
  rcases hat with e | e
  · rcases hO.form with ⟨rfl, _⟩ | ⟨g2, rfl, _⟩
    · simp [Value.ownBlock] at e
    · simp [Value.ownBlock] at e
      exact hd g2 rfl i hi (by rw [c, e])
  · have := hH i hi; omega
theorem NT.head {b : Nat} (h : NT w base (some ⟨b, 0, none⟩) cap n hs R) {i : Nat} (hi : i < hs.length) : w.cell? ⟨b, i, none⟩ = some (.slice (some ⟨hs[i], 0, none⟩) n n) := by
  have := h.hd.cell i hi 0 _ rfl; simpa [encHd] using this
end
end Go.Proofs.Ytoklehmoeollfaa
