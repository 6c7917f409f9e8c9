/- Cities: plain mathematics of chapter 6. -/
namespace Go.Proofs.Ytidppabconifkaa
set_option linter.unusedVariables false
set_option linter.unusedSimpArgs false

def tlB (t : Int) : Bool := decide (0 ≤ t ∧ t ≤ 20)
theorem tlB_iff {t : Int} : tlB t = true ↔ 0 ≤ t ∧ t ≤ 20 := by unfold tlB; simp
def cvB (w : Int) (xs : List Int) : Bool := decide (1 ≤ w ∧ w ≤ 6) && (decide ((xs.length : Int) = w * w) && xs.all tlB)
theorem cvB_iff {w : Int} {xs : List Int} : cvB w xs = true ↔ (1 ≤ w ∧ w ≤ 6) ∧ (xs.length : Int) = w * w ∧ ∀ t ∈ xs, 0 ≤ t ∧ t ≤ 20 := by
  unfold cvB; simp [tlB]
def drB (d : Int) : Bool := decide (0 ≤ d ∧ d ≤ 3)
def flB (f : Int) : Bool := decide (0 ≤ f ∧ f ≤ 5)
def ceB (xs : List Int) (c : Int) : Bool := decide (0 ≤ c ∧ c ≤ (xs.length : Int) - 1)
/-- The cell beside a cell, -1 behind the edge. -/
def nxI (w c d : Int) : Int :=
  if d = 0 then (if c % w < w - 1 then c + 1 else -1)
  else if d = 1 then (if c / w < w - 1 then c + w else -1)
  else if d = 2 then (if c % w > 0 then c - 1 else -1)
  else (if c / w > 0 then c - w else -1)
def stI (w d : Int) : Int := if d = 0 then 1 else if d = 1 then w else if d = 2 then -1 else -w
def opI (d : Int) : Int := if d = 0 then 2 else if d = 1 then 3 else if d = 2 then 0 else 1
/-- How many cells lie in a direction. -/
def faN (w c d : Int) : Nat := if d = 0 then (w - 1 - c % w).toNat else if d = 1 then (w - 1 - c / w).toNat else if d = 2 then (c % w).toNat else (c / w).toNat
theorem six {P : Int → Prop} {w : Int} (h0 : 1 ≤ w) (h1 : w ≤ 6) (p1 : P 1) (p2 : P 2) (p3 : P 3) (p4 : P 4) (p5 : P 5) (p6 : P 6) : P w := by
  have : w = 1 ∨ w = 2 ∨ w = 3 ∨ w = 4 ∨ w = 5 ∨ w = 6 := by omega
  rcases this with rfl | rfl | rfl | rfl | rfl | rfl <;> assumption
theorem four {P : Int → Prop} {d : Int} (h0 : 0 ≤ d) (h1 : d ≤ 3) (p0 : P 0) (p1 : P 1) (p2 : P 2) (p3 : P 3) : P d := by
  have : d = 0 ∨ d = 1 ∨ d = 2 ∨ d = 3 := by omega
  rcases this with rfl | rfl | rfl | rfl <;> assumption
/-- The numbers of a valid side and of a cell in it. -/
def InC (w c : Int) : Prop := 1 ≤ w ∧ w ≤ 6 ∧ 0 ≤ c ∧ c < w * w
theorem InC.all {P : Int → Int → Prop} {w c : Int} (h : InC w c) (p : ∀ c : Int, 0 ≤ c → c < 1 → P 1 c) (p2 : ∀ c : Int, 0 ≤ c → c < 4 → P 2 c) (p3 : ∀ c : Int, 0 ≤ c → c < 9 → P 3 c) (p4 : ∀ c : Int, 0 ≤ c → c < 16 → P 4 c) (p5 : ∀ c : Int, 0 ≤ c → c < 25 → P 5 c) (p6 : ∀ c : Int, 0 ≤ c → c < 36 → P 6 c) : P w c := by
  obtain ⟨h0, h1, h2, h3⟩ := h
  have : w = 1 ∨ w = 2 ∨ w = 3 ∨ w = 4 ∨ w = 5 ∨ w = 6 := by omega
  rcases this with rfl | rfl | rfl | rfl | rfl | rfl
  · exact p c h2 (by omega)
  · exact p2 c h2 (by omega)
  · exact p3 c h2 (by omega)
  · exact p4 c h2 (by omega)
  · exact p5 c h2 (by omega)
  · exact p6 c h2 (by omega)
theorem nx_far {w c d : Int} (h : InC w c) (h0 : 0 ≤ d) (h1 : d ≤ 3) : nxI w c d = (if faN w c d = 0 then -1 else c + stI w d) ∧ faN w c d ≤ 5 := by
  revert h0 h1
  refine h.all (P := fun w c => 0 ≤ d → d ≤ 3 → nxI w c d = (if faN w c d = 0 then -1 else c + stI w d) ∧ faN w c d ≤ 5) ?_ ?_ ?_ ?_ ?_ ?_
  all_goals
    intro c a b h0 h1
    refine four h0 h1 (P := fun d => nxI _ c d = (if faN _ c d = 0 then -1 else c + stI _ d) ∧ faN _ c d ≤ 5) ?_ ?_ ?_ ?_ <;> (simp only [nxI, faN, stI, Int.reduceEq, if_true, if_false]; refine ⟨?_, by omega⟩; split <;> split <;> omega)
theorem st_in {w c d : Int} (h : InC w c) (h0 : 0 ≤ d) (h1 : d ≤ 3) (hf : 0 < faN w c d) : InC w (c + stI w d) ∧ faN w (c + stI w d) d + 1 = faN w c d ∧ faN w (c + stI w d) (opI d) = faN w c (opI d) + 1 := by
  revert h0 h1 hf
  refine h.all (P := fun w c => 0 ≤ d → d ≤ 3 → 0 < faN w c d → InC w (c + stI w d) ∧ faN w (c + stI w d) d + 1 = faN w c d ∧ faN w (c + stI w d) (opI d) = faN w c (opI d) + 1) ?_ ?_ ?_ ?_ ?_ ?_
  all_goals
    intro c a b h0 h1
    refine four h0 h1 (P := fun d => 0 < faN _ c d → InC _ (c + stI _ d) ∧ faN _ (c + stI _ d) d + 1 = faN _ c d ∧ faN _ (c + stI _ d) (opI d) = faN _ c (opI d) + 1) ?_ ?_ ?_ ?_ <;> (simp only [faN, stI, opI, InC, Int.reduceEq, if_true, if_false]; intro hf; refine ⟨⟨by omega, by omega, by omega, by omega⟩, by omega, by omega⟩)
theorem opI_in {d : Int} (h0 : 0 ≤ d) (h1 : d ≤ 3) : 0 ≤ opI d ∧ opI d ≤ 3 ∧ opI (opI d) = d := by
  refine four h0 h1 (P := fun d => 0 ≤ opI d ∧ opI d ≤ 3 ∧ opI (opI d) = d) ?_ ?_ ?_ ?_ <;> decide
theorem st_op {w d : Int} (h0 : 0 ≤ d) (h1 : d ≤ 3) : stI w (opI d) = - stI w d := by
  refine four h0 h1 (P := fun d => stI w (opI d) = - stI w d) ?_ ?_ ?_ ?_ <;> simp [stI, opI]
theorem opI_mod {d : Int} (h0 : 0 ≤ d) (h1 : d ≤ 3) : opI d = (d + 2) % 4 := by
  refine four h0 h1 (P := fun d => opI d = (d + 2) % 4) ?_ ?_ ?_ ?_ <;> decide
/-- The height of a cell. -/
def tlI (xs : List Int) (c : Int) : Int := xs.getD c.toNat 0
theorem tlI_at {xs : List Int} {k : Nat} (h : k < xs.length) : tlI xs (k : Int) = xs[k] := by unfold tlI; simp [h]
theorem tlI_rng {w : Int} {xs : List Int} (h : cvB w xs = true) (c : Int) : 0 ≤ tlI xs c ∧ tlI xs c ≤ 20 := by
  have h2 := (cvB_iff.1 h).2.2
  unfold tlI
  by_cases hk : c.toNat < xs.length
  · have e : xs.getD c.toNat 0 = xs[c.toNat] := by simp [hk]
    rw [e]; exact h2 _ (List.getElem_mem hk)
  · have e : xs.getD c.toNat 0 = 0 := by simp [Nat.le_of_not_lt hk]
    rw [e]; omega
theorem cv_in {w : Int} {xs : List Int} (h : cvB w xs = true) {c : Int} (h0 : 0 ≤ c) (h1 : c < xs.length) : InC w c := by
  obtain ⟨⟨a, b⟩, e, _⟩ := cvB_iff.1 h; exact ⟨a, b, h0, by omega⟩
theorem cv_len {w : Int} {xs : List Int} (h : cvB w xs = true) : 1 ≤ xs.length ∧ xs.length ≤ 36 := by
  obtain ⟨⟨a, b⟩, e, _⟩ := cvB_iff.1 h
  have : w = 1 ∨ w = 2 ∨ w = 3 ∨ w = 4 ∨ w = 5 ∨ w = 6 := by omega
  rcases this with rfl | rfl | rfl | rfl | rfl | rfl <;> omega
-- the light
def shd (xs : List Int) (s f : Int) : Nat → Int → Int
  | 0, _ => 0
  | n + 1, c => max (max (shd xs s f n (c + s)) (tlI xs (c + s)) - f) 0
/-- How high a thing on a cell has to be to be in the light. -/
def shI (w : Int) (xs : List Int) (d f c : Int) : Int := shd xs (stI w d) f (faN w c d) c
theorem shd_rng {w : Int} {xs : List Int} (h : cvB w xs = true) {s f : Int} (hf : 0 ≤ f) : ∀ (n : Nat) (c : Int), 0 ≤ shd xs s f n c ∧ shd xs s f n c ≤ 20
  | 0, c => by simp [shd]
  | n + 1, c => by
    have := shd_rng h (s := s) hf n (c + s)
    have := tlI_rng h (c + s)
    rw [shd]; omega
/-- The greatest of g 1 .. g n, and 0. -/
def mxI (g : Nat → Int) : Nat → Int
  | 0 => 0
  | n + 1 => max (mxI g n) (g (n + 1))
theorem mxI_nonneg (g : Nat → Int) : ∀ n, 0 ≤ mxI g n
  | 0 => by simp [mxI]
  | n + 1 => by have := mxI_nonneg g n; rw [mxI]; omega
theorem mxI_ext {g g' : Nat → Int} : ∀ {n : Nat}, (∀ i, 1 ≤ i → i ≤ n → g i = g' i) → mxI g n = mxI g' n
  | 0, _ => rfl
  | n + 1, h => by rw [mxI, mxI, mxI_ext (fun i a b => h i a (by omega)), h (n + 1) (by omega) (by omega)]
theorem mxI_shift {g g' : Nat → Int} {f : Int} (hf : 0 ≤ f) : ∀ {n : Nat}, (∀ i, 1 ≤ i → i ≤ n → g' i = g (i + 1) + f) → max (max (mxI g' n) (g 1 + f) - f) 0 = mxI g (n + 1)
  | 0, _ => by show max (max 0 (g 1 + f) - f) 0 = max 0 (g 1); omega
  | n + 1, h => by
    have i := mxI_shift hf (n := n) (fun i a b => h i a (by omega))
    have e := h (n + 1) (by omega) (by omega)
    rw [mxI, mxI, ← i, e]; omega
theorem mxI_lt {g : Nat → Int} {t : Int} (ht : 0 ≤ t) : ∀ {n : Nat}, t < mxI g n ↔ ∃ i, 1 ≤ i ∧ i ≤ n ∧ t < g i
  | 0 => by simp only [mxI]; constructor <;> intro h; omega; obtain ⟨i, a, b, _⟩ := h; omega
  | n + 1 => by
    have i := mxI_lt ht (n := n) (g := g)
    rw [mxI]
    constructor
    · intro h
      by_cases c : t < mxI g n
      · obtain ⟨j, a, b, e⟩ := i.1 c; exact ⟨j, a, by omega, e⟩
      · exact ⟨n + 1, by omega, by omega, by omega⟩
    · rintro ⟨j, a, b, e⟩
      by_cases c : j ≤ n
      · have := i.2 ⟨j, a, c, e⟩; omega
      · obtain rfl : j = n + 1 := by omega
        omega
/-- The i-th cell away, less the fall. -/
def rgI (xs : List Int) (s f c : Int) (i : Nat) : Int := tlI xs (c + s * i) - f * i
theorem shd_mx (xs : List Int) {s f : Int} (hf : 0 ≤ f) : ∀ (n : Nat) (c : Int), shd xs s f n c = mxI (rgI xs s f c) n
  | 0, c => rfl
  | n + 1, c => by
    have h := mxI_shift hf (n := n) (g := rgI xs s f c) (g' := rgI xs s f (c + s)) (fun i _ _ => by
      unfold rgI
      have e1 : c + s + s * (i : Int) = c + s * ((i + 1 : Nat) : Int) := by rw [Int.natCast_add, Int.mul_add]; simp; omega
      have e2 : f * ((i + 1 : Nat) : Int) = f * (i : Int) + f := by rw [Int.natCast_add, Int.mul_add]; simp
      rw [e1, e2]; omega)
    have e : rgI xs s f c 1 + f = tlI xs (c + s) := by unfold rgI; simp
    rw [shd, shd_mx xs hf n (c + s), ← e, h]
def dkB (w : Int) (xs : List Int) (d f c : Int) : Bool := decide (tlI xs c < shI w xs d f c)
theorem dkB_iff {w : Int} {xs : List Int} (h : cvB w xs = true) {d f c : Int} (hf : 0 ≤ f) : dkB w xs d f c = true ↔ ∃ i : Nat, 1 ≤ i ∧ i ≤ faN w c d ∧ tlI xs c < rgI xs (stI w d) f c i := by
  unfold dkB shI; rw [decide_eq_true_eq, shd_mx xs hf]; exact mxI_lt (tlI_rng h c).1
/-- Whether city, direction and fall are valid. -/
def okB (w : Int) (xs : List Int) (d f : Int) : Bool := cvB w xs && (drB d && flB f)
theorem okB_iff {w : Int} {xs : List Int} {d f : Int} : okB w xs d f = true ↔ cvB w xs = true ∧ (0 ≤ d ∧ d ≤ 3) ∧ 0 ≤ f ∧ f ≤ 5 := by unfold okB drB flB; simp [and_assoc]
def daB (w : Int) (xs : List Int) (c d f : Int) : Bool := okB w xs d f && (ceB xs c && dkB w xs d f c)
/-- The list of f 0 .. f (n-1). -/
def mkI (g : Nat → Int) (n : Nat) : List Int := (List.range n).map g
def shL (w : Int) (xs : List Int) (d f : Int) : List Int := if okB w xs d f = true then mkI (fun k => shI w xs d f k) xs.length else []
/-- The first k cells that are lit. -/
def ltL (w : Int) (xs : List Int) (d f : Int) (k : Nat) : List Int := ((List.range k).filter fun i => !dkB w xs d f (i : Nat)).map fun i : Nat => (i : Int)
theorem ltL_yes {w : Int} {xs : List Int} {d f : Int} {k : Nat} (h : dkB w xs d f (k : Nat) = false) : ltL w xs d f (k + 1) = ltL w xs d f k ++ [(k : Int)] := by
  unfold ltL; rw [List.range_succ, List.filter_append]; simp [h]
theorem ltL_no {w : Int} {xs : List Int} {d f : Int} {k : Nat} (h : dkB w xs d f (k : Nat) = true) : ltL w xs d f (k + 1) = ltL w xs d f k := by
  unfold ltL; rw [List.range_succ, List.filter_append]; simp [h]
theorem ltL_len (w : Int) (xs : List Int) (d f : Int) (k : Nat) : (ltL w xs d f k).length ≤ k := by
  unfold ltL; simp only [List.length_map]
  have := List.length_filter_le (fun i : Nat => !dkB w xs d f (i : Nat)) (List.range k)
  simpa using this
def liL (w : Int) (xs : List Int) (d f : Int) : List Int := if okB w xs d f = true then ltL w xs d f xs.length else []
theorem ltL_mem {w : Int} {xs : List Int} {d f : Int} {k : Nat} {c : Int} : c ∈ ltL w xs d f k ↔ 0 ≤ c ∧ c < k ∧ dkB w xs d f c = false := by
  unfold ltL; simp only [List.mem_map, List.mem_filter, List.mem_range, Bool.not_eq_true']
  constructor
  · rintro ⟨i, ⟨a, b⟩, rfl⟩; exact ⟨by omega, by omega, b⟩
  · rintro ⟨a, b, e⟩; exact ⟨c.toNat, ⟨by omega, by rw [Int.toNat_of_nonneg a]; exact e⟩, Int.toNat_of_nonneg a⟩
end Go.Proofs.Ytidppabconifkaa
