/- Lines of plants: how many there are, the first one (plain mathematics). -/
import Derived.Test.YtoklehmoeollfaaNa
namespace Go.Proofs.Ytoklehmoeollfaa
set_option linter.unusedVariables false
set_option linter.unusedSimpArgs false

def adB (fs : List Int) (a b : Nat) : Bool := isB (fs.getD a 0) b
/-- How many lines of a set begin with a plant. -/
def LT (fs : List Int) (S : Int) (p : Nat) : Int := lTf (adB fs) 6 S p
/-- How many lines of a set begin with one of some friends. -/
def lB (fs : List Int) (S F : Int) : Int := if S = 0 then 1 else sm (fun q => if isB F q = true then LT fs S q else 0)
def lmI (fs : List Int) : Int := if frB fs = true then lB fs (alI fs.length) (alI fs.length) else -1
section
variable {fs : List Int}
theorem LT_nn (S : Int) (p : Nat) : 0 ≤ LT fs S p := lTf_nn 6 S p
theorem LT_le (S : Int) (p : Nat) : LT fs S p ≤ 46656 := lTf_le 6 S p
theorem lB_le (S F : Int) : lB fs S F ≤ 279936 := by
  unfold lB; split
  · omega
  · exact sm_le (c := 46656) (fun q _ => by split
                                            · exact LT_le _ _
                                            · omega)
theorem LT_eq {S : Int} {p : Nat} (h0 : 0 ≤ S) (h1 : S < 64) (hp : p < 6) : LT fs S p = if isB S p = true then lB fs (woI S p) (fs.getD p 0) else 0 := by
  unfold LT
  rw [lTf_eq 6 7 S p h0 h1 hp (pc_six S) (by have := pc_six S; omega), lTf]
  rfl
theorem LT_yes {S : Int} {p : Nat} (h0 : 0 ≤ S) (h1 : S < 64) (hp : p < 6) (h : isB S p = true) : LT fs S p = lB fs (woI S p) (fs.getD p 0) := by rw [LT_eq h0 h1 hp, if_pos h]
theorem LT_no {S : Int} {p : Nat} (h0 : 0 ≤ S) (h1 : S < 64) (hp : p < 6) (h : isB S p = false) : LT fs S p = 0 := by rw [LT_eq h0 h1 hp, if_neg (by rw [h]; decide)]
theorem lB_nn (S F : Int) : 0 ≤ lB fs S F := by
  unfold lB; split
  · omega
  · exact sm_nn (fun q _ => by split
                               · exact LT_nn _ _
                               · omega)
theorem lB_zero (F : Int) : lB fs 0 F = 1 := if_pos rfl
theorem lB_some {S : Int} (F : Int) (h : S ≠ 0) : lB fs S F = sm (fun q => if isB F q = true then LT fs S q else 0) := if_neg h
theorem lB_ge {S F : Int} {q : Nat} (h : S ≠ 0) (hq : q < 6) (hF : isB F q = true) : LT fs S q ≤ lB fs S F := by
  rw [lB_some F h]
  have nn : ∀ q, q < 6 → 0 ≤ (fun q => if isB F q = true then LT fs S q else 0) q := fun q _ => by
    show 0 ≤ (if isB F q = true then LT fs S q else 0)
    split
    · exact LT_nn _ _
    · omega
  have := sm_ge nn hq
  simpa [hF] using this
/-- Sums of the first ones. -/
def smK (h : Nat → Int) : Nat → Int
  | 0 => 0
  | k + 1 => smK h k + h k
theorem smK_six (h : Nat → Int) : smK h 6 = sm h := by simp only [smK, sm]; omega
theorem smK_le {h : Nat → Int} {n : Nat} : ∀ m : Nat, (∀ q, n ≤ q → q < n + m → h q = 0) → smK h (n + m) = smK h n
  | 0, _ => rfl
  | m + 1, H => by
    rw [show n + (m + 1) = (n + m) + 1 from rfl, smK, smK_le m (fun q a b => H q a (by omega)), H (n + m) (by omega) (by omega)]; omega
theorem smK_n {h : Nat → Int} {n : Nat} (hn : n ≤ 6) (H : ∀ q, n ≤ q → q < 6 → h q = 0) : smK h n = sm h := by
  rw [← smK_six, ← smK_le (h := h) (n := n) (6 - n) (fun q a b => H q a (by omega)), show n + (6 - n) = 6 by omega]
theorem smK_congr {f g : Nat → Int} : ∀ {k : Nat}, (∀ q, q < k → f q = g q) → smK f k = smK g k
  | 0, _ => rfl
  | k + 1, H => by rw [smK, smK, smK_congr (fun q a => H q (by omega)), H k (by omega)]
/-! The rest of all behind a set. -/
theorem al_all : ∀ n : Fin 7, ∀ s : Fin 64, ∀ q : Fin 6, ((s : Nat) : Int) ≤ alI n → isB (alI n - (s : Nat)) q = (decide ((q : Nat) < n) && !isB (s : Nat) q) ∧ (isB (s : Nat) q = false → (q : Nat) < n → ((s : Nat) : Int) + 2 ^ (q : Nat) ≤ alI n ∧ woI (alI n - (s : Nat)) q = alI n - (((s : Nat) : Int) + 2 ^ (q : Nat))) := by decide +kernel
theorem al_isB {n q : Nat} {x : Int} (hn : n ≤ 6) (h0 : 0 ≤ x) (h1 : x ≤ alI n) (hq : q < 6) : isB (alI n - x) q = (decide (q < n) && !isB x q) := by
  have := alI_bd hn
  obtain ⟨s, rfl⟩ : ∃ s : Nat, x = s := ⟨x.toNat, by omega⟩
  exact (al_all ⟨n, by omega⟩ ⟨s, by omega⟩ ⟨q, hq⟩ h1).1
theorem al_more {n q : Nat} {x : Int} (hn : n ≤ 6) (h0 : 0 ≤ x) (h1 : x ≤ alI n) (hq : q < n) (hb : isB x q = false) : x + 2 ^ q ≤ alI n ∧ woI (alI n - x) q = alI n - (x + 2 ^ q) := by
  have := alI_bd hn
  obtain ⟨s, rfl⟩ : ∃ s : Nat, x = s := ⟨x.toNat, by omega⟩
  exact (al_all ⟨n, by omega⟩ ⟨s, by omega⟩ ⟨q, by omega⟩ h1).2 hb hq
/-- What the model counts: in how many ways the others can follow. -/
def moI9 (fs : List Int) (x : Int) (p : Nat) : Int := lB fs (alI fs.length - x) (fs.getD p 0)
def moT (fs : List Int) (x : Int) (p q : Nat) : Int := if isB x q = false ∧ isB (fs.getD p 0) q = true then moI9 fs (x + 2 ^ q) q else 0
theorem moT_sum (h6 : fs.length ≤ 6) {x : Int} (h0 : 0 ≤ x) (h1 : x < alI fs.length) (p : Nat) : smK (moT fs x p) fs.length = moI9 fs x p := by
  have hb := alI_bd h6
  unfold moI9
  rw [lB_some _ (by omega), ← smK_n h6 (h := fun q => if isB (fs.getD p 0) q = true then LT fs (alI fs.length - x) q else 0) (fun q a b => by
    have : isB (alI fs.length - x) q = false := by rw [al_isB h6 h0 (by omega) b]; simp; omega
    show (if isB (fs.getD p 0) q = true then _ else _) = (0 : Int)
    rw [LT_no (by omega) (by omega) b this]; split <;> rfl)]
  refine smK_congr (fun q hq => ?_)
  have hI : isB (alI fs.length - x) q = !isB x q := by rw [al_isB h6 h0 (by omega) (by omega), decide_eq_true hq]; rfl
  unfold moT
  by_cases c : isB (fs.getD p 0) q = true
  · rw [if_pos c]
    cases hx : isB x q
    · rw [if_pos ⟨rfl, c⟩]
      rw [hx] at hI
      rw [LT_yes (by omega) (by omega) (by omega) hI, (al_more h6 h0 (by omega) hq hx).2]; rfl
    · rw [if_neg (by simp)]
      rw [hx] at hI
      rw [LT_no (by omega) (by omega) (by omega) hI]
  · rw [if_neg c, if_neg (fun d => c d.2)]
theorem moT_full (h6 : fs.length ≤ 6) (p : Nat) {q : Nat} (hq : q < fs.length) : moT fs (alI fs.length) p q = 0 := by
  unfold moT
  rw [if_neg (by rw [isB_all h6 (by omega), decide_eq_true hq]; simp)]
theorem moI9_full (p : Nat) : moI9 fs (alI fs.length) p = 1 := by unfold moI9; rw [Int.sub_self]; exact lB_zero _
theorem two_al : ∀ n : Fin 7, ∀ q : Fin 6, (q : Nat) < (n : Nat) → (2 : Int) ^ (q : Nat) ≤ alI n ∧ woI (alI n) q = alI n - 2 ^ (q : Nat) := by decide +kernel
theorem two_le {n q : Nat} (hn : n ≤ 6) (hq : q < n) : (2 : Int) ^ q ≤ alI n ∧ woI (alI n) q = alI n - 2 ^ q := two_al ⟨n, by omega⟩ ⟨q, by omega⟩ hq
theorem lB_all (h6 : fs.length ≤ 6) (h0 : 0 < fs.length) : lB fs (alI fs.length) (alI fs.length) = sm (fun q => LT fs (alI fs.length) q) := by
  have hb := alI_bd h6
  have hz : alI fs.length ≠ 0 := by intro c; have := pc_al h6; rw [c] at this; have : pcN 0 = 0 := by decide
                                    omega
  rw [lB_some _ hz]
  refine sm_congr (fun q hq => ?_)
  cases c : isB (alI fs.length) q
  · rw [if_neg (by decide), LT_no (by omega) (by omega) hq c]
  · rw [if_pos rfl]
/-- The model's number of lines: those behind each first one. -/
theorem lm_sum (h6 : fs.length ≤ 6) (h0 : 0 < fs.length) : smK (fun k => moI9 fs (2 ^ k) k) fs.length = lB fs (alI fs.length) (alI fs.length) := by
  have hb := alI_bd h6
  rw [lB_all h6 h0, ← smK_n h6 (h := fun q => LT fs (alI fs.length) q) (fun q a b => LT_no (by omega) (by omega) b (by rw [isB_all h6 b]; simp; omega))]
  refine smK_congr (fun q hq => ?_)
  rw [LT_yes (by omega) (by omega) (by omega) (by rw [isB_all h6 (by omega)]; simp; omega), (two_le h6 hq).2]
  rfl
/-! The first line. -/
def fst6 (P : Nat → Bool) : Nat := if P 0 = true then 0 else if P 1 = true then 1 else if P 2 = true then 2 else if P 3 = true then 3 else if P 4 = true then 4 else if P 5 = true then 5 else 6
theorem fst6_at {P : Nat → Bool} {k : Nat} (hk : k < 6) (h : ∀ j, j < k → P j = false) (hp : P k = true) : fst6 P = k := by
  have e : k = 0 ∨ k = 1 ∨ k = 2 ∨ k = 3 ∨ k = 4 ∨ k = 5 := by omega
  unfold fst6
  rcases e with rfl | rfl | rfl | rfl | rfl | rfl
  · simp [hp]
  · simp [hp, h 0 (by omega)]
  · simp [hp, h 0 (by omega), h 1 (by omega)]
  · simp [hp, h 0 (by omega), h 1 (by omega), h 2 (by omega)]
  · simp [hp, h 0 (by omega), h 1 (by omega), h 2 (by omega), h 3 (by omega)]
  · simp [hp, h 0 (by omega), h 1 (by omega), h 2 (by omega), h 3 (by omega), h 4 (by omega)]
theorem fst6_none {P : Nat → Bool} (h : ∀ j, j < 6 → P j = false) : fst6 P = 6 := by
  unfold fst6; simp [h 0 (by omega), h 1 (by omega), h 2 (by omega), h 3 (by omega), h 4 (by omega), h 5 (by omega)]
theorem fst6_ex {P : Nat → Bool} {j : Nat} (hj : j < 6) (h : P j = true) : fst6 P < 6 ∧ P (fst6 P) = true ∧ fst6 P ≤ j ∧ ∀ i, i < fst6 P → P i = false := by
  have key : ∀ m : Nat, m ≤ 6 → (∀ i, i < m → P i = false) ∨ ∃ k, k < m ∧ (∀ i, i < k → P i = false) ∧ P k = true := by
    intro m
    induction m with
    | zero => intro _; exact Or.inl (fun i hi => absurd hi (Nat.not_lt_zero _))
    | succ m ih =>
      intro hm
      rcases ih (by omega) with a | ⟨k, a, b, c⟩
      · cases e : P m
        · refine Or.inl (fun i hi => ?_)
          by_cases d : i = m
          · rw [d]; exact e
          · exact a i (by omega)
        · exact Or.inr ⟨m, by omega, a, e⟩
      · exact Or.inr ⟨k, by omega, b, c⟩
  rcases key 6 (by omega) with a | ⟨k, a, b, c⟩
  · rw [a j hj] at h; exact Bool.noConfusion h
  · have e := fst6_at a b c
    rw [e]
    refine ⟨a, c, ?_, b⟩
    rcases Nat.lt_or_ge j k with d | d
    · rw [b j d] at h; exact Bool.noConfusion h
    · exact d
def gpB (fs : List Int) (S F : Int) (q : Nat) : Bool := decide (0 < LT fs S q) && isB F q
def nxN (fs : List Int) (S F : Int) : Nat := fst6 (gpB fs S F)
structure Gst where
  S : Int
  F : Int
  l : List Int
def gsL (fs : List Int) : Nat → Gst
  | 0 => ⟨alI fs.length, alI fs.length, []⟩
  | k + 1 => ⟨woI (gsL fs k).S (nxN fs (gsL fs k).S (gsL fs k).F), fs.getD (nxN fs (gsL fs k).S (gsL fs k).F) 0, (gsL fs k).l ++ [((nxN fs (gsL fs k).S (gsL fs k).F : Nat) : Int)]⟩
def lfB (fs : List Int) : Bool := frB fs && decide (0 < lB fs (alI fs.length) (alI fs.length))
def lfL (fs : List Int) : List Int := if lfB fs = true then (gsL fs fs.length).l else []
theorem lfB_iff : lfB fs = true ↔ frB fs = true ∧ 0 < lB fs (alI fs.length) (alI fs.length) := by unfold lfB; simp only [Bool.and_eq_true, decide_eq_true_eq]
theorem lm_lf : lfB fs = decide (0 < lmI fs) := by
  rw [Bool.eq_iff_iff, lfB_iff, decide_eq_true_eq]
  unfold lmI
  by_cases h : frB fs = true
  · rw [if_pos h]; exact ⟨fun c => c.2, fun c => ⟨h, c⟩⟩
  · rw [if_neg h]; exact ⟨fun c => absurd c.1 h, fun c => absurd c (by omega)⟩
theorem gp_none {S F : Int} (hS : S ≠ 0) (h : lB fs S F = 0) : nxN fs S F = 6 := by
  refine fst6_none (fun j hj => ?_)
  unfold gpB
  cases c : isB F j
  · simp
  · have := lB_ge (fs := fs) hS hj c
    simp; omega
theorem gp_some {S F : Int} (hS : S ≠ 0) (h : 0 < lB fs S F) : ∃ j, j < 6 ∧ gpB fs S F j = true := by
  rw [lB_some F hS] at h
  obtain ⟨j, hj, hp⟩ := sm_pos h
  refine ⟨j, hj, ?_⟩
  by_cases c : isB F j = true
  · simp only [c, if_true] at hp; unfold gpB; simp [c, hp]
  · have hp' : 0 < (if isB F j = true then LT fs S j else 0) := hp
    rw [if_neg c] at hp'; omega
theorem gp_yes {S F : Int} {q : Nat} (h : gpB fs S F q = true) : 0 < LT fs S q ∧ isB F q = true := by unfold gpB at h; simpa using h
theorem LT_in {S : Int} {q : Nat} (h0 : 0 ≤ S) (h1 : S < 64) (hq : q < 6) (h : 0 < LT fs S q) : isB S q = true ∧ 0 < lB fs (woI S q) (fs.getD q 0) := by
  cases c : isB S q
  · rw [LT_no h0 h1 hq c] at h; omega
  · rw [LT_yes h0 h1 hq c] at h; exact ⟨rfl, h⟩
/-- What holds of the choice so far. -/
structure Gok (fs : List Int) (k : Nat) (g : Gst) : Prop where
  s0 : 0 ≤ g.S
  s1 : g.S < 64
  pc : pcN g.S = fs.length - k
  pos : 0 < lB fs g.S g.F
  len : g.l.length = k
  isIn : ∀ q, q < 6 → isB g.S q = (decide (q < fs.length) && !hsI g.l (q : Int))
  fr : (k = 0 ∧ g.F = alI fs.length) ∨ (0 < k ∧ ∃ p : Nat, p < fs.length ∧ g.l.getD (k - 1) 0 = (p : Int) ∧ g.F = fs.getD p 0)
  ok : ∀ j, j < k → lkB fs g.l j = true
theorem lkB_snoc {us : List Int} {x : Int} {j : Nat} (hj : j < us.length) : lkB fs (us ++ [x]) j = lkB fs us j := by
  unfold lkB
  have a : (us ++ [x]).getD j 0 = us.getD j 0 := by simp [List.getElem?_append_left hj, List.getD]
  have b : (us ++ [x]).getD (j - 1) 0 = us.getD (j - 1) 0 := by simp [List.getElem?_append_left (show j - 1 < us.length by omega), List.getD]
  have c : (us ++ [x]).take j = us.take j := List.take_append_of_le_length (by omega)
  rw [a, b, c]
theorem Gok.next {k : Nat} {g : Gst} (hf : frB fs = true) (h : Gok fs k g) (hk : k < fs.length) :
    nxN fs g.S g.F < fs.length ∧ (∀ j, j < nxN fs g.S g.F → gpB fs g.S g.F j = false) ∧ gpB fs g.S g.F (nxN fs g.S g.F) = true ∧ isB g.S (nxN fs g.S g.F) = true ∧
    Gok fs (k + 1) ⟨woI g.S (nxN fs g.S g.F), fs.getD (nxN fs g.S g.F) 0, g.l ++ [((nxN fs g.S g.F : Nat) : Int)]⟩ := by
  have F := frB_iff.1 hf
  have hz : g.S ≠ 0 := by intro c; have := h.pc; rw [c, show pcN 0 = 0 by decide] at this; omega
  obtain ⟨j, hj, hg⟩ := gp_some hz h.pos
  obtain ⟨e0, e1, e2, e3⟩ := fst6_ex hj hg
  change nxN fs g.S g.F < 6 at e0
  change gpB fs g.S g.F (nxN fs g.S g.F) = true at e1
  change ∀ i, i < nxN fs g.S g.F → gpB fs g.S g.F i = false at e3
  generalize nxN fs g.S g.F = p at e0 e1 e3 ⊢
  obtain ⟨d0, d1⟩ := gp_yes e1
  obtain ⟨d2, d3⟩ := LT_in h.s0 h.s1 e0 d0
  have hin := h.isIn p e0
  rw [d2] at hin
  have hin' := hin.symm
  simp only [Bool.and_eq_true, decide_eq_true_eq, Bool.not_eq_true'] at hin'
  obtain ⟨hp, hno⟩ := hin'
  have hw := woI_bd (j := p) h.s0 h.s1 e0
  refine ⟨hp, e3, e1, d2, ⟨hw.1, hw.2, ?_, d3, by simp [h.len], ?_, Or.inr ⟨by omega, p, hp, ?_, rfl⟩, ?_⟩⟩
  · have := pc_wo h.s0 h.s1 e0 d2; have := h.pc
    show pcN (woI g.S p) = _
    omega
  · intro q hq
    show isB (woI g.S p) q = _
    rw [woI_isB h.s0 h.s1 e0 hq, h.isIn q hq, hsI_snoc, Bool.and_assoc, Bool.not_or]
    have : ((p : Int) == (q : Int)) = (p == q) := by rw [Bool.eq_iff_iff, beq_iff_eq, beq_iff_eq]; omega
    rw [this]
  · have := h.len
    simp [List.getD, this]
  · intro j hj'
    by_cases c : j < k
    · show lkB fs (g.l ++ [_]) j = true
      rw [lkB_snoc (by rw [h.len]; exact c)]; exact h.ok j c
    · obtain rfl : j = k := by omega
      show lkB fs (g.l ++ [(p : Int)]) j = true
      unfold lkB
      have a : (g.l ++ [(p : Int)]).getD j 0 = (p : Int) := by have := h.len; simp [List.getD, ← this]
      have c2 : (g.l ++ [(p : Int)]).take j = g.l := by have := h.len; rw [← this]; simp
      rw [a, c2, hno, show inV (p : Int) 0 ((fs.length : Int) - 1) = true by rw [inV_iff]; omega]
      rcases h.fr with ⟨z, _⟩ | ⟨z, p', hp', hl', hF⟩
      · rw [z]; rfl
      · have b : (g.l ++ [(p : Int)]).getD (j - 1) 0 = (p' : Int) := by
          have := h.len
          rw [← hl']; simp [List.getElem?_append_left (show j - 1 < g.l.length by omega), List.getD]
        rw [b]
        have s := (F.2 p' hp').2.2.2 p hp
        rw [hF, s] at d1
        simp only [Int.toNat_natCast, d1]
        simp
theorem gsL_ok (h : lfB fs = true) : ∀ k, k ≤ fs.length → Gok fs k (gsL fs k)
  | 0, _ => by
    obtain ⟨hf, hp⟩ := lfB_iff.1 h
    have h6 := (frB_iff.1 hf).1
    have hb := alI_bd h6
    exact ⟨hb.1, by show alI fs.length < 64; omega, pc_al h6, hp, rfl, fun q hq => by show isB (alI fs.length) q = _; rw [isB_all h6 hq]; simp [gsL, hsI], Or.inl ⟨rfl, rfl⟩, fun j hj => absurd hj (Nat.not_lt_zero _)⟩
  | k + 1, hk => ((gsL_ok h k (by omega)).next (lfB_iff.1 h).1 (by omega)).2.2.2.2
theorem lk_all {us : List Int} : ∀ {m : Nat}, (∀ j, j < m → lkB fs us j = true) → lkK fs us m = true
  | 0, _ => rfl
  | m + 1, H => lkK_yes (lk_all (fun j hj => H j (by omega))) (H m (by omega))
/-- The first line is one. -/
theorem lf_line (h : lfB fs = true) : lnB fs (lfL fs) = true := by
  have g := gsL_ok h fs.length (Nat.le_refl _)
  rw [lnB_iff]
  unfold lfL
  rw [if_pos h]
  exact ⟨(lfB_iff.1 h).1, g.len, by rw [g.len]; exact lk_all g.ok⟩
theorem lfL_len (h : lfB fs = true) : (lfL fs).length = fs.length := (lnB_iff.1 (lf_line h)).2.1
theorem lfL_no (h : lfB fs = false) : lfL fs = [] := by unfold lfL; rw [h]; rfl
/-! A line, followed from its beginning. -/
theorem lkB_iff {us : List Int} {k : Nat} : lkB fs us k = true ↔ (0 ≤ us.getD k 0 ∧ us.getD k 0 < fs.length) ∧ us.getD k 0 ∉ us.take k ∧ (k = 0 ∨ isB (fs.getD (us.getD k 0).toNat 0) (us.getD (k - 1) 0).toNat = true) := by
  unfold lkB
  simp only [Bool.and_eq_true, Bool.or_eq_true, Bool.not_eq_true', hsI_no, inV_iff, beq_iff_eq, and_assoc]
  constructor
  · rintro ⟨a, b, c, d⟩; exact ⟨a, by omega, c, d⟩
  · rintro ⟨a, b, c, d⟩; exact ⟨a, by omega, c, d⟩
def lSt (fs us : List Int) : Nat → Int
  | 0 => alI fs.length
  | k + 1 => woI (lSt fs us k) (us.getD k 0).toNat
theorem lSt_ok {us : List Int} (hf : frB fs = true) (hl : us.length = fs.length) (H : ∀ j, j < fs.length → lkB fs us j = true) : ∀ k, k ≤ fs.length →
    0 ≤ lSt fs us k ∧ lSt fs us k < 64 ∧ pcN (lSt fs us k) = fs.length - k ∧ ∀ q, q < 6 → isB (lSt fs us k) q = (decide (q < fs.length) && !hsI (us.take k) (q : Int))
  | 0, _ => by
    have h6 := (frB_iff.1 hf).1
    have hb := alI_bd h6
    exact ⟨hb.1, by show alI fs.length < 64; omega, pc_al h6, fun q hq => by show isB (alI fs.length) q = _; rw [isB_all h6 hq]; simp [hsI]⟩
  | k + 1, hk => by
    have h6 := (frB_iff.1 hf).1
    obtain ⟨a, b, c, d⟩ := lSt_ok hf hl H k (by omega)
    obtain ⟨⟨u0, u1⟩, u2, u3⟩ := lkB_iff.1 (H k (by omega))
    obtain ⟨p, hp⟩ : ∃ p : Nat, us.getD k 0 = p := ⟨(us.getD k 0).toNat, by omega⟩
    have hk' : k < us.length := by omega
    have hpk : us[k] = (p : Int) := by rw [← hp]; simp [hk']
    rw [hp] at u0 u1 u2
    have hin : isB (lSt fs us k) p = true := by rw [d p (by omega), hsI_no.2 u2]; simp; omega
    have hw := woI_bd (j := p) a b (by omega)
    show 0 ≤ woI (lSt fs us k) (us.getD k 0).toNat ∧ woI (lSt fs us k) (us.getD k 0).toNat < 64 ∧ pcN (woI (lSt fs us k) (us.getD k 0).toNat) = _ ∧ ∀ q, q < 6 → isB (woI (lSt fs us k) (us.getD k 0).toNat) q = _
    rw [hp, Int.toNat_natCast]
    refine ⟨hw.1, hw.2, by have := pc_wo a b (by omega) hin; omega, fun q hq => ?_⟩
    rw [woI_isB a b (by omega) hq, d q hq, hsI_step hk', hpk, Bool.and_assoc, Bool.not_or]
    have : ((p : Int) == (q : Int)) = (p == q) := by rw [Bool.eq_iff_iff, beq_iff_eq, beq_iff_eq]; omega
    rw [this]
theorem ln_from {us : List Int} (hf : frB fs = true) (hl : us.length = fs.length) (H : ∀ j, j < fs.length → lkB fs us j = true) : ∀ (d k : Nat), k + d + 1 = fs.length → 0 < LT fs (lSt fs us k) (us.getD k 0).toNat
  | d, k, hd => by
    have F := frB_iff.1 hf
    have h6 := F.1
    obtain ⟨a, b, c, e⟩ := lSt_ok hf hl H k (by omega)
    obtain ⟨a', b', c', e'⟩ := lSt_ok hf hl H (k + 1) (by omega)
    obtain ⟨⟨u0, u1⟩, u2, u3⟩ := lkB_iff.1 (H k (by omega))
    obtain ⟨p, hp⟩ : ∃ p : Nat, us.getD k 0 = p := ⟨(us.getD k 0).toNat, by omega⟩
    have hS : lSt fs us (k + 1) = woI (lSt fs us k) p := by show woI _ (us.getD k 0).toNat = _; rw [hp, Int.toNat_natCast]
    rw [hp] at u0 u1 u2
    have hin : isB (lSt fs us k) p = true := by rw [e p (by omega), hsI_no.2 u2]; simp; omega
    rw [hp, Int.toNat_natCast, LT_yes a b (by omega) hin, ← hS]
    match d with
    | 0 =>
      have z : lSt fs us (k + 1) = 0 := pc_none a' b' (by omega)
      rw [z, lB_zero]; omega
    | d + 1 =>
      have z : lSt fs us (k + 1) ≠ 0 := by intro x; rw [x, show pcN 0 = 0 by decide] at c'; omega
      have ih := ln_from hf hl H d (k + 1) (by omega)
      obtain ⟨⟨v0, v1⟩, v2, v3⟩ := lkB_iff.1 (H (k + 1) (by omega))
      obtain ⟨q, hq⟩ : ∃ q : Nat, us.getD (k + 1) 0 = q := ⟨(us.getD (k + 1) 0).toNat, by omega⟩
      rw [hq] at v0 v1 v3 ih
      rw [Int.toNat_natCast] at ih
      rcases v3 with v3 | v3
      · omega
      · rw [Nat.add_sub_cancel, hp, Int.toNat_natCast, Int.toNat_natCast] at v3
        have s := (F.2 p (by omega)).2.2.2 q (by omega)
        exact Int.lt_of_lt_of_le ih (lB_ge z (by omega) (by rw [s]; exact v3))
theorem ln_first {us : List Int} (h : lnB fs us = true) (h0 : 0 < fs.length) : 0 < LT fs (alI fs.length) (us.getD 0 0).toNat ∧ 0 ≤ us.getD 0 0 ∧ us.getD 0 0 < fs.length := by
  obtain ⟨hf, hl, hk⟩ := lnB_iff.1 h
  have H : ∀ j, j < fs.length → lkB fs us j = true := fun j hj => lkK_at (by omega) hk
  exact ⟨ln_from hf hl H (fs.length - 1) 0 (by omega), (lkB_iff.1 (H 0 h0)).1⟩
/-- Where there is a line, they are counted. -/
theorem ln_some {us : List Int} (h : lnB fs us = true) : lfB fs = true := by
  obtain ⟨hf, hl, hk⟩ := lnB_iff.1 h
  rw [lfB_iff]
  refine ⟨hf, ?_⟩
  have h6 := (frB_iff.1 hf).1
  rcases Nat.eq_zero_or_pos fs.length with c | c
  · rw [c]; show 0 < lB fs 0 0; rw [lB_zero]; omega
  · obtain ⟨a, b, d⟩ := ln_first h c
    obtain ⟨q, hq⟩ : ∃ q : Nat, us.getD 0 0 = q := ⟨(us.getD 0 0).toNat, by omega⟩
    rw [hq] at b d a
    rw [Int.toNat_natCast] at a
    have hz : alI fs.length ≠ 0 := by intro x; have := pc_al h6; rw [x, show pcN 0 = 0 by decide] at this; omega
    exact Int.lt_of_lt_of_le a (lB_ge hz (by omega) (by rw [isB_all h6 (by omega)]; simp; omega))
/-- From its end an order is right, too. -/
theorem ln_back {us : List Int} (h : lnB fs us = true) : lnB fs us.reverse = true := by
  obtain ⟨hf, hl, hk⟩ := lnB_iff.1 h
  have F := frB_iff.1 hf
  have H : ∀ j, j < fs.length → lkB fs us j = true := fun j hj => lkK_at (by omega) hk
  rw [lnB_iff]
  refine ⟨hf, by simp [hl], lk_all (fun j hj => ?_)⟩
  simp only [List.length_reverse] at hj
  have rd : ∀ i, i < us.length → us.reverse.getD i 0 = us.getD (us.length - 1 - i) 0 := fun i hi => by
    simp only [List.getD, List.getElem?_reverse hi]
  obtain ⟨u0, u2, u3⟩ := lkB_iff.1 (H (us.length - 1 - j) (by omega))
  rw [lkB_iff, rd j hj]
  refine ⟨u0, ?_, ?_⟩
  · intro c
    obtain ⟨i, hi, e⟩ := List.getElem_of_mem c
    simp only [List.length_take, List.length_reverse] at hi
    have hi' : i < j := by omega
    rw [List.getElem_take, List.getElem_reverse] at e
    obtain ⟨v0, v2, v3⟩ := lkB_iff.1 (H (us.length - 1 - i) (by omega))
    apply v2
    have e2 : us.getD (us.length - 1 - i) 0 = us.getD (us.length - 1 - j) 0 := by
      rw [← e]; simp [List.getD, show us.length - 1 - i < us.length by omega]
    rw [e2]
    have hlt : us.length - 1 - j < (us.take (us.length - 1 - i)).length := by simp; omega
    have : us.getD (us.length - 1 - j) 0 = (us.take (us.length - 1 - i))[us.length - 1 - j] := by simp [List.getD, show us.length - 1 - j < us.length by omega]
    rw [this]; exact List.getElem_mem hlt
  · rcases Nat.eq_zero_or_pos j with z | z
    · exact Or.inl z
    · right
      rw [rd (j - 1) (by omega)]
      obtain ⟨v0, v2, v3⟩ := lkB_iff.1 (H (us.length - 1 - (j - 1)) (by omega))
      rcases v3 with v3 | v3
      · omega
      · rw [show us.length - 1 - (j - 1) - 1 = us.length - 1 - j by omega] at v3
        obtain ⟨p, hp⟩ : ∃ p : Nat, us.getD (us.length - 1 - j) 0 = p := ⟨(us.getD (us.length - 1 - j) 0).toNat, by omega⟩
        obtain ⟨q, hq⟩ : ∃ q : Nat, us.getD (us.length - 1 - (j - 1)) 0 = q := ⟨(us.getD (us.length - 1 - (j - 1)) 0).toNat, by omega⟩
        rw [hp] at v3 u0 ⊢
        rw [hq] at v3 v0 ⊢
        rw [Int.toNat_natCast, Int.toNat_natCast] at v3 ⊢
        rw [(F.2 p (by omega)).2.2.2 q (by omega)]; exact v3
theorem gsL_head : ∀ k, 0 < k → k ≤ fs.length → (gsL fs k).l.getD 0 0 = ((nxN fs (alI fs.length) (alI fs.length) : Nat) : Int)
  | 1, _, _ => rfl
  | k + 2, _, hk => by
    have ih := gsL_head (k + 1) (by omega) (by omega)
    have hl : ∀ m, (gsL fs m).l.length = m := fun m => by
      induction m with
      | zero => rfl
      | succ m ih => simp [gsL, ih]
    have e : ∀ (l : List Int) (x : Int), l.length = k + 1 → (l ++ [x]).getD 0 0 = l.getD 0 0 := fun l x h => by
      cases l with
      | nil => simp at h
      | cons a b => rfl
    rw [← ih]
    exact e _ _ (hl (k + 1))
/-- The first plant of the first line is less than its last one. -/
theorem lf_less (h : lfB fs = true) (h2 : 2 ≤ fs.length) : (lfL fs).getD 0 0 < (lfL fs).getD (fs.length - 1) 0 := by
  have hl := lfL_len h
  have L := lf_line h
  have B := ln_back L
  obtain ⟨hf, _, hk⟩ := lnB_iff.1 L
  have h6 := (frB_iff.1 hf).1
  obtain ⟨a, b, c⟩ := ln_first B (by omega)
  have e : (lfL fs).reverse.getD 0 0 = (lfL fs).getD (fs.length - 1) 0 := by
    simp only [List.getD, List.getElem?_reverse (show 0 < (lfL fs).length by omega), hl]; rfl
  rw [e] at a b c
  obtain ⟨q, hq⟩ : ∃ q : Nat, (lfL fs).getD (fs.length - 1) 0 = q := ⟨((lfL fs).getD (fs.length - 1) 0).toNat, by omega⟩
  have hh : (lfL fs).getD 0 0 = ((nxN fs (alI fs.length) (alI fs.length) : Nat) : Int) := by
    unfold lfL; rw [if_pos h]; exact gsL_head _ (by omega) (Nat.le_refl _)
  rw [hq] at a b c ⊢
  rw [Int.toNat_natCast] at a
  have g : gpB fs (alI fs.length) (alI fs.length) q = true := by
    unfold gpB; rw [isB_all h6 (by omega)]; simp; exact ⟨a, by omega⟩
  have le := (fst6_ex (show q < 6 by omega) g).2.2.1
  change nxN fs (alI fs.length) (alI fs.length) ≤ q at le
  have H : ∀ j, j < fs.length → lkB fs (lfL fs) j = true := fun j hj => lkK_at (by omega) hk
  obtain ⟨_, u2, _⟩ := lkB_iff.1 (H (fs.length - 1) (by omega))
  have ne : (lfL fs).getD 0 0 ≠ (lfL fs).getD (fs.length - 1) 0 := by
    intro x
    apply u2
    rw [← x]
    have hlt : 0 < ((lfL fs).take (fs.length - 1)).length := by simp; omega
    have : (lfL fs).getD 0 0 = ((lfL fs).take (fs.length - 1))[0] := by simp [List.getD, show 0 < (lfL fs).length by omega]
    rw [this]; exact List.getElem_mem hlt
  rw [hh, hq] at ne
  rw [hh]
  omega
/-- Lines come in pairs. -/
theorem lm_even (hf : frB fs = true) (h2 : 2 ≤ fs.length) : lmI fs % 2 = 0 := by
  have F := frB_iff.1 hf
  have h6 := F.1
  have hb := alI_bd h6
  unfold lmI
  rw [if_pos hf, lB_all h6 (by omega)]
  refine lTf_even (r := adB fs) (fun a b ha hb => ?_) (by omega) (by omega) (by rw [pc_al h6]; exact h2)
  unfold adB
  have big : ∀ x : Nat, x < fs.length → ∀ y, fs.length ≤ y → y < 6 → isB (fs.getD x 0) y = false := fun x hx y hy h6' => by
    have hx' := F.2 x hx
    have key : ∀ n : Fin 7, ∀ s : Fin 64, ∀ q : Fin 6, ((s : Nat) : Int) ≤ alI n → (n : Nat) ≤ q → isB (s : Nat) q = false := by decide +kernel
    obtain ⟨s, hs⟩ : ∃ s : Nat, fs.getD x 0 = s := ⟨(fs.getD x 0).toNat, by have := hx'.1; omega⟩
    rw [hs]
    exact key ⟨fs.length, by omega⟩ ⟨s, by have := hx'.2.1; omega⟩ ⟨y, h6'⟩ (by have := hx'.2.1; rw [hs] at this; exact this) hy
  have out : ∀ x : Nat, fs.length ≤ x → fs.getD x 0 = 0 := fun x hx => by simp [List.getD, List.getElem?_eq_none hx]
  by_cases ca : a < fs.length <;> by_cases cb : b < fs.length
  · exact (F.2 a ca).2.2.2 b cb
  · rw [big a ca b (by omega) (by omega), out b (by omega), isB_nil]
  · rw [big b cb a (by omega) (by omega), out a (by omega), isB_nil]
  · rw [out a (by omega), out b (by omega), isB_nil, isB_nil]
end
/-! All may stand side by side. -/
def falI (n : Nat) : List Int := (List.range n).map (fun k => alI n - 2 ^ k)
def facI : Nat → Int
  | 0 => 1
  | k + 1 => facI k * ((k : Int) + 1)
theorem lm_fac {n : Nat} (h : n ≤ 6) : lmI (falI n) = facI n := by
  have : n = 0 ∨ n = 1 ∨ n = 2 ∨ n = 3 ∨ n = 4 ∨ n = 5 ∨ n = 6 := by omega
  rcases this with rfl | rfl | rfl | rfl | rfl | rfl | rfl <;> decide +kernel
end Go.Proofs.Ytoklehmoeollfaa
