/- Lists of ways: what the law asks. -/
import Derived.Test.YtbegajmdadkknabDw1
namespace Go.Proofs.Ytbegajmdadkknab
open Go.ChangeShapes Go.WideShapes Go.ChangeAt Go.RowKit
set_option linter.unusedVariables false
theorem iWsV_len {A : Option Addr} {cap n : Nat} (xs : List (Int × Int)) {w : World} {r : Bool} (hn : xs.length = n) (h : WRow w A xs) (hl : n ≤ 2000000) (hr : wsB xs = r) :
    Calls Try.prog 22 #[.slice A n cap] w fun e w' => e = .returned (.bool r) ∧ Below w.heap.size w w' := by
  subst hn; subst hr; exact iWsV_any A cap xs w h hl
theorem sWsV_len {A : Option Addr} {cap n : Nat} (xs : List (Int × Int)) {w : World} {r : Bool} (hn : xs.length = n) (h : WRow w A xs) (hl : n ≤ 2000000) (hr : wsB xs = r) :
    Calls Try.prog 23 #[.slice A n cap] w fun e w' => e = .returned (.bool r) ∧ Below w.heap.size w w' := by
  subst hn; subst hr; exact sWsV_any A cap xs w h hl
theorem ws_tail {xs : List (Int × Int)} (h : wsB xs = true) : wsB (xs.drop 1) = true := by
  unfold wsB at *
  rw [Bool.and_eq_true] at *
  refine ⟨by have := h.1; simp at *; omega, ?_⟩
  rw [List.all_eq_true] at *
  exact fun p hp => h.2 p (List.mem_of_mem_drop hp)
theorem ws_snoc (xs : List (Int × Int)) : wsB (xs ++ [(0, 0)]) = false := by
  unfold wsB
  have : goP (0, 0) = false := by decide
  simp [this]
theorem ws_nil : wsB [] = true := by decide
theorem flat_one : ∀ xs : List (Int × Int), ∀ u ∈ flat xs, u.oneCell' = true
  | [], u, h => by simp [flat] at h
  | p :: r, u, h => by
    simp [flat] at h
    rcases h with h | h | h
    · subst h; rfl
    · subst h; rfl
    · exact flat_one r u h
theorem Own.cap {w : World} {base g cap : Nat} {xs : List (Int × Int)} (h : Own w base g cap xs) : xs.length ≤ cap := by
  rcases h.2 with ⟨hv, _⟩ | ⟨g', c', cur, hv, _, _, hc, _⟩
  · simp at hv
  · simp at hv; omega
theorem Own.tail {w : World} {base g cap : Nat} {xs : List (Int × Int)} (h : Own w base g cap xs) : WRow w (some ⟨g, 2, none⟩) (xs.drop 1) := by
  by_cases h0 : xs.length ≤ 1
  · left; exact List.drop_eq_nil_of_le h0
  right
  refine ⟨g, 2, rfl, fun i hi => ?_⟩
  simp at hi
  have := h.cell (i + 1) (by omega)
  rw [show 2 + i * 2 = (i + 1) * 2 by omega]
  simpa [Nat.add_comm] using this
/-! Appends that stand behind a guard which holds. -/
section
variable {P : Program} {ops : Array Oper} {rest : List Oper} {o : Oper} {a : Act} {Q : Exit → Act → World → Prop}
theorem wpList_want {w : World} (hw : Region.wanted o (yielded ops a.tmps) = true) (h : ∀ K : Act → World → Prop, (∀ a w, wpList P ops Q rest a w → K a w) → o.wp P a w K Q) : wpList P ops Q (o :: rest) a w :=
  wpList_step fun K hK => by rw [if_pos hw]; exact h K hK
theorem append_own_g (w : World) (hgd : Region.wanted o (yielded ops a.tmps) = true) (s x : Operand) (t : TypeId) (ho : o.op = .call { callee := .builtin .append, args := #[s, x], argTypes := #[t, t] })
    (base : Nat) (e : TypeId) (i : TypeInfo) (z : Value) (size bytes : Nat) (ht : P.underlying t = some (.slice e)) (hi : P.info? e = some i) (hz : i.zero = some z) (hsize : i.size = size) (hby : i.bytes = bytes) (hzs : z.cells.size = size) (hsz : 0 < size)
    (v : Value) (n : Nat) (xs : List Value) (hs : a.eval s = v) (hown : w.ownsRow base e size v n xs)
    (ad : Addr) (m c : Nat) (news : List Value) (hx : a.eval x = .slice (some ad) m c) (hl : news.length = m * size) (hnews : ∀ j u, news[j]? = some u → w.cell? (ad.add j) = some u) (h1 : ∀ u ∈ news, u.oneCell' = true)
    (h63 : n + m ≤ maxLen) (hbytes : (n + m) * bytes ≤ 140737488355328) (hbase : base ≤ w.heap.size)
    (h : ∀ v' w', w'.ownsRow base e size v' (n + m) (xs ++ news) → w.grownBy w' v.ownBlock → (v' = .slice none 0 0 ↔ v = .slice none 0 0 ∧ m = 0) → wpList P ops Q rest (a.put o.dst v') w') : wpList P ops Q (o :: rest) a w :=
  wpList_want hgd fun _ hK => wp_append_own w s x t ho base e i z size bytes ht hi hz hsize hby hzs hsz v n xs hs hown ad m c news hx hl hnews h1 h63 hbytes hbase fun v' w' h2 h3 h4 => hK _ _ (h v' w' h2 h3 h4)
theorem append_lies_g (w : World) (hgd : Region.wanted o (yielded ops a.tmps) = true) (s x : Operand) (t : TypeId) (ho : o.op = .call { callee := .builtin .append, args := #[s, x], argTypes := #[t, t] })
    (base : Nat) (e : TypeId) (i : TypeInfo) (z : Value) (size bytes : Nat) (ht : P.underlying t = some (.slice e)) (hi : P.info? e = some i) (hz : i.zero = some z) (hsize : i.size = size) (hby : i.bytes = bytes) (hzs : z.cells.size = size) (hsz : 0 < size)
    (v : Value) (n : Nat) (xs : List Value) (hs : a.eval s = v) (hown : w.ownsRow base e size v n xs)
    (ad : Addr) (m c : Nat) (news : List Value) (hx : a.eval x = .slice (some ad) m c) (hl : news.length = m * size) (hnews : ∀ j u, news[j]? = some u → w.cell? (ad.add j) = some u) (h1 : ∀ u ∈ news, u.oneCell' = true)
    (hm : 0 < m) (h63 : n + m ≤ maxLen) (hbytes : (n + m) * bytes ≤ 140737488355328) (hbase : base ≤ w.heap.size) (H : Nat) (hH : w.heap.size = H)
    (h : ∀ g cap w', w'.ownsRow base e size (.slice (some ⟨g, 0, none⟩) (n + m) cap) (n + m) (xs ++ news) → w.grownBy w' v.ownBlock → (v.ownBlock = some g ∨ g = H) → g < w'.heap.size → wpList P ops Q rest (a.put o.dst (.slice (some ⟨g, 0, none⟩) (n + m) cap)) w') : wpList P ops Q (o :: rest) a w :=
  wpList_want hgd fun _ hK => wp_append_lies w s x t ho base e i z size bytes ht hi hz hsize hby hzs hsz v n xs hs hown ad m c news hx hl hnews h1 hm h63 hbytes hbase H hH fun g cap w' h2 h3 h4 h5 => hK _ _ (h g cap w' h2 h3 h4 h5)
end
end Go.Proofs.Ytbegajmdadkknab
