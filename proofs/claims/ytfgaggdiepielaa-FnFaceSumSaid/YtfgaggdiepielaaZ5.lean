/- A face and directions that are drawn. -/
import Derived.Test.YtfgaggdiepielaaZ3
import Derived.Test.YtfgaggdiepielaaZg
import Derived.Laws.AppendOwn
namespace Go.Proofs.Ytfgaggdiepielaa
open Go Go.ChangeShapes Go.WideShapes Go.ChangeAt Go.RowKit
set_option linter.unusedSimpArgs false
set_option linter.unusedVariables false

def DrewFaceSum (w : World) (e : Ending) (w' : World) : Prop := ∃ (a b c : Int) (xs : List VRay) (A : Option Addr) (cap : Nat), e = .returned (.tuple #[.agg #[.int .i64 a, .int .i64 b, .int .i64 c], .slice A xs.length cap]) ∧ xs.length ≤ 6 ∧ SOwn encRay w' w.heap.size 29 A cap xs ∧ Below w.heap.size w w'
theorem fsI_neg7 {e n u : Int} {rs : List (Int × Int × Int)} (h : fsI e n u rs < 0) : fsI e n u rs = -1 := by
  unfold fsI at h ⊢
  split at h
  · rename_i hc
    simp only [Bool.and_eq_true] at hc
    have := fsT_bd hc.1 rs hc.2
    omega
  · rename_i hc; rw [if_neg hc]
theorem fsI_bd7 {e n u : Int} {rs : List (Int × Int × Int)} : fsI e n u rs ≤ 600 * rs.length := by
  unfold fsI
  split
  · rename_i hc
    simp only [Bool.and_eq_true] at hc
    exact (fsT_bd hc.1 rs hc.2).2
  · omega
theorem SRow.fromK {w : World} {b off : Nat} {xs : List VRay} (h : SRow encRay w (some ⟨b, off, none⟩) xs) (k : Nat) : SRow encRay w (some ⟨b, off + k * 3, none⟩) (xs.drop k) := by
  rcases h with h | ⟨b', off', e, hc⟩
  · left; rw [h]; simp
  · simp only [Option.some.injEq, Addr.mk.injEq, and_true] at e
    obtain ⟨rfl, rfl⟩ := e
    refine .inr ⟨b, off + k * 3, rfl, fun i hi j v hv => ?_⟩
    have hi2 : k + i < xs.length := by rw [List.length_drop] at hi; omega
    rw [List.getElem_drop] at hv
    have := hc (k + i) hi2 j v hv
    rw [show off + k * 3 + (i * encRay.k + j) = off + ((k + i) * encRay.k + j) by show off + k * 3 + (i * 3 + j) = off + ((k + i) * 3 + j); omega]
    exact this
theorem SOwn.farStore7 {α : Type} {E : Enc α} {w : World} {base g cap R : Nat} {T : TypeId} {xs : List α} (h : SOwn E w base T (some ⟨g, 0, none⟩) cap xs) (hR : R < base) (i : Nat) (v : Value) : SOwn E (w.setCell ⟨R, i, none⟩ v) base T (some ⟨g, 0, none⟩) cap xs := by
  have hg : base ≤ g := by rcases h.form with ⟨e, _⟩ | ⟨g1, e, h9, _⟩; cases e; cases e; exact h9
  exact h.grown_far (row := some R) (setAll_grown [v] i ⟨rfl, rfl, rfl, Nat.le_refl _, fun _ _ _ => rfl⟩) (fun g9 hg9 e9 => by cases hg9; cases e9; omega)
set_option maxRecDepth 100000 in
set_option maxHeartbeats 2000000 in
theorem drFaceSum_any (a : Option Addr) (len cap : Nat) (w : World) (h : CodeOk w a len cap) : Calls Try.prog 19 #[.slice a len cap] w (DrewFaceSum w) := by
  obtain ⟨i0, hi0, hz0, hz1, hz2⟩ := info_parts infoRay
  have HI := Lib.hid (And.intro hi0 (And.intro hz0 (And.intro hz1 hz2)))
  clear hi0 hz0 hz1 hz2
  go_enter Try.func19, Try.ntmps19
  go_wp2_with fail
  refine (open_any _ _ _ _ (code_below h (bel1 _ _))).mono ?_; rintro e w1 ⟨B, rfl, hB, h1, hb1⟩
  obtain ⟨hH1, hB1⟩ := ownb hb1
  have hz1 := blk_lt hH1
  have hB' : w.heap.size < B := by simp at hB; omega
  clear hB
  have hB1l := h1.lt
  go_wp2_with fail
  refine (pick_any B 0 7 _ (h1.alloc _) (by omega) (by omega) (by omega)).mono ?_; rintro e w2 ⟨k0, rfl, k00, k01, h2, hx2⟩
  have hO2 := (SOwn.empty (E := encRay) (blk_new w1 (.cells #[] 29)) (Nat.le_refl _)).extK hx2 hB1l
  have hE2 := ((Ext.refl B w1).alloc (.cells #[] 29)).trans hx2
  have hH2 := blk_ext (blk_old hH1 (.cells #[] 29)) hx2 (by omega)
  go_wp2_with fail
  go_loopw [5, 6] (fun vo vk wr => ∃ (k : Int) (xs : List VRay) (g cp m : Nat), vk = .int .i64 k ∧ vo = .slice (some ⟨g, 0, none⟩) m cp ∧ 0 ≤ k ∧ (m : Int) + k ≤ 6 ∧ Hid (xs.length = m) ∧ SOwn encRay wr w1.heap.size 29 (some ⟨g, 0, none⟩) cp xs ∧ wr.heap[w.heap.size]? = some (.cells #[.int .i64 0, .int .i64 0, .int .i64 0] 24) ∧ RdU B (1 + 7 * (6 - k)) wr ∧ Ext B w1 wr) (fun _ vk _ => (intOf vk).toNat)
  case atStart => exact ⟨k0, [], _, 0, 0, rfl, rfl, k00, by omega, (by show _ = _; rfl), hO2, hH2, h2.mono (by omega), hE2⟩
  case round =>
    obtain ⟨k, xs, g, cp, m, rfl, rfl, k0', mk, HM, hO, hH, hR, hX⟩ := hrel
    by_cases hk : 0 < k
    · go_wp2_with fail
      refine (ray_any B _ 40 _ hR (by omega) (by omega) (by omega)).mono ?_; rintro e w3 ⟨p, q, s, rfl, hp, hq, hs, h3, hx3⟩
      have hO3 := hO.extK hx3 hB1l
      have hX3 := hX.trans hx3
      have hz3 := hX3.size
      have hH3 := blk_ext hH hx3 (by omega)
      have hg0 : w1.heap.size ≤ g := by rcases hO3.form with ⟨e, _⟩ | ⟨g1, e, h9, _⟩; cases e; cases e; exact h9
      go_wp2_with (at_builtin; refine wpList_append_lies _ rfl (.tmp 16) (.tmp 19) _ rfl w1.heap.size 29 i0 _ 3 24 Try.underlying34 HI.out.1 HI.out.2.1 HI.out.2.2.1 HI.out.2.2.2 rfl (by omega) (.slice (some ⟨g, 0, none⟩) m cp) m (encRay.flat xs) rfl (by have z9 := hO3.alloc (.cells (encRay.enc (p, q, s)).toArray 29); unfold SOwn at z9; rw [HM.out] at z9; exact z9) ⟨w3.heap.size, 0, none⟩ 1 1 (encRay.enc (p, q, s)) rfl rfl (new_enc (E := encRay) w3 (p, q, s) _) (encRay.one _) (by omega) (by simp only [maxLen]; omega) (by omega) (by simp; omega) _ rfl ?_; intro g5 cap5 w5 hown5 hgr5 hat5 hlt5)
      have hne : ∀ k, Value.ownBlock (.slice (some ⟨g, 0, none⟩) m cp) = some k → B < k := fun k hk => by simp [Value.ownBlock] at hk; omega
      have hB5 := (h3.alloc (.cells (encRay.enc (p, q, s)).toArray 29)).farK hgr5 hne
      have hE5 := (hX3.alloc (.cells (encRay.enc (p, q, s)).toArray 29)).far_grownK hgr5 (fun k hk => by simp [Value.ownBlock] at hk; omega)
      have hHa := blk_old hH3 (.cells (encRay.enc (p, q, s)).toArray 29)
      have hH5 := (hgr5.block _ (blk_lt hHa) (by simp [Value.ownBlock]; omega)).trans hHa
      go_wp2_with fail
      go_roundw
      case rel => exact ⟨k - 1, xs ++ [(p, q, s)], g5, cap5, m + 1, by go_num, rfl, by omega, by push_cast; omega, (by show _ = _; rw [List.length_append, HM.out]; rfl), SOwn.snoc (E := encRay) (by rw [HM.out]; exact hown5), hH5, hB5.mono (by omega), hE5⟩
      case measure => simp [intOf]; omega
    · obtain rfl : k = 0 := by omega
      go_wp2_with fail
      refine (face_any B _ 14 _ hR (by omega) (by omega) (by omega)).mono ?_; rintro e w3 ⟨a, b, c, rfl, ha, hb, hc, h3, hx3⟩
      have hO3 := hO.extK hx3 hB1l
      have hX3 := hX.trans hx3
      have hH3 := blk_ext hH hx3 (by omega)
      have hB3 := hB1.trans (hX3.below (N := w.heap.size) (by omega) (by omega))
      obtain ⟨r0, r1, r2, f0, f1, f2, hz⟩ := blk3 hH3
      go_wp2
      exact bodyPost_ret (v := .tuple #[.agg #[.int .i64 a, .int .i64 b, .int .i64 c], .slice (some ⟨g, 0, none⟩) m cp]) (by simp [results, Try.results19, go_sem, r0, r1, r2]) rfl ⟨a, b, c, xs, _, cp, (by rw [HM.out]), (by rw [HM.out]; omega), (((hO3.farStore7 hz1 _ _).farStore7 hz1 _ _).farStore7 hz1 _ _).mono (by omega), ((hB3.setCell (p := ⟨_, _, _⟩) (by simp) _).setCell (p := ⟨_, _, _⟩) (by simp) _).setCell (p := ⟨_, _, _⟩) (by simp) _⟩
end Go.Proofs.Ytfgaggdiepielaa
