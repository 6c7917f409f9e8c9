/- Lit directions: what the law says, and what it draws. -/
import Derived.Test.YtiicohbghpknhaaDi
import Derived.Test.YtiicohbghpknhaaVr
import Derived.Test.YtiicohbghpknhaaGRay
namespace Go.Proofs.Ytiicohbghpknhaa
open Go Go.ChangeShapes Go.WideShapes Go.ChangeAt Go.RowKit
set_option linter.unusedSimpArgs false
set_option linter.unusedVariables false

theorem SRow.cutR {α : Type} {E : Enc α} {w : World} {A : Option Addr} {xs : List α} (h : SRow E w A xs) (k : Nat) : SRow E w A (xs.take k) := by
  rcases h with h | ⟨b, off, e, hc⟩
  · left; rw [h]; simp
  · refine .inr ⟨b, off, e, fun i hi j v hv => ?_⟩
    have hi2 : i < xs.length := by rw [List.length_take] at hi; omega
    rw [List.getElem_take] at hv
    exact hc i hi2 j v hv
theorem SRow.dropR {α : Type} {E : Enc α} {w : World} {b off : Nat} {xs : List α} (h : SRow E w (some ⟨b, off, none⟩) xs) (k : Nat) : SRow E w (some ⟨b, off + k * E.k, none⟩) (xs.drop k) := by
  rcases h with h | ⟨b', off', e, hc⟩
  · left; rw [h]; simp
  · simp only [Option.some.injEq, Addr.mk.injEq, and_true] at e
    obtain ⟨rfl, rfl⟩ := e
    refine .inr ⟨b, off + k * E.k, rfl, fun i hi j v hv => ?_⟩
    have hi2 : k + i < xs.length := by rw [List.length_drop] at hi; omega
    rw [List.getElem_drop] at hv
    have := hc (k + i) hi2 j v hv
    rw [show off + k * E.k + (i * E.k + j) = off + ((k + i) * E.k + j) by rw [Nat.add_mul]; omega]
    exact this
theorem SRow.drop3 {w : World} {b : Nat} {xs : List VRay} (h : SRow encRay w (some ⟨b, 0, none⟩) xs) (k : Nat) : SRow encRay w (some ⟨b, k * 3, none⟩) (xs.drop k) := by
  have := h.dropR k; simpa [encRay] using this
theorem SRow.drop5 {w : World} {b : Nat} {xs : List VBlock} (h : SRow encBlock w (some ⟨b, 0, none⟩) xs) (k : Nat) : SRow encBlock w (some ⟨b, k * 5, none⟩) (xs.drop k) := by
  have := h.dropR k; simpa [encBlock] using this
theorem rl_no {pe pn : Int} {xs : List VBlock} {rs : List VRay} : rlV pe pn xs rs = -1 ∨ (plB pe pn = true ∧ bsB xs = true ∧ rs.all ryV = true ∧ rlV pe pn xs rs = (rs.countP (liR pe pn xs) : Nat)) := by
  unfold rlV; split
  · rename_i h; simp only [Bool.and_eq_true] at h; exact .inr ⟨h.1, h.2.1, h.2.2, rfl⟩
  · exact .inl rfl
theorem rl_yes {pe pn : Int} {xs : List VBlock} {rs : List VRay} (h1 : plB pe pn = true) (h2 : bsB xs = true) (h3 : rs.all ryV = true) : rlV pe pn xs rs = (rs.countP (liR pe pn xs) : Nat) := by unfold rlV; rw [h1, h2, h3]; rfl
theorem bs_cut {xs : List VBlock} (h : bsB xs = true) (k : Nat) : bsB (xs.take k ++ xs.drop (k + 1)) = true := by
  unfold bsB at *
  rw [Bool.and_eq_true, decide_eq_true_eq, List.all_eq_true] at *
  refine ⟨by simp; omega, fun x hx => h.2 x ?_⟩
  rcases List.mem_append.1 hx with hx | hx
  · exact List.mem_of_mem_take hx
  · exact List.mem_of_mem_drop hx
theorem li_cut {pe pn : Int} {xs : List VBlock} {r : VRay} (h : bsB xs = true) (k : Nat) (hl : liR pe pn xs r = true) : liR pe pn (xs.take k ++ xs.drop (k + 1)) r = true := by
  unfold liR liB at *
  rw [bs_cut h k]
  simp only [Bool.and_eq_true, Bool.not_eq_true'] at *
  refine ⟨hl.1, trivial, hl.2.2.1, ?_⟩
  have h2 := hl.2.2.2
  rw [← Bool.not_eq_true, List.any_eq_true] at *
  rintro ⟨x, hx, hs⟩
  apply h2
  refine ⟨x, ?_, hs⟩
  rcases List.mem_append.1 hx with hx | hx
  · exact List.mem_of_mem_take hx
  · exact List.mem_of_mem_drop hx
theorem rl_cut {pe pn : Int} {xs : List VBlock} {rs : List VRay} {r : Int} (hr : rlV pe pn xs rs = r) (h0 : 0 ≤ r) (k : Nat) : r ≤ rlV pe pn (xs.take k ++ xs.drop (k + 1)) rs := by
  rcases rl_no (pe := pe) (pn := pn) (xs := xs) (rs := rs) with h | ⟨h1, h2, h3, h4⟩
  · omega
  · rw [← hr, h4, rl_yes h1 (bs_cut h2 k) h3]
    have : rs.countP (liR pe pn xs) ≤ rs.countP (liR pe pn (xs.take k ++ xs.drop (k + 1))) := List.countP_mono_left (fun x _ hx => li_cut h2 k hx)
    omega
theorem rl_half {pe pn : Int} {xs : List VBlock} {rs : List VRay} {r : Int} (hr : rlV pe pn xs rs = r) (h0 : 0 ≤ r) (k : Nat) : 0 ≤ rlV pe pn xs (rs.take k) ∧ 0 ≤ rlV pe pn xs (rs.drop k) ∧ rlV pe pn xs (rs.take k) + rlV pe pn xs (rs.drop k) = r ∧ r ≤ rs.length := by
  rcases rl_no (pe := pe) (pn := pn) (xs := xs) (rs := rs) with h | ⟨h1, h2, h3, h4⟩
  · omega
  · rw [List.all_eq_true] at h3
    rw [rl_yes h1 h2 (List.all_eq_true.2 fun x hx => h3 x (List.mem_of_mem_take hx)), rl_yes h1 h2 (List.all_eq_true.2 fun x hx => h3 x (List.mem_of_mem_drop hx)), ← hr, h4]
    have e : rs.countP (liR pe pn xs) = (rs.take k).countP (liR pe pn xs) + (rs.drop k).countP (liR pe pn xs) := by
      rw [← List.countP_append, List.take_append_drop]
    have := List.countP_le_length (p := liR pe pn xs) (l := rs)
    omega
theorem rl_neg {pe pn : Int} {xs : List VBlock} {rs : List VRay} {r : Int} (hr : rlV pe pn xs rs = r) : r = -1 ∨ 0 ≤ r := by
  rcases rl_no (pe := pe) (pn := pn) (xs := xs) (rs := rs) with h | ⟨_, _, _, h4⟩ <;> omega
def DrewRL (w : World) (e : Ending) (w' : World) : Prop := ∃ (p0 p1 : Int) (xs : List VBlock) (A : Option Addr) (cap : Nat) (rs : List VRay) (g2 cap2 : Nat), e = .returned (.tuple #[.agg #[.int .i64 p0, .int .i64 p1], .slice A xs.length cap, .slice (some ⟨g2, 0, none⟩) rs.length cap2]) ∧ xs.length ≤ 6 ∧ rs.length ≤ 8 ∧ SOwn encBlock w' w.heap.size 91 A cap xs ∧ SOwn encRay w' w.heap.size 71 (some ⟨g2, 0, none⟩) cap2 rs ∧ Below w.heap.size w w'
set_option maxRecDepth 100000 in
set_option maxHeartbeats 8000000 in
theorem drRaysLit_any (a : Option Addr) (len cap : Nat) (w : World) (h : CodeOk w a len cap) : Calls Try.prog 20 #[.slice a len cap] w (DrewRL w) := by
  obtain ⟨i0, hi0, hz0, hz1, hz2⟩ := info_parts infoRay
  have HI := Lib.hid (And.intro hi0 (And.intro hz0 (And.intro hz1 hz2)))
  clear hi0 hz0 hz1 hz2
  have hX1 := code_below h (bel1 w (.cells #[.int .i64 0, .int .i64 0] 41 (0, 0)))
  go_enter Try.func20, Try.ntmps20
  go_wp2_with fail
  refine (open_any _ _ _ _ hX1).mono ?_; rintro e w1 ⟨B, rfl, hB, h1, hb1⟩
  clear hX1
  obtain ⟨hX1, hB1⟩ := ownb hb1
  have hz1 := blk_lt hX1
  have hB' : w.heap.size < B := by simp at hB; omega
  clear hB
  have hBw := h1.lt
  go_wp2_with fail
  refine (pick_any B 0 9 _ (h1.alloc _) (by omega) (by omega) (by omega)).mono ?_; rintro e w2 ⟨k0, rfl, k00, k01, h2, hx2⟩
  have hO2 := (SOwn.empty (E := encRay) (blk_new w1 (.cells #[] 71)) (Nat.le_refl _)).ext hx2 hBw
  have hE2 := ((Ext.refl B w1).alloc (.cells #[] 71)).trans hx2
  have hX2 := blk_ext (blk_old hX1 (.cells #[] 71)) hx2 (by omega)
  go_wp2_with fail
  go_loopw [6, 7] (fun vo vk wr => ∃ (k : Int) (rs : List VRay) (g cq m : Nat), vk = .int .i64 k ∧ vo = .slice (some ⟨g, 0, none⟩) m cq ∧ 0 ≤ k ∧ (m : Int) + k ≤ 8 ∧ Hid (rs.length = m) ∧ SOwn encRay wr w1.heap.size 71 (some ⟨g, 0, none⟩) cq rs ∧ wr.heap[w.heap.size]? = some (.cells #[.int .i64 0, .int .i64 0] 41 (0, 0)) ∧ RdU B (1 + 7 * (8 - k)) wr ∧ Ext B w1 wr) (fun _ vk _ => (intOf vk).toNat)
  case atStart => exact ⟨k0, [], _, 0, 0, rfl, rfl, k00, by omega, Lib.hid rfl, hO2, hX2, h2.mono (by omega), hE2⟩
  case round =>
    clear hO2 hX2 h2 hE2 hX1 h1
    obtain ⟨k, rs, g, cq, m, rfl, rfl, k0', mk, HM, hO, hX, hR, hE⟩ := hrel
    by_cases hk : 0 < k
    · go_wp2_with fail
      refine (ray_any B _ 40 _ hR (by omega) (by omega) (by omega)).mono ?_; rintro e w3 ⟨r0, r1, r2, rfl, _, _, _, h3, hx3⟩
      have hO3 := hO.ext hx3 hBw
      have hE3 := hE.trans hx3
      have hX3 := blk_ext hX hx3 (by omega)
      have hz3 := hE3.size
      go_wp2_with (at_builtin; refine wpList_append_lies _ rfl (.tmp 17) (.tmp 20) _ rfl w1.heap.size 71 i0 _ 3 24 Try.underlying43 HI.out.1 HI.out.2.1 HI.out.2.2.1 HI.out.2.2.2 rfl (by omega) (.slice (some ⟨g, 0, none⟩) m cq) m (encRay.flat rs) rfl (by have q := hO3.alloc (.cells (encRay.enc (r0, r1, r2)).toArray 71); unfold SOwn at q; rw [HM.out] at q; exact q) ⟨w3.heap.size, 0, none⟩ 1 1 (encRay.enc (r0, r1, r2)) rfl rfl (new_enc (E := encRay) w3 (r0, r1, r2) _) (encRay.one _) (by omega) (by simp only [maxLen]; omega) (by omega) (by simp; omega) _ rfl ?_; intro g5 cap5 w5 hown5 hgr5 hat5 hlt5)
      have hge : ∀ k, Value.ownBlock (.slice (some ⟨g, 0, none⟩) m cq) = some k → w1.heap.size ≤ k := SOwn.ge_base (hO3.alloc (.cells (encRay.enc (r0, r1, r2)).toArray 71))
      have hB5 := (h3.alloc (.cells (encRay.enc (r0, r1, r2)).toArray 71)).far hgr5 (fun k hk => by have := hge k hk; omega)
      have hE5 := (hE3.alloc (.cells (encRay.enc (r0, r1, r2)).toArray 71)).far_grown hgr5 hge
      have hX5 : w5.heap[w.heap.size]? = some (.cells #[.int .i64 0, .int .i64 0] 41 (0, 0)) := (hgr5.block w.heap.size (by simp; omega) (fun e => by have := hge _ e.symm; omega)).trans (blk_old hX3 (.cells (encRay.enc (r0, r1, r2)).toArray 71))
      go_wp2_with fail
      go_roundw
      case rel => exact ⟨k - 1, rs ++ [(r0, r1, r2)], g5, cap5, m + 1, by go_num, rfl, by omega, by push_cast; omega, Lib.hid (by rw [List.length_append, HM.out]; rfl), SOwn.snoc (E := encRay) (by rw [HM.out]; exact hown5), hX5, hB5.mono (by omega), hE5⟩
      case measure => simp [intOf]; omega
    · obtain rfl : k = 0 := by omega
      have hm8 : m ≤ 8 := by omega
      go_wp2_with fail
      refine (place_any B _ 14 _ hR (by omega) (by omega) (by omega)).mono ?_; rintro e w4 ⟨p0, p1, rfl, _, _, h4, hx4⟩
      have hO4 := hO.ext hx4 hBw
      have hE4 := hE.trans hx4
      have hX4 := blk_ext hX hx4 (by omega)
      have hz4 := hE4.size
      go_wp2_with fail
      refine (blocks_any B _ 14 _ h4 (by omega) (by omega) (by omega)).mono ?_; rintro e w5 ⟨xs, A, cp, rfl, hx6, hY5, h5, hx5⟩
      have hO5 := hO4.ext hx5 hBw
      have hE5 := hE4.trans hx5
      have hX5 := blk_ext hX4 hx5 (by omega)
      have hBl := hB1.trans (hE5.below (N := w.heap.size) (by omega) (by omega))
      obtain ⟨_, _, _, _, _⟩ := blk2 hX5
      go_wp2_with fail
      have tX1 := blk2_at0 (v := .int .i64 p0) hX5
      have tB1 := below_alls hBl (Nat.le_refl _) 0 (.int .i64 p0)
      have tO1 := hO5.set_far (C := w.heap.size) (i := 0) hz1 (.int .i64 p0)
      have tY1 := hY5.set_far (C := w.heap.size) (i := 0) (by omega) (.int .i64 p0)
      have tX2 := blk2_at1 (v := .int .i64 p1) tX1
      have tB2 := below_alls tB1 (Nat.le_refl _) 1 (.int .i64 p1)
      have tO2 := tO1.set_far (C := w.heap.size) (i := 1) hz1 (.int .i64 p1)
      have tY2 := tY1.set_far (C := w.heap.size) (i := 1) (by omega) (.int .i64 p1)
      clear tX1 tB1 tO1 tY1
      generalize (World.setCell (World.setCell w5 ⟨w.heap.size, 0, none⟩ (.int .i64 p0)) ⟨w.heap.size, 1, none⟩ (.int .i64 p1)) = wq at tX2 tB2 tO2 tY2 ⊢
      obtain ⟨x0_, x1_, _, _, _⟩ := blk2 tX2
      exact bodyPost_ret (v := .tuple #[.agg #[.int .i64 p0, .int .i64 p1], .slice A xs.length cp, .slice (some ⟨g, 0, none⟩) m cq]) (by simp [results, Try.results20, go_sem, x0_, x1_]) rfl ⟨p0, p1, xs, A, cp, rs, g, cq, (by rw [HM.out]), hx6, (by rw [HM.out]; exact hm8), tY2.mono (by omega), tO2.mono (by omega), tB2⟩
end Go.Proofs.Ytiicohbghpknhaa
