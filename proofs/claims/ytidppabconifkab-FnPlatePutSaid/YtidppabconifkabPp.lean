/- The model's PlatePut. -/
import Derived.Test.YtidppabconifkabPr
import Derived.Laws.AppendOwn
namespace Go.Proofs.Ytidppabconifkab
open Go Go.ChangeShapes Go.WideShapes Go.ChangeAt Go.RowKit
set_option linter.unusedSimpArgs false
set_option linter.unusedVariables false
set_option linter.unnecessarySimpa false

theorem SOwn.ne_low {α : Type} {E : Enc α} {w : World} {base : Nat} {T : TypeId} {A : Option Addr} {cap n k : Nat} {xs : List α} (h : SOwn E w base T A cap xs) (hk : k < base) : Value.ownBlock (.slice A n cap) ≠ some k := by
  rcases h.form with ⟨rfl, _⟩ | ⟨g, rfl, hb, _⟩
  · simp [Value.ownBlock]
  · simp [Value.ownBlock]; omega
theorem own_val {w : World} {base size n : Nat} {T : TypeId} {v : Value} {L : List Value} (h : w.ownsRow base T size v n L) : ∃ A cap, v = .slice A n cap := by
  rcases h.2 with ⟨e, e0⟩ | ⟨g, cap', cur, e, _⟩
  · exact ⟨none, 0, by rw [e, e0]⟩
  · exact ⟨_, _, e⟩
theorem blk_grown {w w' : World} {row : Option Nat} {k : Nat} {o : Obj} (h : w.heap[k]? = some o) (hg : w.grownBy w' row) (hne : row ≠ some k) : w'.heap[k]? = some o := by
  rw [hg.block k (blk_lt h) (fun e => hne e.symm)]; exact h
/-- One mark more of the plate, the new one ahead of the first that it comes before. -/
def putStep (m : VMark) (o : List VMark × Bool) (v : VMark) : List VMark × Bool := if o.2 = false ∧ rlB m.1 m.2.1 v.1 v.2.1 = true then (o.1 ++ [m] ++ [v], true) else (o.1 ++ [v], o.2)
def putO (m : VMark) (xs : List VMark) : List VMark × Bool := xs.foldl (putStep m) ([], false)
def putL (m : VMark) (xs : List VMark) : List VMark := if (putO m xs).2 = true then (putO m xs).1 else (putO m xs).1 ++ [m]
theorem putO_next {m : VMark} {xs : List VMark} {k : Nat} (hk : k < xs.length) : putO m (xs.take (k + 1)) = putStep m (putO m (xs.take k)) xs[k] := by
  rw [List.take_succ_eq_append_getElem hk]; unfold putO; rw [List.foldl_append]; rfl
theorem putO_len (m : VMark) : ∀ (xs : List VMark) (o : List VMark × Bool), (xs.foldl (putStep m) o).1.length ≤ o.1.length + 2 * xs.length
  | [], o => by simp
  | v :: xs, o => by
    have ih := putO_len m xs (putStep m o v)
    have : (putStep m o v).1.length ≤ o.1.length + 2 := by unfold putStep; split <;> simp
    simp only [List.foldl_cons, List.length_cons]; omega
theorem putO_mem (m : VMark) : ∀ (xs : List VMark) (o : List VMark × Bool) (v : VMark), v ∈ (xs.foldl (putStep m) o).1 → v ∈ o.1 ∨ v ∈ xs ∨ v = m
  | [], o, v, h => .inl h
  | u :: xs, o, v, h => by
    rcases putO_mem m xs (putStep m o u) v h with h1 | h1 | h1
    · unfold putStep at h1
      split at h1
      · simp at h1
        rcases h1 with h1 | h1 | h1
        · exact .inl h1
        · exact .inr (.inr h1)
        · exact .inr (.inl (by simp [h1]))
      · simp at h1
        rcases h1 with h1 | h1
        · exact .inl h1
        · exact .inr (.inl (by simp [h1]))
    · exact .inr (.inl (by simp [h1]))
    · exact .inr (.inr h1)
theorem putL_mem {m : VMark} {xs : List VMark} {v : VMark} (h : v ∈ putL m xs) : v ∈ xs ∨ v = m := by
  unfold putL at h
  have key : v ∈ (putO m xs).1 → v ∈ xs ∨ v = m := fun h1 => by
    rcases putO_mem m xs ([], false) v h1 with h2 | h2 | h2
    · simp at h2
    · exact .inl h2
    · exact .inr h2
  split at h
  · exact key h
  · rcases List.mem_append.1 h with h1 | h1
    · exact key h1
    · exact .inr (by simpa using h1)
def PpOf (xs : List VMark) (m : VMark) (l : List VMark) (ok : Bool) : Prop :=
  (plB xs = false ∧ l = [] ∧ ok = false) ∨ (plB xs = true ∧ plB (putL m xs) = true ∧ l = putL m xs ∧ ok = true) ∨ (plB xs = true ∧ plB (putL m xs) = false ∧ l = xs ∧ ok = false)
theorem PpOf.unique {xs : List VMark} {m : VMark} {l l' : List VMark} {ok ok' : Bool} (h : PpOf xs m l ok) (k : PpOf xs m l' ok') : l = l' ∧ ok = ok' := by
  rcases h with ⟨h1, rfl, rfl⟩ | ⟨h1, h2, rfl, rfl⟩ | ⟨h1, h2, rfl, rfl⟩ <;> rcases k with ⟨k1, k3, k4⟩ | ⟨k1, k2, k3, k4⟩ | ⟨k1, k2, k3, k4⟩ <;> simp_all
/-- A list that comes in, as cells behind its address. -/
theorem SRow.news {α : Type} {E : Enc α} {w : World} {ad : Addr} {xs : List α} (h : SRow E w (some ad) xs) : ∀ j u, (E.flat xs)[j]? = some u → w.cell? (ad.add j) = some u := by
  intro j u hu
  rcases h with rfl | ⟨b, off, e, hc⟩
  · simp [E.flat_nil] at hu
  · obtain rfl := Option.some.inj e
    have hk := E.pos
    have hj : j < xs.length * E.k := by
      have := (List.getElem?_eq_some_iff.1 hu).1
      rwa [E.flat_len] at this
    have hq : j / E.k < xs.length := by rw [Nat.div_lt_iff_lt_mul hk]; exact hj
    have hm : j / E.k * E.k + j % E.k = j := by rw [Nat.mul_comm]; exact Nat.div_add_mod j E.k
    have e1 := E.flat_at xs (j / E.k) hq (j % E.k) (Nat.mod_lt j hk)
    rw [hm, hu] at e1
    have := hc (j / E.k) hq (j % E.k) u e1.symm
    rw [hm] at this
    unfold Addr.add
    split
    · rename_i e; subst e; exact this
    · exact this
set_option maxRecDepth 100000 in
set_option maxHeartbeats 16000000 in
theorem sPP_any (A : Option Addr) (cap : Nat) (xs : List VMark) (a b : Int) (t : ByteArray) {n : Nat} (w : World) (hn : xs.length = n) (hnil : ∃ bb off : Nat, A = some ⟨bb, off, none⟩) (h : SRow encMark w A xs) (hq : ∀ v ∈ xs, v.2.2.size ≤ maxLen) (ht : t.size ≤ maxLen) (hl : n ≤ 2000000) :
    Calls Try.prog 18 #[.slice A n cap, .agg #[.int .i64 a, .int .i64 b, .string t]] w (MarksRet (PpOf xs (a, b, t)) w) := by
  have HN := Lib.hid hn
  have HQ := Lib.hid hq
  have H := Lib.hid h
  have HC := Lib.hid (And.intro hnil ht)
  clear hn hq h hnil ht
  obtain ⟨i0, hi0, hz0, hz1, hz2⟩ := info_parts infoMark
  have HI := Lib.hid (And.intro hi0 (And.intro hz0 (And.intro hz1 hz2)))
  clear hi0 hz0 hz1 hz2
  cases hp : plB xs
  · have HP := Lib.hid hp
    clear hp
    go_enter Try.func18, Try.ntmps18
    go_wp2_with fail
    refine (sPV_any A cap xs _ HN.out (H.out.next (bel1 _ _)) HQ.out hl HP.out).mono ?_; rintro e w1 ⟨rfl, hw1⟩
    obtain ⟨hP1, hB1⟩ := ownb hw1
    go_wp2
    go_ret2
    exact ⟨[], false, _, 0, rfl, .inl ⟨HP.out, rfl, rfl⟩, SOwn.empty (blk_new w1 _) hB1.size, hB1.alloc hB1.size _⟩
  · have HP := Lib.hid hp
    have hn24 : n ≤ 24 := by have := (plB_iff.1 hp).2; rw [HN.out] at this; exact this
    have HA : Hid (∀ wv, Below w.heap.size w wv → ∀ i (hi : i < xs.length), ∃ bb off : Nat, A = some ⟨bb, off, none⟩ ∧ wv.cell? ⟨bb, off + i * 3, none⟩ = some (.int .i64 xs[i].1) ∧ wv.cell? ⟨bb, off + i * 3 + 1, none⟩ = some (.int .i64 xs[i].2.1) ∧ wv.cell? ⟨bb, off + i * 3 + 2, none⟩ = some (.string xs[i].2.2)) := by
      intro wv hb i hi
      obtain ⟨bb, off, e, _, hc⟩ := rowMark (H.out.next hb) hi
      exact ⟨bb, off, e, hc⟩
    clear hp
    go_enter Try.func18, Try.ntmps18
    go_wp2_with fail
    refine (sPV_any A cap xs _ HN.out (H.out.next (bel1 _ _)) HQ.out hl HP.out).mono ?_; rintro e w1 ⟨rfl, hw1⟩
    obtain ⟨hP1, hB1⟩ := ownb hw1
    have hz1 := blk_lt hP1
    go_wp2_with fail
    go_loopw [6, 7, 8] (fun v vp vk wr => ∃ (k m : Nat) (B : Option Addr) (cp : Nat) (pt : Bool), vk = .int .i64 k ∧ vp = .bool pt ∧ v = .slice B m cp ∧ k ≤ n ∧ m ≤ 2 * k ∧ Hid ((putO (a, b, t) (xs.take k)).1.length = m) ∧ Hid ((putO (a, b, t) (xs.take k)).2 = pt) ∧ wr.heap[w.heap.size]? = some (.cells #[.int .i64 a, .int .i64 b, .string t] 40) ∧ SOwn encMark wr (w.heap.size + 1) 40 B cp (putO (a, b, t) (xs.take k)).1 ∧ Below w.heap.size w wr) (fun _ _ vk _ => (n - intOf vk).toNat)
    case atStart => exact ⟨0, 0, _, 0, false, rfl, rfl, rfl, by omega, by omega, (by show _ = _; rfl), (by show _ = _; rfl), blk_old hP1 _, SOwn.empty (blk_new w1 _) (by omega), hB1.alloc hB1.size _⟩
    case round =>
      clear hP1 hB1 hw1 hz1
      obtain ⟨k, m, B, cp, pt, rfl, rfl, rfl, k1, m1, HM, HT, hP, hO, hB⟩ := hrel
      have hcp := blk_lt hP
      by_cases hlt : k < n
      · have hk : k < xs.length := by rw [HN.out]; exact hlt
        have hk2 : (k : Int) < (n : Int) := by omega
        obtain ⟨bb, off, rfl, _⟩ := HA.out wr hB k hk
        have HA : Hid (∀ wv, Below w.heap.size w wv → ∀ i (hi : i < xs.length), wv.cell? ⟨bb, off + i * 3, none⟩ = some (.int .i64 xs[i].1) ∧ wv.cell? ⟨bb, off + i * 3 + 1, none⟩ = some (.int .i64 xs[i].2.1) ∧ wv.cell? ⟨bb, off + i * 3 + 2, none⟩ = some (.string xs[i].2.2)) := by
          intro wv hb i hi
          obtain ⟨_, _, e, hc⟩ := HA.out wv hb i hi
          simp only [Option.some.injEq, Addr.mk.injEq, and_true] at e
          obtain ⟨rfl, rfl⟩ := e
          exact hc
        have hnext := putO_next (m := (a, b, t)) hk
        unfold putStep at hnext
        cases pt
        · cases hrl : rlB a b xs[k].1 xs[k].2.1
          · have HR := Lib.hid hrl
            have HF : Hid (putO (a, b, t) (xs.take (k + 1)) = ((putO (a, b, t) (xs.take k)).1 ++ [xs[k]], false)) := by show _ = _; rw [hnext, hrl, if_neg (by simp), HT.out]
            clear hrl hnext
            go_wp2_with fail
            refine wp_region_held_drew (S := (fun w' => w'.heap[w.heap.size]? = some (.cells #[.int .i64 a, .int .i64 b, .string t] 40) ∧ SOwn encMark w' (w.heap.size + 1) 40 B cp (putO (a, b, t) (xs.take k)).1 ∧ Below w.heap.size w w')) (by kernel_rfl) ⟨hP, hO.drew, hB.drew⟩ (fun hHeld => ?_)
            obtain ⟨hP_0, hO_0, hB_0⟩ := id hHeld
            refine wpAnyH_take (i := 0) (oi := _) (v := ?_) rfl (by kernel_rfl) (by kernel_rfl) (by kernel_rfl) (fun _ _ _ h => h) (Or.inl ⟨by rfl, ?_⟩) (by assumption) ?_
            (rotate_left); (focus (intro wv hSw; (obtain ⟨qP, qO, qB⟩ := hSw);  go_simp; (try with_reducible rfl)))
            try simp only [Act.put, List.getElem_toArray, List.getElem_cons_succ, List.getElem_cons_zero, List.setIfInBounds_toArray, List.set_cons_zero, List.set_cons_succ]
            refine wpAnyH_take (i := 1) (oi := _) (v := ?_) rfl (by kernel_rfl) (by kernel_rfl) (by kernel_rfl) (fun _ _ _ h => h) (Or.inl ⟨by rfl, ?_⟩) (by assumption) ?_
            (rotate_left); (focus (intro wv hSw; (obtain ⟨qP, qO, qB⟩ := hSw);  go_simp; (try with_reducible rfl)))
            try simp only [Act.put, List.getElem_toArray, List.getElem_cons_succ, List.getElem_cons_zero, List.setIfInBounds_toArray, List.set_cons_zero, List.set_cons_succ]
            refine wpAnyH_take (i := 2) (oi := _) (v := ?_) rfl (by kernel_rfl) (by kernel_rfl) (by kernel_rfl) (fun _ _ _ h => h) (Or.inl ⟨by rfl, ?_⟩) (by assumption) ?_
            (rotate_left); (focus (intro wv hSw; (obtain ⟨qP, qO, qB⟩ := hSw);  go_simp; (try with_reducible rfl)))
            try simp only [Act.put, List.getElem_toArray, List.getElem_cons_succ, List.getElem_cons_zero, List.setIfInBounds_toArray, List.set_cons_zero, List.set_cons_succ]
            refine wpAnyH_take (i := 3) (oi := _) (v := ?_) rfl (by kernel_rfl) (by kernel_rfl) (by kernel_rfl) (fun _ _ _ h => h) (Or.inl ⟨by rfl, ?_⟩) (by assumption) ?_
            (rotate_left); (focus (intro wv hSw; (obtain ⟨qP, qO, qB⟩ := hSw);  go_simp; (try with_reducible rfl)))
            try simp only [Act.put, List.getElem_toArray, List.getElem_cons_succ, List.getElem_cons_zero, List.setIfInBounds_toArray, List.set_cons_zero, List.set_cons_succ]
            refine wpAnyH_take (i := 4) (oi := _) (v := ?_) rfl (by kernel_rfl) (by kernel_rfl) (by kernel_rfl) (fun _ _ _ h => h) (Or.inl ⟨by rfl, ?_⟩) (by assumption) ?_
            (rotate_left); (focus (intro wv hSw; (obtain ⟨qP, qO, qB⟩ := hSw); obtain ⟨p0, p1, p2, _, _, _, _⟩ := blk3 qP; go_simp; (try with_reducible rfl)))
            try simp only [Act.put, List.getElem_toArray, List.getElem_cons_succ, List.getElem_cons_zero, List.setIfInBounds_toArray, List.set_cons_zero, List.set_cons_succ]
            refine wpAnyH_take (i := 5) (oi := _) (v := ?_) rfl (by kernel_rfl) (by kernel_rfl) (by kernel_rfl) (fun _ _ _ h => h) (Or.inl ⟨by rfl, ?_⟩) (by assumption) ?_
            (rotate_left); (focus (intro wv hSw; (obtain ⟨qP, qO, qB⟩ := hSw);  go_simp; (try with_reducible rfl)))
            try simp only [Act.put, List.getElem_toArray, List.getElem_cons_succ, List.getElem_cons_zero, List.setIfInBounds_toArray, List.set_cons_zero, List.set_cons_succ]
            refine wpAnyH_take (i := 6) (oi := _) (v := ?_) rfl (by kernel_rfl) (by kernel_rfl) (by kernel_rfl) (fun _ _ _ h => h) (Or.inl ⟨by rfl, ?_⟩) (by assumption) ?_
            (rotate_left); (focus (intro wv hSw; (obtain ⟨qP, qO, qB⟩ := hSw);  go_simp; (try with_reducible rfl)))
            try simp only [Act.put, List.getElem_toArray, List.getElem_cons_succ, List.getElem_cons_zero, List.setIfInBounds_toArray, List.set_cons_zero, List.set_cons_succ]
            refine wpAnyH_take (i := 7) (oi := _) (v := ?_) rfl (by kernel_rfl) (by kernel_rfl) (by kernel_rfl) (fun _ _ _ h => h) (Or.inl ⟨by rfl, ?_⟩) (by assumption) ?_
            (rotate_left); (focus (intro wv hSw; (obtain ⟨qP, qO, qB⟩ := hSw);  go_simp; (try with_reducible rfl)))
            try simp only [Act.put, List.getElem_toArray, List.getElem_cons_succ, List.getElem_cons_zero, List.setIfInBounds_toArray, List.set_cons_zero, List.set_cons_succ]
            refine wpAnyH_take (i := 8) (oi := _) (v := ?_) rfl (by kernel_rfl) (by kernel_rfl) (by kernel_rfl) (fun _ _ _ h => h) (Or.inl ⟨by rfl, ?_⟩) (by assumption) ?_
            (rotate_left); (focus (intro wv hSw; (obtain ⟨qP, qO, qB⟩ := hSw);  go_simp; (try with_reducible rfl)))
            try simp only [Act.put, List.getElem_toArray, List.getElem_cons_succ, List.getElem_cons_zero, List.setIfInBounds_toArray, List.set_cons_zero, List.set_cons_succ]
            refine wpAnyH_take (i := 9) (oi := _) (v := ?_) rfl (by kernel_rfl) (by kernel_rfl) (by kernel_rfl) (fun _ _ _ h => h) (Or.inl ⟨by rfl, ?_⟩) (by assumption) ?_
            (rotate_left); (focus (intro wv hSw; (obtain ⟨qP, qO, qB⟩ := hSw); obtain ⟨k0, k1, k2⟩ := HA.out wv qB k hk; go_simp; (try with_reducible rfl)))
            try simp only [Act.put, List.getElem_toArray, List.getElem_cons_succ, List.getElem_cons_zero, List.setIfInBounds_toArray, List.set_cons_zero, List.set_cons_succ]
            refine wpAnyH_ready (rs := [10]) (by kernel_rfl) (by simp) ?_
            refine AllReadyH.cons (o := _) rfl (fun K hK => ?_) AllReadyH.nil
            go_simp
            (go_at_call 56; refine (srl_is _ HR.out).mono ?_; rintro e x0c ⟨rfl, hw_0c⟩)
            refine hK.out _ _ ⟨blk_next hP_0 hw_0c, hO_0.next hw_0c, bel_next hB_0 hw_0c⟩ (fun hHeld => ?_)
            clear hK K
            try simp only [Act.put, List.getElem_toArray, List.getElem_cons_succ, List.getElem_cons_zero, List.setIfInBounds_toArray, List.set_cons_zero, List.set_cons_succ]
            obtain ⟨hP_0c, hO_0c, hB_0c⟩ := id hHeld
            refine wpAnyH_take (i := 11) (oi := _) (v := ?_) rfl (by kernel_rfl) (by kernel_rfl) (by kernel_rfl) (fun _ _ _ h => h) (Or.inl ⟨by rfl, ?_⟩) (by assumption) ?_
            (rotate_left); (focus (intro wv hSw; (obtain ⟨qP, qO, qB⟩ := hSw);  go_simp; (try with_reducible rfl)))
            try simp only [Act.put, List.getElem_toArray, List.getElem_cons_succ, List.getElem_cons_zero, List.setIfInBounds_toArray, List.set_cons_zero, List.set_cons_succ]
            refine wpAnyH_done (by kernel_rfl) ?_ _
            obtain ⟨c0, c1, c2⟩ := HA.out _ hB_0c k hk
            have hcq := blk_lt hP_0c
            have hbz := hB_0c.size
            go_wp2_with (at_builtin; (refine wpList_append_lies _ rfl (.tmp 36) (.tmp 41) _ rfl (w.heap.size + 1) 40 i0 _ 3 32 Try.underlying37 HI.out.1 HI.out.2.1 HI.out.2.2.1 HI.out.2.2.2 rfl (by omega) (.slice B (m) cp) (m) (encMark.flat (putO (a, b, t) (xs.take k)).1) rfl (by have q := hO_0c.alloc (.cells (encMark.enc xs[k]).toArray 40); unfold SOwn at q; rw [HM.out] at q; exact q) ⟨x0c.heap.size, 0, none⟩ 1 1 (encMark.enc xs[k]) rfl rfl (new_enc x0c xs[k] _) (encMark.one _) (by omega) (by simp only [maxLen]; omega) (by omega) (by simp; omega) _ rfl ?_; intro g5 cap5 w5 hown5 hgr5 hat5 hlt5; have hP5 := blk_grown (blk_old hP_0c (.cells (encMark.enc xs[k]).toArray 40)) hgr5 (SOwn.ne_low (hO_0c.alloc (.cells (encMark.enc xs[k]).toArray 40)) (n := m) (by omega)); have hB5 := SOwn.below_grown ((hO_0c.alloc (.cells (encMark.enc xs[k]).toArray 40)).mono (base' := w.heap.size) (by omega)) (hB_0c.alloc hB_0c.size (.cells (encMark.enc xs[k]).toArray 40)) hgr5; have HM5 : Hid (((putO (a, b, t) (xs.take k)).1 ++ [xs[k]]).length = m + 1) := (by show _ = _; rw [List.length_append, HM.out]; rfl); have hO5 : SOwn encMark w5 (w.heap.size + 1) 40 (some ⟨g5, 0, none⟩) cap5 ((putO (a, b, t) (xs.take k)).1 ++ [xs[k]]) := SOwn.snoc (E := encMark) (xs := (putO (a, b, t) (xs.take k)).1) (x := xs[k]) (by rw [HM.out]; exact hown5)))
            go_roundw
            case rel => exact ⟨k + 1, m + 1, some ⟨g5, 0, none⟩, cap5, false, by go_num, rfl, rfl, by omega, by omega, (by show _ = _; rw [HF.out]; exact HM5.out), (by show _ = _; rw [HF.out]), hP5, by rw [HF.out]; exact hO5, hB5⟩
            case measure => simp [intOf]; omega
          · have HR := Lib.hid hrl
            have HF : Hid (putO (a, b, t) (xs.take (k + 1)) = ((putO (a, b, t) (xs.take k)).1 ++ [(a, b, t)] ++ [xs[k]], true)) := by show _ = _; rw [hnext, hrl, if_pos ⟨HT.out, rfl⟩]
            clear hrl hnext
            go_wp2_with fail
            refine wp_region_held_drew (S := (fun w' => w'.heap[w.heap.size]? = some (.cells #[.int .i64 a, .int .i64 b, .string t] 40) ∧ SOwn encMark w' (w.heap.size + 1) 40 B cp (putO (a, b, t) (xs.take k)).1 ∧ Below w.heap.size w w')) (by kernel_rfl) ⟨hP, hO.drew, hB.drew⟩ (fun hHeld => ?_)
            obtain ⟨hP_0, hO_0, hB_0⟩ := id hHeld
            refine wpAnyH_take (i := 0) (oi := _) (v := ?_) rfl (by kernel_rfl) (by kernel_rfl) (by kernel_rfl) (fun _ _ _ h => h) (Or.inl ⟨by rfl, ?_⟩) (by assumption) ?_
            (rotate_left); (focus (intro wv hSw; (obtain ⟨qP, qO, qB⟩ := hSw);  go_simp; (try with_reducible rfl)))
            try simp only [Act.put, List.getElem_toArray, List.getElem_cons_succ, List.getElem_cons_zero, List.setIfInBounds_toArray, List.set_cons_zero, List.set_cons_succ]
            refine wpAnyH_take (i := 1) (oi := _) (v := ?_) rfl (by kernel_rfl) (by kernel_rfl) (by kernel_rfl) (fun _ _ _ h => h) (Or.inl ⟨by rfl, ?_⟩) (by assumption) ?_
            (rotate_left); (focus (intro wv hSw; (obtain ⟨qP, qO, qB⟩ := hSw);  go_simp; (try with_reducible rfl)))
            try simp only [Act.put, List.getElem_toArray, List.getElem_cons_succ, List.getElem_cons_zero, List.setIfInBounds_toArray, List.set_cons_zero, List.set_cons_succ]
            refine wpAnyH_take (i := 2) (oi := _) (v := ?_) rfl (by kernel_rfl) (by kernel_rfl) (by kernel_rfl) (fun _ _ _ h => h) (Or.inl ⟨by rfl, ?_⟩) (by assumption) ?_
            (rotate_left); (focus (intro wv hSw; (obtain ⟨qP, qO, qB⟩ := hSw);  go_simp; (try with_reducible rfl)))
            try simp only [Act.put, List.getElem_toArray, List.getElem_cons_succ, List.getElem_cons_zero, List.setIfInBounds_toArray, List.set_cons_zero, List.set_cons_succ]
            refine wpAnyH_take (i := 3) (oi := _) (v := ?_) rfl (by kernel_rfl) (by kernel_rfl) (by kernel_rfl) (fun _ _ _ h => h) (Or.inl ⟨by rfl, ?_⟩) (by assumption) ?_
            (rotate_left); (focus (intro wv hSw; (obtain ⟨qP, qO, qB⟩ := hSw);  go_simp; (try with_reducible rfl)))
            try simp only [Act.put, List.getElem_toArray, List.getElem_cons_succ, List.getElem_cons_zero, List.setIfInBounds_toArray, List.set_cons_zero, List.set_cons_succ]
            refine wpAnyH_take (i := 4) (oi := _) (v := ?_) rfl (by kernel_rfl) (by kernel_rfl) (by kernel_rfl) (fun _ _ _ h => h) (Or.inl ⟨by rfl, ?_⟩) (by assumption) ?_
            (rotate_left); (focus (intro wv hSw; (obtain ⟨qP, qO, qB⟩ := hSw); obtain ⟨p0, p1, p2, _, _, _, _⟩ := blk3 qP; go_simp; (try with_reducible rfl)))
            try simp only [Act.put, List.getElem_toArray, List.getElem_cons_succ, List.getElem_cons_zero, List.setIfInBounds_toArray, List.set_cons_zero, List.set_cons_succ]
            refine wpAnyH_take (i := 5) (oi := _) (v := ?_) rfl (by kernel_rfl) (by kernel_rfl) (by kernel_rfl) (fun _ _ _ h => h) (Or.inl ⟨by rfl, ?_⟩) (by assumption) ?_
            (rotate_left); (focus (intro wv hSw; (obtain ⟨qP, qO, qB⟩ := hSw);  go_simp; (try with_reducible rfl)))
            try simp only [Act.put, List.getElem_toArray, List.getElem_cons_succ, List.getElem_cons_zero, List.setIfInBounds_toArray, List.set_cons_zero, List.set_cons_succ]
            refine wpAnyH_take (i := 6) (oi := _) (v := ?_) rfl (by kernel_rfl) (by kernel_rfl) (by kernel_rfl) (fun _ _ _ h => h) (Or.inl ⟨by rfl, ?_⟩) (by assumption) ?_
            (rotate_left); (focus (intro wv hSw; (obtain ⟨qP, qO, qB⟩ := hSw);  go_simp; (try with_reducible rfl)))
            try simp only [Act.put, List.getElem_toArray, List.getElem_cons_succ, List.getElem_cons_zero, List.setIfInBounds_toArray, List.set_cons_zero, List.set_cons_succ]
            refine wpAnyH_take (i := 7) (oi := _) (v := ?_) rfl (by kernel_rfl) (by kernel_rfl) (by kernel_rfl) (fun _ _ _ h => h) (Or.inl ⟨by rfl, ?_⟩) (by assumption) ?_
            (rotate_left); (focus (intro wv hSw; (obtain ⟨qP, qO, qB⟩ := hSw);  go_simp; (try with_reducible rfl)))
            try simp only [Act.put, List.getElem_toArray, List.getElem_cons_succ, List.getElem_cons_zero, List.setIfInBounds_toArray, List.set_cons_zero, List.set_cons_succ]
            refine wpAnyH_take (i := 8) (oi := _) (v := ?_) rfl (by kernel_rfl) (by kernel_rfl) (by kernel_rfl) (fun _ _ _ h => h) (Or.inl ⟨by rfl, ?_⟩) (by assumption) ?_
            (rotate_left); (focus (intro wv hSw; (obtain ⟨qP, qO, qB⟩ := hSw);  go_simp; (try with_reducible rfl)))
            try simp only [Act.put, List.getElem_toArray, List.getElem_cons_succ, List.getElem_cons_zero, List.setIfInBounds_toArray, List.set_cons_zero, List.set_cons_succ]
            refine wpAnyH_take (i := 9) (oi := _) (v := ?_) rfl (by kernel_rfl) (by kernel_rfl) (by kernel_rfl) (fun _ _ _ h => h) (Or.inl ⟨by rfl, ?_⟩) (by assumption) ?_
            (rotate_left); (focus (intro wv hSw; (obtain ⟨qP, qO, qB⟩ := hSw); obtain ⟨k0, k1, k2⟩ := HA.out wv qB k hk; go_simp; (try with_reducible rfl)))
            try simp only [Act.put, List.getElem_toArray, List.getElem_cons_succ, List.getElem_cons_zero, List.setIfInBounds_toArray, List.set_cons_zero, List.set_cons_succ]
            refine wpAnyH_ready (rs := [10]) (by kernel_rfl) (by simp) ?_
            refine AllReadyH.cons (o := _) rfl (fun K hK => ?_) AllReadyH.nil
            go_simp
            (go_at_call 56; refine (srl_is _ HR.out).mono ?_; rintro e x0c ⟨rfl, hw_0c⟩)
            refine hK.out _ _ ⟨blk_next hP_0 hw_0c, hO_0.next hw_0c, bel_next hB_0 hw_0c⟩ (fun hHeld => ?_)
            clear hK K
            try simp only [Act.put, List.getElem_toArray, List.getElem_cons_succ, List.getElem_cons_zero, List.setIfInBounds_toArray, List.set_cons_zero, List.set_cons_succ]
            obtain ⟨hP_0c, hO_0c, hB_0c⟩ := id hHeld
            refine wpAnyH_take (i := 11) (oi := _) (v := ?_) rfl (by kernel_rfl) (by kernel_rfl) (by kernel_rfl) (fun _ _ _ h => h) (Or.inl ⟨by rfl, ?_⟩) (by assumption) ?_
            (rotate_left); (focus (intro wv hSw; (obtain ⟨qP, qO, qB⟩ := hSw);  go_simp; (try with_reducible rfl)))
            try simp only [Act.put, List.getElem_toArray, List.getElem_cons_succ, List.getElem_cons_zero, List.setIfInBounds_toArray, List.set_cons_zero, List.set_cons_succ]
            refine wpAnyH_done (by kernel_rfl) ?_ _
            have hcq := blk_lt hP_0c
            have hbz := hB_0c.size
            obtain ⟨p0, p1, p2, _, _, _, _⟩ := blk3 hP_0c
            go_wp2_with (at_builtin; first | (refine wpList_append_lies _ rfl (.tmp 32) (.tmp 34) _ rfl (w.heap.size + 1) 40 i0 _ 3 32 Try.underlying37 HI.out.1 HI.out.2.1 HI.out.2.2.1 HI.out.2.2.2 rfl (by omega) (.slice B (m) cp) (m) (encMark.flat (putO (a, b, t) (xs.take k)).1) rfl (by have q := hO_0c.alloc (.cells (encMark.enc (a, b, t)).toArray 40); unfold SOwn at q; rw [HM.out] at q; exact q) ⟨x0c.heap.size, 0, none⟩ 1 1 (encMark.enc (a, b, t)) rfl rfl (new_enc x0c (a, b, t) _) (encMark.one _) (by omega) (by simp only [maxLen]; omega) (by omega) (by simp; omega) _ rfl ?_; intro g5 cap5 w5 hown5 hgr5 hat5 hlt5; have hP5 := blk_grown (blk_old hP_0c (.cells (encMark.enc (a, b, t)).toArray 40)) hgr5 (SOwn.ne_low (hO_0c.alloc (.cells (encMark.enc (a, b, t)).toArray 40)) (n := m) (by omega)); have hB5 := SOwn.below_grown ((hO_0c.alloc (.cells (encMark.enc (a, b, t)).toArray 40)).mono (base' := w.heap.size) (by omega)) (hB_0c.alloc hB_0c.size (.cells (encMark.enc (a, b, t)).toArray 40)) hgr5; have HM5 : Hid (((putO (a, b, t) (xs.take k)).1 ++ [(a, b, t)]).length = m + 1) := (by show _ = _; rw [List.length_append, HM.out]; rfl); have hO5 : SOwn encMark w5 (w.heap.size + 1) 40 (some ⟨g5, 0, none⟩) cap5 ((putO (a, b, t) (xs.take k)).1 ++ [(a, b, t)]) := SOwn.snoc (E := encMark) (xs := (putO (a, b, t) (xs.take k)).1) (x := (a, b, t)) (by rw [HM.out]; exact hown5); obtain ⟨c0, c1, c2⟩ := HA.out _ hB5 k hk; have hbz5 := hB5.size; have hcq5 := blk_lt hP5) | (refine wpList_append_lies _ rfl (.tmp 36) (.tmp 41) _ rfl (w.heap.size + 1) 40 i0 _ 3 32 Try.underlying37 HI.out.1 HI.out.2.1 HI.out.2.2.1 HI.out.2.2.2 rfl (by omega) (.slice (some ⟨g5, 0, none⟩) (m + 1) cap5) (m + 1) (encMark.flat ((putO (a, b, t) (xs.take k)).1 ++ [(a, b, t)])) rfl (by have q := hO5.alloc (.cells (encMark.enc xs[k]).toArray 40); unfold SOwn at q; rw [HM5.out] at q; exact q) ⟨w5.heap.size, 0, none⟩ 1 1 (encMark.enc xs[k]) rfl rfl (new_enc w5 xs[k] _) (encMark.one _) (by omega) (by simp only [maxLen]; omega) (by omega) (by simp; omega) _ rfl ?_; intro g6 cap6 w6 hown6 hgr6 hat6 hlt6; have hP6 := blk_grown (blk_old hP5 (.cells (encMark.enc xs[k]).toArray 40)) hgr6 (SOwn.ne_low (hO5.alloc (.cells (encMark.enc xs[k]).toArray 40)) (n := (m + 1)) (by omega)); have hB6 := SOwn.below_grown ((hO5.alloc (.cells (encMark.enc xs[k]).toArray 40)).mono (base' := w.heap.size) (by omega)) (hB5.alloc hB5.size (.cells (encMark.enc xs[k]).toArray 40)) hgr6; have HM6 : Hid ((((putO (a, b, t) (xs.take k)).1 ++ [(a, b, t)]) ++ [xs[k]]).length = (m + 1) + 1) := (by show _ = _; rw [List.length_append, HM5.out]; rfl); have hO6 : SOwn encMark w6 (w.heap.size + 1) 40 (some ⟨g6, 0, none⟩) cap6 (((putO (a, b, t) (xs.take k)).1 ++ [(a, b, t)]) ++ [xs[k]]) := SOwn.snoc (E := encMark) (xs := ((putO (a, b, t) (xs.take k)).1 ++ [(a, b, t)])) (x := xs[k]) (by rw [HM5.out]; exact hown6)))
            go_roundw
            case rel => exact ⟨k + 1, m + 2, some ⟨g6, 0, none⟩, cap6, true, by go_num, rfl, rfl, by omega, by omega, (by show _ = _; rw [HF.out]; exact HM6.out), (by show _ = _; rw [HF.out]), hP6, by rw [HF.out]; exact hO6, hB6⟩
            case measure => simp [intOf]; omega
        · have HF : Hid (putO (a, b, t) (xs.take (k + 1)) = ((putO (a, b, t) (xs.take k)).1 ++ [xs[k]], true)) := by show _ = _; rw [hnext, if_neg (by rw [HT.out]; simp), HT.out]
          clear hnext
          go_wp2_with fail
          refine wp_region_held_drew (S := (fun w' => w'.heap[w.heap.size]? = some (.cells #[.int .i64 a, .int .i64 b, .string t] 40) ∧ SOwn encMark w' (w.heap.size + 1) 40 B cp (putO (a, b, t) (xs.take k)).1 ∧ Below w.heap.size w w')) (by kernel_rfl) ⟨hP, hO.drew, hB.drew⟩ (fun hHeld => ?_)
          obtain ⟨hP_0, hO_0, hB_0⟩ := id hHeld
          refine wpAnyH_take (i := 0) (oi := _) (v := ?_) rfl (by kernel_rfl) (by kernel_rfl) (by kernel_rfl) (fun _ _ _ h => h) (Or.inl ⟨by rfl, ?_⟩) (by assumption) ?_
          (rotate_left); (focus (intro wv hSw; (obtain ⟨qP, qO, qB⟩ := hSw);  go_simp; (try with_reducible rfl)))
          try simp only [Act.put, List.getElem_toArray, List.getElem_cons_succ, List.getElem_cons_zero, List.setIfInBounds_toArray, List.set_cons_zero, List.set_cons_succ]
          refine wpAnyH_take (i := 1) (oi := _) (v := ?_) rfl (by kernel_rfl) (by kernel_rfl) (by kernel_rfl) (fun _ _ _ h => h) (Or.inl ⟨by rfl, ?_⟩) (by assumption) ?_
          (rotate_left); (focus (intro wv hSw; (obtain ⟨qP, qO, qB⟩ := hSw);  go_simp; (try with_reducible rfl)))
          try simp only [Act.put, List.getElem_toArray, List.getElem_cons_succ, List.getElem_cons_zero, List.setIfInBounds_toArray, List.set_cons_zero, List.set_cons_succ]
          refine wpAnyH_take (i := 2) (oi := _) (v := ?_) rfl (by kernel_rfl) (by kernel_rfl) (by kernel_rfl) (fun _ _ _ h => h) (Or.inl ⟨by rfl, ?_⟩) (by assumption) ?_
          (rotate_left); (focus (intro wv hSw; (obtain ⟨qP, qO, qB⟩ := hSw);  go_simp; (try with_reducible rfl)))
          try simp only [Act.put, List.getElem_toArray, List.getElem_cons_succ, List.getElem_cons_zero, List.setIfInBounds_toArray, List.set_cons_zero, List.set_cons_succ]
          refine wpAnyH_take (i := 3) (oi := _) (v := undef) rfl (by kernel_rfl) (by kernel_rfl) (by kernel_rfl) (fun _ _ _ h => h) (Or.inr ⟨by kernel_rfl, rfl⟩) (by assumption) ?_
          try simp only [Act.put, List.getElem_toArray, List.getElem_cons_succ, List.getElem_cons_zero, List.setIfInBounds_toArray, List.set_cons_zero, List.set_cons_succ]
          refine wpAnyH_take (i := 4) (oi := _) (v := undef) rfl (by kernel_rfl) (by kernel_rfl) (by kernel_rfl) (fun _ _ _ h => h) (Or.inr ⟨by kernel_rfl, rfl⟩) (by assumption) ?_
          try simp only [Act.put, List.getElem_toArray, List.getElem_cons_succ, List.getElem_cons_zero, List.setIfInBounds_toArray, List.set_cons_zero, List.set_cons_succ]
          refine wpAnyH_take (i := 5) (oi := _) (v := undef) rfl (by kernel_rfl) (by kernel_rfl) (by kernel_rfl) (fun _ _ _ h => h) (Or.inr ⟨by kernel_rfl, rfl⟩) (by assumption) ?_
          try simp only [Act.put, List.getElem_toArray, List.getElem_cons_succ, List.getElem_cons_zero, List.setIfInBounds_toArray, List.set_cons_zero, List.set_cons_succ]
          refine wpAnyH_take (i := 6) (oi := _) (v := undef) rfl (by kernel_rfl) (by kernel_rfl) (by kernel_rfl) (fun _ _ _ h => h) (Or.inr ⟨by kernel_rfl, rfl⟩) (by assumption) ?_
          try simp only [Act.put, List.getElem_toArray, List.getElem_cons_succ, List.getElem_cons_zero, List.setIfInBounds_toArray, List.set_cons_zero, List.set_cons_succ]
          refine wpAnyH_take (i := 7) (oi := _) (v := undef) rfl (by kernel_rfl) (by kernel_rfl) (by kernel_rfl) (fun _ _ _ h => h) (Or.inr ⟨by kernel_rfl, rfl⟩) (by assumption) ?_
          try simp only [Act.put, List.getElem_toArray, List.getElem_cons_succ, List.getElem_cons_zero, List.setIfInBounds_toArray, List.set_cons_zero, List.set_cons_succ]
          refine wpAnyH_take (i := 8) (oi := _) (v := undef) rfl (by kernel_rfl) (by kernel_rfl) (by kernel_rfl) (fun _ _ _ h => h) (Or.inr ⟨by kernel_rfl, rfl⟩) (by assumption) ?_
          try simp only [Act.put, List.getElem_toArray, List.getElem_cons_succ, List.getElem_cons_zero, List.setIfInBounds_toArray, List.set_cons_zero, List.set_cons_succ]
          refine wpAnyH_take (i := 9) (oi := _) (v := undef) rfl (by kernel_rfl) (by kernel_rfl) (by kernel_rfl) (fun _ _ _ h => h) (Or.inr ⟨by kernel_rfl, rfl⟩) (by assumption) ?_
          try simp only [Act.put, List.getElem_toArray, List.getElem_cons_succ, List.getElem_cons_zero, List.setIfInBounds_toArray, List.set_cons_zero, List.set_cons_succ]
          refine wpAnyH_take (i := 10) (oi := _) (v := undef) rfl (by kernel_rfl) (by kernel_rfl) (by kernel_rfl) (fun _ _ _ h => h) (Or.inr ⟨by kernel_rfl, rfl⟩) (by assumption) ?_
          try simp only [Act.put, List.getElem_toArray, List.getElem_cons_succ, List.getElem_cons_zero, List.setIfInBounds_toArray, List.set_cons_zero, List.set_cons_succ]
          refine wpAnyH_take (i := 11) (oi := _) (v := ?_) rfl (by kernel_rfl) (by kernel_rfl) (by kernel_rfl) (fun _ _ _ h => h) (Or.inl ⟨by rfl, ?_⟩) (by assumption) ?_
          (rotate_left); (focus (intro wv hSw; (obtain ⟨qP, qO, qB⟩ := hSw);  go_simp; (try with_reducible rfl)))
          try simp only [Act.put, List.getElem_toArray, List.getElem_cons_succ, List.getElem_cons_zero, List.setIfInBounds_toArray, List.set_cons_zero, List.set_cons_succ]
          refine wpAnyH_done (by kernel_rfl) ?_ _
          obtain ⟨c0, c1, c2⟩ := HA.out _ hB_0 k hk
          have hcq := blk_lt hP_0
          have hbz := hB_0.size
          go_wp2_with (at_builtin; (refine wpList_append_lies _ rfl (.tmp 36) (.tmp 41) _ rfl (w.heap.size + 1) 40 i0 _ 3 32 Try.underlying37 HI.out.1 HI.out.2.1 HI.out.2.2.1 HI.out.2.2.2 rfl (by omega) (.slice B (m) cp) (m) (encMark.flat (putO (a, b, t) (xs.take k)).1) rfl (by have q := hO_0.alloc (.cells (encMark.enc xs[k]).toArray 40); unfold SOwn at q; rw [HM.out] at q; exact q) ⟨wr.drew.heap.size, 0, none⟩ 1 1 (encMark.enc xs[k]) rfl rfl (new_enc wr.drew xs[k] _) (encMark.one _) (by omega) (by simp only [maxLen]; omega) (by omega) (by simp; omega) _ rfl ?_; intro g5 cap5 w5 hown5 hgr5 hat5 hlt5; have hP5 := blk_grown (blk_old hP_0 (.cells (encMark.enc xs[k]).toArray 40)) hgr5 (SOwn.ne_low (hO_0.alloc (.cells (encMark.enc xs[k]).toArray 40)) (n := m) (by omega)); have hB5 := SOwn.below_grown ((hO_0.alloc (.cells (encMark.enc xs[k]).toArray 40)).mono (base' := w.heap.size) (by omega)) (hB_0.alloc hB_0.size (.cells (encMark.enc xs[k]).toArray 40)) hgr5; have HM5 : Hid (((putO (a, b, t) (xs.take k)).1 ++ [xs[k]]).length = m + 1) := (by show _ = _; rw [List.length_append, HM.out]; rfl); have hO5 : SOwn encMark w5 (w.heap.size + 1) 40 (some ⟨g5, 0, none⟩) cap5 ((putO (a, b, t) (xs.take k)).1 ++ [xs[k]]) := SOwn.snoc (E := encMark) (xs := (putO (a, b, t) (xs.take k)).1) (x := xs[k]) (by rw [HM.out]; exact hown5)))
          go_roundw
          case rel => exact ⟨k + 1, m + 1, some ⟨g5, 0, none⟩, cap5, true, by go_num, rfl, rfl, by omega, by omega, (by show _ = _; rw [HF.out]; exact HM5.out), (by show _ = _; rw [HF.out]), hP5, by rw [HF.out]; exact hO5, hB5⟩
          case measure => simp [intOf]; omega
      · have hk2 : ¬ (k : Int) < (n : Int) := by omega
        have hkx : xs.take k = xs := List.take_of_length_le (by rw [HN.out]; omega)
        have hOx := hO
        rw [hkx] at hOx
        have HMx : Hid ((putO (a, b, t) xs).1.length = m) := by show _ = _; rw [← HM.out, hkx]
        have HTx : Hid ((putO (a, b, t) xs).2 = pt) := by show _ = _; rw [← HT.out, hkx]
        clear hkx hO HM HT
        cases pt
        · have HPL : Hid (putL (a, b, t) xs = (putO (a, b, t) xs).1 ++ [(a, b, t)]) := by show _ = _; unfold putL; rw [HTx.out]; rfl
          have hbz := hB.size
          obtain ⟨p0, p1, p2, _, _, _, _⟩ := blk3 hP
          go_wp2_with (at_builtin; (refine wpList_append_lies _ rfl (.tmp 45) (.tmp 47) _ rfl (w.heap.size + 1) 40 i0 _ 3 32 Try.underlying37 HI.out.1 HI.out.2.1 HI.out.2.2.1 HI.out.2.2.2 rfl (by omega) (.slice B (m) cp) (m) (encMark.flat (putO (a, b, t) xs).1) rfl (by have q := hOx.alloc (.cells (encMark.enc (a, b, t)).toArray 40); unfold SOwn at q; rw [HMx.out] at q; exact q) ⟨wr.heap.size, 0, none⟩ 1 1 (encMark.enc (a, b, t)) rfl rfl (new_enc wr (a, b, t) _) (encMark.one _) (by omega) (by simp only [maxLen]; omega) (by omega) (by simp; omega) _ rfl ?_; intro g5 cap5 w5 hown5 hgr5 hat5 hlt5; have hP5 := blk_grown (blk_old hP (.cells (encMark.enc (a, b, t)).toArray 40)) hgr5 (SOwn.ne_low (hOx.alloc (.cells (encMark.enc (a, b, t)).toArray 40)) (n := m) (by omega)); have hB5 := SOwn.below_grown ((hOx.alloc (.cells (encMark.enc (a, b, t)).toArray 40)).mono (base' := w.heap.size) (by omega)) (hB.alloc hB.size (.cells (encMark.enc (a, b, t)).toArray 40)) hgr5; have HM5 : Hid (((putO (a, b, t) xs).1 ++ [(a, b, t)]).length = m + 1) := (by show _ = _; rw [List.length_append, HMx.out]; rfl); have hO5 : SOwn encMark w5 (w.heap.size + 1) 40 (some ⟨g5, 0, none⟩) cap5 ((putO (a, b, t) xs).1 ++ [(a, b, t)]) := SOwn.snoc (E := encMark) (xs := (putO (a, b, t) xs).1) (x := (a, b, t)) (by rw [HMx.out]; exact hown5)))
          obtain ⟨r, hr⟩ : ∃ r, plB (putL (a, b, t) xs) = r := ⟨_, rfl⟩
          have HPR : Hid (PlR ((putO (a, b, t) xs).1 ++ [(a, b, t)]) r) := by show plB _ = _; rw [← HPL.out]; exact hr
          have HPB := Lib.hid hr
          clear hr
          have HQ2 : Hid (∀ v ∈ ((putO (a, b, t) xs).1 ++ [(a, b, t)]), v.2.2.size ≤ maxLen) := by
            show ∀ v ∈ _, _
            rw [← HPL.out]
            intro v hv
            rcases putL_mem hv with h1 | h1
            · exact HQ.out v h1
            · rw [h1]; exact HC.out.2
          refine (sPV_any _ cap5 ((putO (a, b, t) xs).1 ++ [(a, b, t)]) (n := (m + 1)) _ HM5.out hO5.row HQ2.out (by omega) HPR.out).mono ?_; rintro e wv ⟨rfl, hwv⟩
          have hOv := hO5.next hwv
          have hBv := bel_next hB5 hwv
          have hbv := hBv.size
          cases r
          · obtain ⟨bb, off, hAe⟩ := HC.out.1
            subst hAe
            have hsrc := SRow.news (H.out.next (hBv.alloc hbv (.cells #[] 40)))
            have hOe := SOwn.empty (E := encMark) (blk_new wv (.cells #[] 40)) hbv
            go_wp2_with (at_builtin; refine wpList_append_own _ rfl (.tmp 52) (.tmp 53) _ rfl w.heap.size 40 i0 _ 3 32 Try.underlying37 HI.out.1 HI.out.2.1 HI.out.2.2.1 HI.out.2.2.2 rfl (by omega) (.slice (some ⟨wv.heap.size, 0, none⟩) 0 0) 0 [] rfl hOe ⟨bb, off, none⟩ n cap (encMark.flat xs) rfl (by rw [encMark.flat_len, HN.out]; rfl) hsrc (encMark.flat_one _) (by simp only [maxLen]; omega) (by omega) (by simp; omega) ?_; intro v9 w9 hown9 hgr9 hnil9)
            have hn9 : 0 + n = n := by omega
            rw [hn9] at hown9
            obtain ⟨A9, cap9, rfl⟩ := own_val hown9
            go_ret2
            have hO9 : SOwn encMark w9 w.heap.size 40 A9 cap9 xs := SOwn.of_raw hown9 (by simp) HN.out
            exact ⟨xs, false, A9, cap9, by rw [HN.out]; rfl, .inr (.inr ⟨HP.out, HPB.out, rfl, rfl⟩), hO9, SOwn.below_grown hOe (hBv.alloc hbv _) hgr9⟩
          · go_wp2_with fail
            go_ret2
            exact ⟨((putO (a, b, t) xs).1 ++ [(a, b, t)]), true, some ⟨g5, 0, none⟩, cap5, by rw [HM5.out]; rfl, .inr (.inl ⟨HP.out, HPB.out, HPL.out.symm, rfl⟩), hOv.mono (by omega), hBv⟩
        · have HPL : Hid (putL (a, b, t) xs = (putO (a, b, t) xs).1) := by show _ = _; unfold putL; rw [HTx.out]; rfl
          go_wp2_with fail
          obtain ⟨r, hr⟩ : ∃ r, plB (putL (a, b, t) xs) = r := ⟨_, rfl⟩
          have HPR : Hid (PlR (putO (a, b, t) xs).1 r) := by show plB _ = _; rw [← HPL.out]; exact hr
          have HPB := Lib.hid hr
          clear hr
          have HQ2 : Hid (∀ v ∈ (putO (a, b, t) xs).1, v.2.2.size ≤ maxLen) := by
            show ∀ v ∈ _, _
            rw [← HPL.out]
            intro v hv
            rcases putL_mem hv with h1 | h1
            · exact HQ.out v h1
            · rw [h1]; exact HC.out.2
          refine (sPV_any _ cp (putO (a, b, t) xs).1 (n := m) _ HMx.out hOx.row HQ2.out (by omega) HPR.out).mono ?_; rintro e wv ⟨rfl, hwv⟩
          have hOv := hOx.next hwv
          have hBv := bel_next hB hwv
          have hbv := hBv.size
          cases r
          · obtain ⟨bb, off, hAe⟩ := HC.out.1
            subst hAe
            have hsrc := SRow.news (H.out.next (hBv.alloc hbv (.cells #[] 40)))
            have hOe := SOwn.empty (E := encMark) (blk_new wv (.cells #[] 40)) hbv
            go_wp2_with (at_builtin; refine wpList_append_own _ rfl (.tmp 52) (.tmp 53) _ rfl w.heap.size 40 i0 _ 3 32 Try.underlying37 HI.out.1 HI.out.2.1 HI.out.2.2.1 HI.out.2.2.2 rfl (by omega) (.slice (some ⟨wv.heap.size, 0, none⟩) 0 0) 0 [] rfl hOe ⟨bb, off, none⟩ n cap (encMark.flat xs) rfl (by rw [encMark.flat_len, HN.out]; rfl) hsrc (encMark.flat_one _) (by simp only [maxLen]; omega) (by omega) (by simp; omega) ?_; intro v9 w9 hown9 hgr9 hnil9)
            have hn9 : 0 + n = n := by omega
            rw [hn9] at hown9
            obtain ⟨A9, cap9, rfl⟩ := own_val hown9
            go_ret2
            have hO9 : SOwn encMark w9 w.heap.size 40 A9 cap9 xs := SOwn.of_raw hown9 (by simp) HN.out
            exact ⟨xs, false, A9, cap9, by rw [HN.out]; rfl, .inr (.inr ⟨HP.out, HPB.out, rfl, rfl⟩), hO9, SOwn.below_grown hOe (hBv.alloc hbv _) hgr9⟩
          · go_wp2_with fail
            go_ret2
            exact ⟨(putO (a, b, t) xs).1, true, B, cp, by rw [HMx.out]; rfl, .inr (.inl ⟨HP.out, HPB.out, HPL.out.symm, rfl⟩), hOv.mono (by omega), hBv⟩
end Go.Proofs.Ytidppabconifkab
