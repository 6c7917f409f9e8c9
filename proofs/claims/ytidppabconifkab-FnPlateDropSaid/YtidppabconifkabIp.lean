/- The program's PlatePut. -/
import Derived.Test.YtidppabconifkabIm
namespace Go.Proofs.Ytidppabconifkab
open Go Go.ChangeShapes Go.WideShapes Go.ChangeAt Go.RowKit
set_option linter.unusedSimpArgs false
set_option linter.unusedVariables false

theorem ins_is (base g cp vb i : Nat) (xs : List VMark) (x : VMark) {n M : Nat} {L : List VMark} (w : World) (hn : xs.length = n) (hi : i ≤ n) (hO : SOwn encMark w base 40 (some ⟨g, 0, none⟩) cp xs)
    (hv : w.heap[vb]? = some (.cells (encMark.enc x).toArray 40)) (hne : vb ≠ g) (hl : n ≤ 2000000) (hb : base ≤ w.heap.size) (hL : xs.take i ++ [x] ++ xs.drop i = L) (hM : L.length = M) :
    Calls Try.prog 53 #[.slice (some ⟨g, 0, none⟩) n cp, .int .i64 i, .slice (some ⟨vb, 0, none⟩) 1 1] w fun e w' => ∃ g4 cp4 : Nat, e = .returned (.slice (some ⟨g4, 0, none⟩) M cp4) ∧ SOwn encMark w' base 40 (some ⟨g4, 0, none⟩) cp4 L ∧ w.grownBy w' (some g) := by
  subst hM; subst hL; exact ins_any base g cp vb i xs x w hn hi hO hv hne hl hb
set_option maxRecDepth 100000 in
set_option maxHeartbeats 4000000 in
theorem iPP_any (bb off cap : Nat) (xs : List VMark) (a b : Int) (t : ByteArray) {n : Nat} (w : World) (hn : xs.length = n) (h : SRow encMark w (some ⟨bb, off, none⟩) xs) (hq : ∀ v ∈ xs, v.2.2.size ≤ maxLen) (ht : t.size ≤ maxLen) (hl : n ≤ 1999999) :
    Calls Try.prog 17 #[.slice (some ⟨bb, off, none⟩) n cap, .agg #[.int .i64 a, .int .i64 b, .string t]] w (MarksRet (PpOf xs (a, b, t)) w) := by
  have HN := Lib.hid hn
  have HQ := Lib.hid hq
  have H := Lib.hid h
  have HT := Lib.hid ht
  clear hn hq h ht
  obtain ⟨p, hp⟩ : ∃ p, plB xs = p := ⟨_, rfl⟩
  have HP : Hid (PlR xs p) := hp
  have HP2 := Lib.hid hp
  clear hp
  cases p
  · go_enter Try.func17, Try.ntmps17
    go_wp2_with fail
    refine (iPV_any _ cap xs _ HN.out (H.out.next (bel1 _ _)) HQ.out (by omega) HP.out).mono ?_; rintro e w1 ⟨rfl, hw1⟩
    go_wp2
    go_ret2
    exact ⟨[], false, none, 0, rfl, .inl ⟨HP2.out, rfl, rfl⟩, SOwn.nil _ _ _, (ownb hw1).2⟩
  · go_enter Try.func17, Try.ntmps17
    go_wp2_with fail
    refine (iPV_any _ cap xs _ HN.out (H.out.next (bel1 _ _)) HQ.out (by omega) HP.out).mono ?_; rintro e w1 ⟨rfl, hw1⟩
    obtain ⟨hP1, hB1⟩ := ownb hw1
    obtain ⟨c0, c1, c2, f0, f1, f2, z0⟩ := blk3 hP1
    go_wp2_with fail
    refine (mu_any _ cap xs a b _ HN.out (H.out.next hB1) (by omega)).mono ?_; rintro e w2 ⟨rfl, hw2⟩
    have hmu := muN_le a b xs
    rw [HN.out] at hmu
    obtain ⟨i, hi⟩ : ∃ i, muN a b xs = i := ⟨_, rfl⟩
    rw [hi] at hmu
    have HI := Lib.hid hi
    rw [HI.out]
    clear hi c0 c1 c2 f0 f1 f2 z0
    have hP2 := blk_next hP1 hw2
    have hB2 := bel_next hB1 hw2
    have hH2 := H.out.next hB2
    obtain ⟨L, hLL⟩ : ∃ L, putL (a, b, t) xs = L := ⟨_, rfl⟩
    have hpl : xs.take i ++ [(a, b, t)] ++ xs.drop i = L := by rw [← hLL, putL_is]; show _ = xs.take (muN a b xs) ++ _ ++ _; rw [HI.out]
    have hql : L.length = n + 1 := by rw [← hpl]; have := HN.out; simp; omega
    have hqs : ∀ v ∈ L, v.2.2.size ≤ maxLen := fun v hv => by rw [← hLL] at hv; rcases putL_mem hv with h | rfl; exact HQ.out v h; exact HT.out
    have HQS := Lib.hid hqs
    have HQL := Lib.hid hql
    have HPL := Lib.hid hpl
    have HLL := Lib.hid hLL
    clear hqs hql hpl hLL
    go_upto_region 4 with fail
    go_cut [7] (fun s7 wx => ∃ g4 cp4 : Nat, s7 = .slice (some ⟨g4, 0, none⟩) (n + 1) cp4 ∧ SOwn encMark wx w.heap.size 40 (some ⟨g4, 0, none⟩) cp4 L ∧ Below w.heap.size w wx)
    case first =>
      refine wp_region_held_drew (S := (fun w' => w'.heap[w.heap.size]? = some (.cells #[.int .i64 a, .int .i64 b, .string t] 40) ∧ SRow encMark w' (some ⟨bb, off, none⟩) xs ∧ Below w.heap.size w w')) (by kernel_rfl) ⟨hP2, hH2, hB2.drew⟩ (fun hHeld => ?_)
      obtain ⟨hP_0, hR_0, hB_0⟩ := id hHeld
      refine wpAnyH_take (i := 0) (oi := _) (v := ?_) rfl (by kernel_rfl) (by kernel_rfl) (by kernel_rfl) (fun _ _ _ h => h) (Or.inl ⟨by rfl, ?_⟩) (by assumption) ?_
      (rotate_left); (focus (intro wv hSw; (obtain ⟨qP, qR, qB⟩ := hSw);  go_simp; (try with_reducible rfl)))
      try simp only [Act.put, List.getElem_toArray, List.getElem_cons_succ, List.getElem_cons_zero, List.setIfInBounds_toArray, List.set_cons_zero, List.set_cons_succ]
      refine wpAnyH_take (i := 2) (oi := _) (v := ?_) rfl (by kernel_rfl) (by kernel_rfl) (by kernel_rfl) (fun _ _ _ h => h) (Or.inl ⟨by rfl, ?_⟩) (by assumption) ?_
      (rotate_left); (focus (intro wv hSw; (obtain ⟨qP, qR, qB⟩ := hSw);  go_simp; (try with_reducible rfl)))
      try simp only [Act.put, List.getElem_toArray, List.getElem_cons_succ, List.getElem_cons_zero, List.setIfInBounds_toArray, List.set_cons_zero, List.set_cons_succ]
      refine wpAnyH_take (i := 3) (oi := _) (v := ?_) rfl (by kernel_rfl) (by kernel_rfl) (by kernel_rfl) (fun _ _ _ h => h) (Or.inl ⟨by rfl, ?_⟩) (by assumption) ?_
      (rotate_left); (focus (intro wv hSw; (obtain ⟨qP, qR, qB⟩ := hSw); obtain ⟨u0, u1, u2, _, _, _, _⟩ := blk3 qP; go_simp; (try with_reducible rfl)))
      try simp only [Act.put, List.getElem_toArray, List.getElem_cons_succ, List.getElem_cons_zero, List.setIfInBounds_toArray, List.set_cons_zero, List.set_cons_succ]
      have hP_x := hP_0
      have hR_x := hR_0
      have hB_x := hB_0
      have hwz : w.heap.size < w2.heap.size := blk_lt hP2
      refine wpAnyH_ready (rs := [1, 4]) (by kernel_rfl) (by simp) ?_
      refine AllReadyH.cons (o := _) rfl (fun K hK => ?_) ?_
      · go_simp
        (go_at_call 54; refine (clone_any bb off cap xs _ HN.out hR_x (by omega)).mono ?_; rintro e w3 ⟨g, cp, rfl, hO_x, hw3⟩)
        have hgx : w2.heap.size ≤ g := by obtain ⟨z, z1, z2, _⟩ := hO_x.form.resolve_left (fun h => by cases h.1); simp only [Option.some.injEq, Addr.mk.injEq] at z1; (try simp at z2); omega
        rw [HN.out]
        have hO_x := hO_x.mono hB_x.size
        have hgz := (show g < w3.heap.size by obtain ⟨z, z1, _, z2⟩ := hO_x.form.resolve_left (fun h => by cases h.1); simp only [Option.some.injEq, Addr.mk.injEq] at z1; omega)
        have hP_x := blk_next hP_x hw3
        have hR_x := hR_x.next hw3
        have hB_x := bel_next hB_x hw3
        refine hK.out _ _ ⟨hP_x, hR_x, hB_x⟩ (fun hHeld => ?_)
        clear hK K
        try simp only [Act.put, List.getElem_toArray, List.getElem_cons_succ, List.getElem_cons_zero, List.setIfInBounds_toArray, List.set_cons_zero, List.set_cons_succ]
        refine wpAnyH_ready (rs := [4]) (by kernel_rfl) (by simp) ?_
        refine AllReadyH.cons (o := _) rfl (fun K hK => ?_) AllReadyH.nil
        go_simp
        have hN := blk_new w3 (.cells #[.int .i64 a, .int .i64 b, .string t] 40)
        have hO_x := hO_x.alloc (.cells #[.int .i64 a, .int .i64 b, .string t] 40)
        have hne : w3.heap.size ≠ g := by omega
        have hP_x := blk_old hP_x (.cells #[.int .i64 a, .int .i64 b, .string t] 40)
        have hR_x := hR_x.next (bel1 _ (.cells #[.int .i64 a, .int .i64 b, .string t] 40))
        have hB_x := hB_x.alloc hB_x.size (.cells #[.int .i64 a, .int .i64 b, .string t] 40)
        refine hK.out _ _ ⟨hP_x, hR_x, hB_x⟩ (fun hHeld => ?_)
        clear hK K
        try simp only [Act.put, List.getElem_toArray, List.getElem_cons_succ, List.getElem_cons_zero, List.setIfInBounds_toArray, List.set_cons_zero, List.set_cons_succ]
        refine wpAnyH_ready (rs := [5]) (by kernel_rfl) (by simp) ?_
        refine AllReadyH.cons (o := _) rfl (fun K hK => ?_) AllReadyH.nil
        go_simp
        (go_at_call 53; refine (ins_is w.heap.size g cp _ i xs (a, b, t) _ HN.out hmu hO_x hN hne (by omega) hB_x.size HPL.out HQL.out).mono ?_; rintro e w4 ⟨g4, cp4, rfl, hO4, hG4⟩)
        have hwg : w.heap.size < g := by omega
        have hB4 := hB_x.grown hG4 hB_x.size (fun j hj => by have := Option.some.inj hj; omega)
        have hP_x := blk_grown hP_x hG4 (fun e => by have := Option.some.inj e; omega)
        have hR_x := H.out.next hB4
        have hB_x := hB4
        refine hK.out _ _ ⟨hP_x, hR_x, hB_x⟩ (fun hHeld => ?_)
        clear hK K
        try simp only [Act.put, List.getElem_toArray, List.getElem_cons_succ, List.getElem_cons_zero, List.setIfInBounds_toArray, List.set_cons_zero, List.set_cons_succ]
        refine wpAnyH_take (i := 6) (oi := _) (v := ?_) rfl (by kernel_rfl) (by kernel_rfl) (by kernel_rfl) (fun _ _ _ h => h) (Or.inl ⟨by rfl, ?_⟩) (by assumption) ?_
        (rotate_left); (focus (intro wv hSw; (obtain ⟨qP, qR, qB⟩ := hSw);  go_simp; (try with_reducible rfl)))
        try simp only [Act.put, List.getElem_toArray, List.getElem_cons_succ, List.getElem_cons_zero, List.setIfInBounds_toArray, List.set_cons_zero, List.set_cons_succ]
        refine wpAnyH_done (by kernel_rfl) ?_ _
        go_wp2_with fail
        go_meet
        exact ⟨g4, cp4, rfl, hO4, hB4⟩
      · refine AllReadyH.cons (o := _) rfl (fun K hK => ?_) AllReadyH.nil
        go_simp
        have hN := blk_new w2.drew (.cells #[.int .i64 a, .int .i64 b, .string t] 40)
        have hP_x := blk_old hP_x (.cells #[.int .i64 a, .int .i64 b, .string t] 40)
        have hR_x := hR_x.next (bel1 _ (.cells #[.int .i64 a, .int .i64 b, .string t] 40))
        have hB_x := hB_x.alloc hB_x.size (.cells #[.int .i64 a, .int .i64 b, .string t] 40)
        refine hK.out _ _ ⟨hP_x, hR_x, hB_x⟩ (fun hHeld => ?_)
        clear hK K
        try simp only [Act.put, List.getElem_toArray, List.getElem_cons_succ, List.getElem_cons_zero, List.setIfInBounds_toArray, List.set_cons_zero, List.set_cons_succ]
        refine wpAnyH_ready (rs := [1]) (by kernel_rfl) (by simp) ?_
        refine AllReadyH.cons (o := _) rfl (fun K hK => ?_) AllReadyH.nil
        go_simp
        (go_at_call 54; refine (clone_any bb off cap xs _ HN.out hR_x (by omega)).mono ?_; rintro e w3 ⟨g, cp, rfl, hO_x, hw3⟩; have hO_y := hO_x)
        have hgx : w2.heap.size ≤ g := by obtain ⟨z, z1, z2, _⟩ := hO_x.form.resolve_left (fun h => by cases h.1); simp only [Option.some.injEq, Addr.mk.injEq] at z1; (try simp at z2); omega
        rw [HN.out]
        have hO_x := hO_x.mono hB_x.size
        have hgz := (show g < w3.heap.size by obtain ⟨z, z1, _, z2⟩ := hO_x.form.resolve_left (fun h => by cases h.1); simp only [Option.some.injEq, Addr.mk.injEq] at z1; omega)
        have hN := blk_next hN hw3
        have hne : w2.heap.size ≠ g := by obtain ⟨z, z1, z2, _⟩ := hO_y.form.resolve_left (fun h => by cases h.1); simp only [Option.some.injEq, Addr.mk.injEq] at z1; simp at z2; omega
        have hP_x := blk_next hP_x hw3
        have hR_x := hR_x.next hw3
        have hB_x := bel_next hB_x hw3
        refine hK.out _ _ ⟨hP_x, hR_x, hB_x⟩ (fun hHeld => ?_)
        clear hK K
        try simp only [Act.put, List.getElem_toArray, List.getElem_cons_succ, List.getElem_cons_zero, List.setIfInBounds_toArray, List.set_cons_zero, List.set_cons_succ]
        refine wpAnyH_ready (rs := [5]) (by kernel_rfl) (by simp) ?_
        refine AllReadyH.cons (o := _) rfl (fun K hK => ?_) AllReadyH.nil
        go_simp
        (go_at_call 53; refine (ins_is w.heap.size g cp _ i xs (a, b, t) _ HN.out hmu hO_x hN hne (by omega) hB_x.size HPL.out HQL.out).mono ?_; rintro e w4 ⟨g4, cp4, rfl, hO4, hG4⟩)
        have hwg : w.heap.size < g := by omega
        have hB4 := hB_x.grown hG4 hB_x.size (fun j hj => by have := Option.some.inj hj; omega)
        have hP_x := blk_grown hP_x hG4 (fun e => by have := Option.some.inj e; omega)
        have hR_x := H.out.next hB4
        have hB_x := hB4
        refine hK.out _ _ ⟨hP_x, hR_x, hB_x⟩ (fun hHeld => ?_)
        clear hK K
        try simp only [Act.put, List.getElem_toArray, List.getElem_cons_succ, List.getElem_cons_zero, List.setIfInBounds_toArray, List.set_cons_zero, List.set_cons_succ]
        refine wpAnyH_take (i := 6) (oi := _) (v := ?_) rfl (by kernel_rfl) (by kernel_rfl) (by kernel_rfl) (fun _ _ _ h => h) (Or.inl ⟨by rfl, ?_⟩) (by assumption) ?_
        (rotate_left); (focus (intro wv hSw; (obtain ⟨qP, qR, qB⟩ := hSw);  go_simp; (try with_reducible rfl)))
        try simp only [Act.put, List.getElem_toArray, List.getElem_cons_succ, List.getElem_cons_zero, List.setIfInBounds_toArray, List.set_cons_zero, List.set_cons_succ]
        refine wpAnyH_done (by kernel_rfl) ?_ _
        go_wp2_with fail
        go_meet
        exact ⟨g4, cp4, rfl, hO4, hB4⟩
    case rest =>
      obtain ⟨g4, cp4, rfl, hO4, hB_x⟩ := hcut
      clear hP2 hH2 hB2
      obtain ⟨r, hr⟩ : ∃ r, plB L = r := ⟨_, rfl⟩
      have HR : Hid (PlR L r) := hr
      have HR2 := Lib.hid hr
      clear hr
      go_wp2_with fail
      cases r
      · refine (iPV_any _ cp4 _ _ HQL.out hO4.row HQS.out (by omega) HR.out).mono ?_; rintro e w5 ⟨rfl, hw5⟩
        have hB5 := bel_next hB_x hw5
        go_wp2_with fail
        refine (clone_any bb off cap xs _ HN.out (H.out.next hB5) (by omega)).mono ?_; rintro e w6 ⟨g6, cp6, rfl, hO6, hw6⟩
        go_wp2_with fail
        go_ret2
        exact ⟨xs, false, some ⟨g6, 0, none⟩, cp6, rfl, .inr (.inr ⟨HP2.out, (by rw [HLL.out]; exact HR2.out), rfl, rfl⟩), hO6.mono hB5.size, bel_next hB5 hw6⟩
      · refine (iPV_any _ cp4 _ _ HQL.out hO4.row HQS.out (by omega) HR.out).mono ?_; rintro e w5 ⟨rfl, hw5⟩
        go_wp2_with fail
        go_ret2
        exact ⟨L, true, some ⟨g4, 0, none⟩, cp4, (by rw [HQL.out]; rfl), .inr (.inl ⟨HP2.out, (by rw [HLL.out]; exact HR2.out), HLL.out.symm, rfl⟩), hO4.next hw5, bel_next hB_x hw5⟩
end Go.Proofs.Ytidppabconifkab
