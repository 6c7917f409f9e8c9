/- Contracts of chapter 1: what a text reads as. -/
import Derived.Test.YtpkjgepchincjaaDoorTc
namespace Go.Proofs.YtpkjgepchincjaaDoor
open Go Go.ChangeShapes Go.WideShapes Go.ChangeAt Go.RowKit
set_option linter.unusedSimpArgs false
set_option linter.unusedVariables false
set_option linter.unnecessarySimpa false

theorem dsum_is (s : ByteArray) (v : Int) (w : World) (h : s.size ≤ 4) (e : dsum s.data.toList = v) : Calls Tryd.prog 25 #[.string s] w fun e w' => e = .returned (.int .i64 v) ∧ Below w.heap.size w w' := by
  subst e; exact dsum_any s w h
theorem pair_is (s : ByteArray) (v : Int) (w : World) (h : s.size = 2) (e : pairI s.data.toList = v) : Calls Tryd.prog 29 #[.string s] w fun e w' => e = .returned (.int .i64 v) ∧ Below w.heap.size w w' := by
  subst e; exact pair_any s w h
theorem ext_list (s : ByteArray) (a b : Nat) : (s.extract a b).data.toList = (s.data.toList.drop a).take (b - a) := by
  simp [ByteArray.data_extract, List.extract_eq_take_drop]
def RDRet (l : List UInt8) (w : World) (e : Ending) (w' : World) : Prop := ∃ (y m d : Int) (ok : Bool), e = .returned (.tuple #[.agg #[.int .i64 y, .int .i64 m, .int .i64 d], .bool ok]) ∧ ReadIs l y m d ok ∧ Below w.heap.size w w'
theorem bs_of {s : ByteArray} {l : List UInt8} (h : s.data.toList = l) : bs l = s := by rw [← h]; exact bs_list s
theorem bs_toList (l : List UInt8) : (bs l).toList = l := by rw [ByteArray.toList_eq]; simp [bs]
theorem bs_ne {l : List UInt8} {s : ByteArray} (h : l ≠ s.data.toList) : (!(bs l).toList == s.toList) = true := by
  rw [bs_toList, ByteArray.toList_eq]; simpa using h
set_option maxRecDepth 100000 in
set_option maxHeartbeats 8000000 in
theorem iRD_any (s : ByteArray) (w : World) (hs : s.size ≤ maxLen) (ht : Tab w) : Calls Tryd.prog 12 #[.string s] w (RDRet s.data.toList w) := by
  by_cases h10 : s.size = 10
  · have HT := Lib.hid ht
    clear ht
    have hlen : s.data.toList.length = 10 := by simpa using h10
    have HL := Lib.hid hlen
    clear hlen
    obtain ⟨y, hy⟩ : ∃ y, impY s.data.toList = y := ⟨_, rfl⟩
    obtain ⟨m, hm⟩ : ∃ y, impM s.data.toList = y := ⟨_, rfl⟩
    obtain ⟨d, hd⟩ : ∃ y, impD s.data.toList = y := ⟨_, rfl⟩
    have HY := Lib.hid hy
    have HM := Lib.hid hm
    have HD := Lib.hid hd
    clear hy hm hd
    have z1 : (s.extract 0 4).size = 4 := by simp [ByteArray.size_extract, h10]
    have z2 : (s.extract 5 7).size = 2 := by simp [ByteArray.size_extract, h10]
    have z3 : (s.extract 8 10).size = 2 := by simp [ByteArray.size_extract, h10]
    go_enter Tryd.func12, Tryd.ntmps12
    go_wp2_with fail
    go_upto_region 4 with fail
    go_cut [4] (fun s4 wx => ∃ C : Nat, s4 = .pointer (some ⟨C, 0, none⟩) ∧ wx.heap[C]? = some (.cells #[.int .i64 y, .int .i64 m, .int .i64 d] 24) ∧ wx.heap[w.heap.size]? = some (.cells #[.int .i64 0, .int .i64 0, .int .i64 0] 24) ∧ Below w.heap.size w wx)
    case first =>
      refine wp_region_held_drew (S := (fun w' => w'.heap[w.heap.size]? = some (.cells #[.int .i64 0, .int .i64 0, .int .i64 0] 24) ∧ Below w.heap.size w w')) (by kernel_rfl) ⟨blk_new w _, (bel1 w _).drew⟩ (fun hHeld => ?_)
      obtain ⟨hP_0, hB_0⟩ := id hHeld
      refine wpAnyH_take (i := 0) (oi := _) (v := ?_) rfl (by kernel_rfl) (by kernel_rfl) (by kernel_rfl) (fun _ _ _ h => h) (Or.inl ⟨by rfl, ?_⟩) (by assumption) ?_
      (rotate_left); (focus (intro wv hSw; (obtain ⟨qP, qB⟩ := hSw); obtain ⟨_, _, _, _, _, _, _⟩ := blk3 qP; go_simp; (try with_reducible rfl)))
      try simp only [Act.put, List.getElem_toArray, List.getElem_cons_succ, List.getElem_cons_zero, List.setIfInBounds_toArray, List.set_cons_zero, List.set_cons_succ]
      refine wpAnyH_take (i := 1) (oi := _) (v := ?_) rfl (by kernel_rfl) (by kernel_rfl) (by kernel_rfl) (fun _ _ _ h => h) (Or.inl ⟨by rfl, ?_⟩) (by assumption) ?_
      (rotate_left); (focus (intro wv hSw; (obtain ⟨qP, qB⟩ := hSw); obtain ⟨_, _, _, _, _, _, _⟩ := blk3 qP; go_simp; (try with_reducible rfl)))
      try simp only [Act.put, List.getElem_toArray, List.getElem_cons_succ, List.getElem_cons_zero, List.setIfInBounds_toArray, List.set_cons_zero, List.set_cons_succ]
      refine wpAnyH_take (i := 3) (oi := _) (v := ?_) rfl (by kernel_rfl) (by kernel_rfl) (by kernel_rfl) (fun _ _ _ h => h) (Or.inl ⟨by rfl, ?_⟩) (by assumption) ?_
      (rotate_left); (focus (intro wv hSw; (obtain ⟨qP, qB⟩ := hSw); obtain ⟨_, _, _, _, _, _, _⟩ := blk3 qP; go_simp; (try with_reducible rfl)))
      try simp only [Act.put, List.getElem_toArray, List.getElem_cons_succ, List.getElem_cons_zero, List.setIfInBounds_toArray, List.set_cons_zero, List.set_cons_succ]
      refine wpAnyH_take (i := 4) (oi := _) (v := ?_) rfl (by kernel_rfl) (by kernel_rfl) (by kernel_rfl) (fun _ _ _ h => h) (Or.inl ⟨by rfl, ?_⟩) (by assumption) ?_
      (rotate_left); (focus (intro wv hSw; (obtain ⟨qP, qB⟩ := hSw); obtain ⟨_, _, _, _, _, _, _⟩ := blk3 qP; go_simp; (try with_reducible rfl)))
      try simp only [Act.put, List.getElem_toArray, List.getElem_cons_succ, List.getElem_cons_zero, List.setIfInBounds_toArray, List.set_cons_zero, List.set_cons_succ]
      refine wpAnyH_take (i := 6) (oi := _) (v := ?_) rfl (by kernel_rfl) (by kernel_rfl) (by kernel_rfl) (fun _ _ _ h => h) (Or.inl ⟨by rfl, ?_⟩) (by assumption) ?_
      (rotate_left); (focus (intro wv hSw; (obtain ⟨qP, qB⟩ := hSw); obtain ⟨_, _, _, _, _, _, _⟩ := blk3 qP; go_simp; (try with_reducible rfl)))
      try simp only [Act.put, List.getElem_toArray, List.getElem_cons_succ, List.getElem_cons_zero, List.setIfInBounds_toArray, List.set_cons_zero, List.set_cons_succ]
      refine wpAnyH_take (i := 7) (oi := _) (v := ?_) rfl (by kernel_rfl) (by kernel_rfl) (by kernel_rfl) (fun _ _ _ h => h) (Or.inl ⟨by rfl, ?_⟩) (by assumption) ?_
      (rotate_left); (focus (intro wv hSw; (obtain ⟨qP, qB⟩ := hSw); obtain ⟨_, _, _, _, _, _, _⟩ := blk3 qP; go_simp; (try with_reducible rfl)))
      try simp only [Act.put, List.getElem_toArray, List.getElem_cons_succ, List.getElem_cons_zero, List.setIfInBounds_toArray, List.set_cons_zero, List.set_cons_succ]
      refine wpAnyH_ready (rs := [2, 10]) (by kernel_rfl) (by simp) ?_
      refine AllReadyH.cons (o := _) rfl (fun K hK => ?_) (AllReadyH.cons (o := _) rfl (fun K hK => ?_) (AllReadyH.nil))
      · go_simp
        (go_at_call 25; refine (dsum_is _ y _ (by omega) (by have := HY.out; unfold impY at this; rw [ext_list]; simpa using this)).mono ?_; rintro e x0c ⟨rfl, hw_0c⟩)
        refine hK.out _ _ ⟨blk_next hP_0 hw_0c, bel_next hB_0 hw_0c⟩ (fun hHeld => ?_)
        clear hK K
        try simp only [Act.put, List.getElem_toArray, List.getElem_cons_succ, List.getElem_cons_zero, List.setIfInBounds_toArray, List.set_cons_zero, List.set_cons_succ]
        obtain ⟨hP_0c, hB_0c⟩ := id hHeld
        refine wpAnyH_ready (rs := [5, 10]) (by kernel_rfl) (by simp) ?_
        refine AllReadyH.cons (o := _) rfl (fun K hK => ?_) (AllReadyH.cons (o := _) rfl (fun K hK => ?_) (AllReadyH.nil))
        · go_simp
          (go_at_call 25; refine (dsum_is _ m _ (by omega) (by have := HM.out; unfold impM at this; rw [ext_list]; simpa using this)).mono ?_; rintro e x0cc ⟨rfl, hw_0cc⟩)
          refine hK.out _ _ ⟨blk_next hP_0c hw_0cc, bel_next hB_0c hw_0cc⟩ (fun hHeld => ?_)
          clear hK K
          try simp only [Act.put, List.getElem_toArray, List.getElem_cons_succ, List.getElem_cons_zero, List.setIfInBounds_toArray, List.set_cons_zero, List.set_cons_succ]
          obtain ⟨hP_0cc, hB_0cc⟩ := id hHeld
          refine wpAnyH_ready (rs := [8, 10]) (by kernel_rfl) (by simp) ?_
          refine AllReadyH.cons (o := _) rfl (fun K hK => ?_) (AllReadyH.cons (o := _) rfl (fun K hK => ?_) (AllReadyH.nil))
          · go_simp
            (go_at_call 25; refine (dsum_is _ d _ (by omega) (by have := HD.out; unfold impD at this; rw [ext_list, List.take_of_length_le (by simp [HL.out])]; simpa using this)).mono ?_; rintro e x0ccc ⟨rfl, hw_0ccc⟩)
            refine hK.out _ _ ⟨blk_next hP_0cc hw_0ccc, bel_next hB_0cc hw_0ccc⟩ (fun hHeld => ?_)
            clear hK K
            try simp only [Act.put, List.getElem_toArray, List.getElem_cons_succ, List.getElem_cons_zero, List.setIfInBounds_toArray, List.set_cons_zero, List.set_cons_succ]
            obtain ⟨hP_0ccc, hB_0ccc⟩ := id hHeld
            refine wpAnyH_take (i := 9) (oi := _) (v := ?_) rfl (by kernel_rfl) (by kernel_rfl) (by kernel_rfl) (fun _ _ _ h => h) (Or.inl ⟨by rfl, ?_⟩) (by assumption) ?_
            (rotate_left); (focus (intro wv hSw; (obtain ⟨qP, qB⟩ := hSw); obtain ⟨_, _, _, _, _, _, _⟩ := blk3 qP; go_simp; (try with_reducible rfl)))
            try simp only [Act.put, List.getElem_toArray, List.getElem_cons_succ, List.getElem_cons_zero, List.setIfInBounds_toArray, List.set_cons_zero, List.set_cons_succ]
            refine wpAnyH_ready (rs := [10]) (by kernel_rfl) (by simp) ?_
            refine AllReadyH.cons (o := _) rfl (fun K hK => ?_) (AllReadyH.nil)
            go_simp
            refine hK.out _ _ ⟨blk_old hP_0ccc _, hB_0ccc.alloc (by have := hB_0ccc.size; omega) _⟩ (fun hHeld => ?_)
            clear hK K
            try simp only [Act.put, List.getElem_toArray, List.getElem_cons_succ, List.getElem_cons_zero, List.setIfInBounds_toArray, List.set_cons_zero, List.set_cons_succ]
            obtain ⟨hP_0ccca, hB_0ccca⟩ := id hHeld
            have hD_0ccca : (x0ccc.alloc (.cells #[.int .i64 0, .int .i64 0, .int .i64 0] 24)).heap[x0ccc.heap.size]? = some (.cells #[.int .i64 0, .int .i64 0, .int .i64 0] 24) := by have := blk_new (x0ccc) (.cells #[.int .i64 0, .int .i64 0, .int .i64 0] 24); simpa using this
            have zDP_0ccca : w.heap.size < x0ccc.heap.size := by have := blk_lt hP_0ccc; simpa using this
            have zDB_0ccca : w.heap.size ≤ x0ccc.heap.size := by have := hB_0ccc.size; simpa using this
            refine wpAnyH_ready (rs := [11]) (by kernel_rfl) (by simp) ?_
            refine AllReadyH.cons (o := _) rfl (fun K hK => ?_) (AllReadyH.nil)
            obtain ⟨sc0_0cccac, sc1_0cccac, sc2_0cccac, sf0_0cccac, sf1_0cccac, sf2_0cccac, sz_0cccac⟩ := blk3 hD_0ccca
            go_simp
            refine hK.out _ _ ⟨blk_old hP_0ccc _, hB_0ccc.alloc (by have := hB_0ccc.size; omega) _⟩ (fun hHeld => ?_)
            clear hK K
            try simp only [Act.put, List.getElem_toArray, List.getElem_cons_succ, List.getElem_cons_zero, List.setIfInBounds_toArray, List.set_cons_zero, List.set_cons_succ]
            obtain ⟨hP_0cccac, hB_0cccac⟩ := id hHeld
            have hD_0cccac : (x0ccc.alloc (.cells #[.int .i64 y, .int .i64 m, .int .i64 d] 24)).heap[x0ccc.heap.size]? = some (.cells #[.int .i64 y, .int .i64 m, .int .i64 d] 24) := by have := blk_new (x0ccc) (.cells #[.int .i64 y, .int .i64 m, .int .i64 d] 24); simpa using this
            refine wpAnyH_done (by kernel_rfl) ?_ _
            go_wp2_with fail
            go_meet
            exact ⟨_, rfl, hD_0cccac, hP_0cccac, hB_0cccac⟩
          · go_simp
            refine hK.out _ _ ⟨blk_old hP_0cc _, hB_0cc.alloc (by have := hB_0cc.size; omega) _⟩ (fun hHeld => ?_)
            clear hK K
            try simp only [Act.put, List.getElem_toArray, List.getElem_cons_succ, List.getElem_cons_zero, List.setIfInBounds_toArray, List.set_cons_zero, List.set_cons_succ]
            obtain ⟨hP_0cca, hB_0cca⟩ := id hHeld
            have hD_0cca : (x0cc.alloc (.cells #[.int .i64 0, .int .i64 0, .int .i64 0] 24)).heap[x0cc.heap.size]? = some (.cells #[.int .i64 0, .int .i64 0, .int .i64 0] 24) := by have := blk_new (x0cc) (.cells #[.int .i64 0, .int .i64 0, .int .i64 0] 24); simpa using this
            have zDP_0cca : w.heap.size < x0cc.heap.size := by have := blk_lt hP_0cc; simpa using this
            have zDB_0cca : w.heap.size ≤ x0cc.heap.size := by have := hB_0cc.size; simpa using this
            refine wpAnyH_ready (rs := [8]) (by kernel_rfl) (by simp) ?_
            refine AllReadyH.cons (o := _) rfl (fun K hK => ?_) (AllReadyH.nil)
            go_simp
            (go_at_call 25; refine (dsum_is _ d _ (by omega) (by have := HD.out; unfold impD at this; rw [ext_list, List.take_of_length_le (by simp [HL.out])]; simpa using this)).mono ?_; rintro e x0ccac ⟨rfl, hw_0ccac⟩)
            refine hK.out _ _ ⟨blk_next hP_0cca hw_0ccac, bel_next hB_0cca hw_0ccac⟩ (fun hHeld => ?_)
            clear hK K
            try simp only [Act.put, List.getElem_toArray, List.getElem_cons_succ, List.getElem_cons_zero, List.setIfInBounds_toArray, List.set_cons_zero, List.set_cons_succ]
            obtain ⟨hP_0ccac, hB_0ccac⟩ := id hHeld
            have hD_0ccac := blk_next hD_0cca hw_0ccac
            refine wpAnyH_take (i := 9) (oi := _) (v := ?_) rfl (by kernel_rfl) (by kernel_rfl) (by kernel_rfl) (fun _ _ _ h => h) (Or.inl ⟨by rfl, ?_⟩) (by assumption) ?_
            (rotate_left); (focus (intro wv hSw; (obtain ⟨qP, qB⟩ := hSw); obtain ⟨_, _, _, _, _, _, _⟩ := blk3 qP; go_simp; (try with_reducible rfl)))
            try simp only [Act.put, List.getElem_toArray, List.getElem_cons_succ, List.getElem_cons_zero, List.setIfInBounds_toArray, List.set_cons_zero, List.set_cons_succ]
            refine wpAnyH_ready (rs := [11]) (by kernel_rfl) (by simp) ?_
            refine AllReadyH.cons (o := _) rfl (fun K hK => ?_) (AllReadyH.nil)
            obtain ⟨sc0_0ccacc, sc1_0ccacc, sc2_0ccacc, sf0_0ccacc, sf1_0ccacc, sf2_0ccacc, sz_0ccacc⟩ := blk3 hD_0ccac
            go_simp
            refine hK.out _ _ ⟨blk_store3 hP_0ccac (Nat.ne_of_lt zDP_0cca) _ _ _, store3_bel hB_0ccac zDB_0cca _ _ _⟩ (fun hHeld => ?_)
            clear hK K
            try simp only [Act.put, List.getElem_toArray, List.getElem_cons_succ, List.getElem_cons_zero, List.setIfInBounds_toArray, List.set_cons_zero, List.set_cons_succ]
            obtain ⟨hP_0ccacc, hB_0ccacc⟩ := id hHeld
            have hD_0ccacc := blk3_put (a := .int .i64 y) (b := .int .i64 m) (c := .int .i64 d) hD_0ccac
            refine wpAnyH_done (by kernel_rfl) ?_ _
            go_wp2_with fail
            go_meet
            exact ⟨_, rfl, hD_0ccacc, hP_0ccacc, hB_0ccacc⟩
        · go_simp
          refine hK.out _ _ ⟨blk_old hP_0c _, hB_0c.alloc (by have := hB_0c.size; omega) _⟩ (fun hHeld => ?_)
          clear hK K
          try simp only [Act.put, List.getElem_toArray, List.getElem_cons_succ, List.getElem_cons_zero, List.setIfInBounds_toArray, List.set_cons_zero, List.set_cons_succ]
          obtain ⟨hP_0ca, hB_0ca⟩ := id hHeld
          have hD_0ca : (x0c.alloc (.cells #[.int .i64 0, .int .i64 0, .int .i64 0] 24)).heap[x0c.heap.size]? = some (.cells #[.int .i64 0, .int .i64 0, .int .i64 0] 24) := by have := blk_new (x0c) (.cells #[.int .i64 0, .int .i64 0, .int .i64 0] 24); simpa using this
          have zDP_0ca : w.heap.size < x0c.heap.size := by have := blk_lt hP_0c; simpa using this
          have zDB_0ca : w.heap.size ≤ x0c.heap.size := by have := hB_0c.size; simpa using this
          refine wpAnyH_ready (rs := [5]) (by kernel_rfl) (by simp) ?_
          refine AllReadyH.cons (o := _) rfl (fun K hK => ?_) (AllReadyH.nil)
          go_simp
          (go_at_call 25; refine (dsum_is _ m _ (by omega) (by have := HM.out; unfold impM at this; rw [ext_list]; simpa using this)).mono ?_; rintro e x0cac ⟨rfl, hw_0cac⟩)
          refine hK.out _ _ ⟨blk_next hP_0ca hw_0cac, bel_next hB_0ca hw_0cac⟩ (fun hHeld => ?_)
          clear hK K
          try simp only [Act.put, List.getElem_toArray, List.getElem_cons_succ, List.getElem_cons_zero, List.setIfInBounds_toArray, List.set_cons_zero, List.set_cons_succ]
          obtain ⟨hP_0cac, hB_0cac⟩ := id hHeld
          have hD_0cac := blk_next hD_0ca hw_0cac
          refine wpAnyH_ready (rs := [8]) (by kernel_rfl) (by simp) ?_
          refine AllReadyH.cons (o := _) rfl (fun K hK => ?_) (AllReadyH.nil)
          go_simp
          (go_at_call 25; refine (dsum_is _ d _ (by omega) (by have := HD.out; unfold impD at this; rw [ext_list, List.take_of_length_le (by simp [HL.out])]; simpa using this)).mono ?_; rintro e x0cacc ⟨rfl, hw_0cacc⟩)
          refine hK.out _ _ ⟨blk_next hP_0cac hw_0cacc, bel_next hB_0cac hw_0cacc⟩ (fun hHeld => ?_)
          clear hK K
          try simp only [Act.put, List.getElem_toArray, List.getElem_cons_succ, List.getElem_cons_zero, List.setIfInBounds_toArray, List.set_cons_zero, List.set_cons_succ]
          obtain ⟨hP_0cacc, hB_0cacc⟩ := id hHeld
          have hD_0cacc := blk_next hD_0cac hw_0cacc
          refine wpAnyH_take (i := 9) (oi := _) (v := ?_) rfl (by kernel_rfl) (by kernel_rfl) (by kernel_rfl) (fun _ _ _ h => h) (Or.inl ⟨by rfl, ?_⟩) (by assumption) ?_
          (rotate_left); (focus (intro wv hSw; (obtain ⟨qP, qB⟩ := hSw); obtain ⟨_, _, _, _, _, _, _⟩ := blk3 qP; go_simp; (try with_reducible rfl)))
          try simp only [Act.put, List.getElem_toArray, List.getElem_cons_succ, List.getElem_cons_zero, List.setIfInBounds_toArray, List.set_cons_zero, List.set_cons_succ]
          refine wpAnyH_ready (rs := [11]) (by kernel_rfl) (by simp) ?_
          refine AllReadyH.cons (o := _) rfl (fun K hK => ?_) (AllReadyH.nil)
          obtain ⟨sc0_0caccc, sc1_0caccc, sc2_0caccc, sf0_0caccc, sf1_0caccc, sf2_0caccc, sz_0caccc⟩ := blk3 hD_0cacc
          go_simp
          refine hK.out _ _ ⟨blk_store3 hP_0cacc (Nat.ne_of_lt zDP_0ca) _ _ _, store3_bel hB_0cacc zDB_0ca _ _ _⟩ (fun hHeld => ?_)
          clear hK K
          try simp only [Act.put, List.getElem_toArray, List.getElem_cons_succ, List.getElem_cons_zero, List.setIfInBounds_toArray, List.set_cons_zero, List.set_cons_succ]
          obtain ⟨hP_0caccc, hB_0caccc⟩ := id hHeld
          have hD_0caccc := blk3_put (a := .int .i64 y) (b := .int .i64 m) (c := .int .i64 d) hD_0cacc
          refine wpAnyH_done (by kernel_rfl) ?_ _
          go_wp2_with fail
          go_meet
          exact ⟨_, rfl, hD_0caccc, hP_0caccc, hB_0caccc⟩
      · go_simp
        refine hK.out _ _ ⟨blk_old hP_0 _, hB_0.alloc (by have := hB_0.size; omega) _⟩ (fun hHeld => ?_)
        clear hK K
        try simp only [Act.put, List.getElem_toArray, List.getElem_cons_succ, List.getElem_cons_zero, List.setIfInBounds_toArray, List.set_cons_zero, List.set_cons_succ]
        obtain ⟨hP_0a, hB_0a⟩ := id hHeld
        have hD_0a : ((w.alloc (.cells #[.int .i64 0, .int .i64 0, .int .i64 0] 24)).drew.alloc (.cells #[.int .i64 0, .int .i64 0, .int .i64 0] 24)).heap[w.heap.size + 1]? = some (.cells #[.int .i64 0, .int .i64 0, .int .i64 0] 24) := by have := blk_new ((w.alloc (.cells #[.int .i64 0, .int .i64 0, .int .i64 0] 24)).drew) (.cells #[.int .i64 0, .int .i64 0, .int .i64 0] 24); simpa using this
        have zDP_0a : w.heap.size < w.heap.size + 1 := by have := blk_lt hP_0; simpa using this
        have zDB_0a : w.heap.size ≤ w.heap.size + 1 := by have := hB_0.size; simpa using this
        refine wpAnyH_ready (rs := [2]) (by kernel_rfl) (by simp) ?_
        refine AllReadyH.cons (o := _) rfl (fun K hK => ?_) (AllReadyH.nil)
        go_simp
        (go_at_call 25; refine (dsum_is _ y _ (by omega) (by have := HY.out; unfold impY at this; rw [ext_list]; simpa using this)).mono ?_; rintro e x0ac ⟨rfl, hw_0ac⟩)
        refine hK.out _ _ ⟨blk_next hP_0a hw_0ac, bel_next hB_0a hw_0ac⟩ (fun hHeld => ?_)
        clear hK K
        try simp only [Act.put, List.getElem_toArray, List.getElem_cons_succ, List.getElem_cons_zero, List.setIfInBounds_toArray, List.set_cons_zero, List.set_cons_succ]
        obtain ⟨hP_0ac, hB_0ac⟩ := id hHeld
        have hD_0ac := blk_next hD_0a hw_0ac
        refine wpAnyH_ready (rs := [5]) (by kernel_rfl) (by simp) ?_
        refine AllReadyH.cons (o := _) rfl (fun K hK => ?_) (AllReadyH.nil)
        go_simp
        (go_at_call 25; refine (dsum_is _ m _ (by omega) (by have := HM.out; unfold impM at this; rw [ext_list]; simpa using this)).mono ?_; rintro e x0acc ⟨rfl, hw_0acc⟩)
        refine hK.out _ _ ⟨blk_next hP_0ac hw_0acc, bel_next hB_0ac hw_0acc⟩ (fun hHeld => ?_)
        clear hK K
        try simp only [Act.put, List.getElem_toArray, List.getElem_cons_succ, List.getElem_cons_zero, List.setIfInBounds_toArray, List.set_cons_zero, List.set_cons_succ]
        obtain ⟨hP_0acc, hB_0acc⟩ := id hHeld
        have hD_0acc := blk_next hD_0ac hw_0acc
        refine wpAnyH_ready (rs := [8]) (by kernel_rfl) (by simp) ?_
        refine AllReadyH.cons (o := _) rfl (fun K hK => ?_) (AllReadyH.nil)
        go_simp
        (go_at_call 25; refine (dsum_is _ d _ (by omega) (by have := HD.out; unfold impD at this; rw [ext_list, List.take_of_length_le (by simp [HL.out])]; simpa using this)).mono ?_; rintro e x0accc ⟨rfl, hw_0accc⟩)
        refine hK.out _ _ ⟨blk_next hP_0acc hw_0accc, bel_next hB_0acc hw_0accc⟩ (fun hHeld => ?_)
        clear hK K
        try simp only [Act.put, List.getElem_toArray, List.getElem_cons_succ, List.getElem_cons_zero, List.setIfInBounds_toArray, List.set_cons_zero, List.set_cons_succ]
        obtain ⟨hP_0accc, hB_0accc⟩ := id hHeld
        have hD_0accc := blk_next hD_0acc hw_0accc
        refine wpAnyH_take (i := 9) (oi := _) (v := ?_) rfl (by kernel_rfl) (by kernel_rfl) (by kernel_rfl) (fun _ _ _ h => h) (Or.inl ⟨by rfl, ?_⟩) (by assumption) ?_
        (rotate_left); (focus (intro wv hSw; (obtain ⟨qP, qB⟩ := hSw); obtain ⟨_, _, _, _, _, _, _⟩ := blk3 qP; go_simp; (try with_reducible rfl)))
        try simp only [Act.put, List.getElem_toArray, List.getElem_cons_succ, List.getElem_cons_zero, List.setIfInBounds_toArray, List.set_cons_zero, List.set_cons_succ]
        refine wpAnyH_ready (rs := [11]) (by kernel_rfl) (by simp) ?_
        refine AllReadyH.cons (o := _) rfl (fun K hK => ?_) (AllReadyH.nil)
        obtain ⟨sc0_0acccc, sc1_0acccc, sc2_0acccc, sf0_0acccc, sf1_0acccc, sf2_0acccc, sz_0acccc⟩ := blk3 hD_0accc
        go_simp
        refine hK.out _ _ ⟨blk_store3 hP_0accc (Nat.ne_of_lt zDP_0a) _ _ _, store3_bel hB_0accc zDB_0a _ _ _⟩ (fun hHeld => ?_)
        clear hK K
        try simp only [Act.put, List.getElem_toArray, List.getElem_cons_succ, List.getElem_cons_zero, List.setIfInBounds_toArray, List.set_cons_zero, List.set_cons_succ]
        obtain ⟨hP_0acccc, hB_0acccc⟩ := id hHeld
        have hD_0acccc := blk3_put (a := .int .i64 y) (b := .int .i64 m) (c := .int .i64 d) hD_0accc
        refine wpAnyH_done (by kernel_rfl) ?_ _
        go_wp2_with fail
        go_meet
        exact ⟨_, rfl, hD_0acccc, hP_0acccc, hB_0acccc⟩
    case rest =>
      obtain ⟨C, rfl, hD1, hP1, hB1⟩ := hcut
      obtain ⟨bD0, bD1, bD2, gD0, gD1, gD2, zD⟩ := blk3 hD1
      go_wp2_with fail
      refine (iDT_any y m d _ (HT.out.next hB1)).mono ?_; rintro e z ⟨rfl, hz⟩
      have hP2 := blk_next hP1 hz
      have hD2 := blk_next hD1 hz
      have hB2 := bel_next hB1 hz
      clear bD0 bD1 bD2 gD0 gD1 gD2 zD hD1 hP1 hB1 hz
      obtain ⟨bP0, bP1, bP2, gP0, gP1, gP2, zP⟩ := blk3 hP2
      obtain ⟨bD0, bD1, bD2, gD0, gD1, gD2, zD⟩ := blk3 hD2
      by_cases he : dateL y m d = s.data.toList
      · have HR : Hid (ReadIs s.data.toList y m d true) := read_yes HL.out he
        rw [he, bs_list]
        clear he
        go_wp2_with fail
        obtain ⟨k0, k1, k2, _, _, _, _⟩ := blk3 (blk3_put (a := .int .i64 y) (b := .int .i64 m) (c := .int .i64 d) hP2)
        exact bodyPost_ret (v := .tuple #[.agg #[.int .i64 y, .int .i64 m, .int .i64 d], .bool true]) (by simp [results, Tryd.results12, go_sem, k0, k1, k2]) rfl ⟨y, m, d, true, rfl, HR.out, store3_bel hB2 (Nat.le_refl _) _ _ _⟩
      · have HR : Hid (ReadIs s.data.toList 0 0 0 false) := read_no_imp (by rw [HY.out, HM.out, HD.out]; exact he)
        have hne : (!(bs (dateL y m d)).toList == s.toList) = true := bs_ne he
        go_wp2_with fail
        obtain ⟨k0, k1, k2, _, _, _, _⟩ := blk3 (blk3_put (a := .int .i64 0) (b := .int .i64 0) (c := .int .i64 0) hP2)
        exact bodyPost_ret (v := .tuple #[.agg #[.int .i64 0, .int .i64 0, .int .i64 0], .bool false]) (by simp [results, Tryd.results12, go_sem, k0, k1, k2]) rfl ⟨0, 0, 0, false, rfl, HR.out, store3_bel hB2 (Nat.le_refl _) _ _ _⟩
  · have hlen : s.data.toList.length ≠ 10 := by simpa using h10
    have HR := Lib.hid (read_short hlen)
    clear hlen
    go_enter Tryd.func12, Tryd.ntmps12
    go_wp2_with fail
    exact bodyPost_ret (v := .tuple #[.agg #[.int .i64 0, .int .i64 0, .int .i64 0], .bool false]) (by simp [results, Tryd.results12, go_sem]) rfl ⟨0, 0, 0, false, rfl, HR.out, (bel1 _ _)⟩
set_option maxRecDepth 100000 in
set_option maxHeartbeats 8000000 in
theorem sRD_any (s : ByteArray) (w : World) (hs : s.size ≤ maxLen) : Calls Tryd.prog 15 #[.string s] w (RDRet s.data.toList w) := by
  by_cases h10 : s.size = 10
  · have hlen : s.data.toList.length = 10 := by simpa using h10
    have HL := Lib.hid hlen
    clear hlen
    obtain ⟨p1, h1⟩ : ∃ y, pairI (s.data.toList.take 2) = y := ⟨_, rfl⟩
    obtain ⟨p2, h2⟩ : ∃ y, pairI ((s.data.toList.drop 2).take 2) = y := ⟨_, rfl⟩
    have b1 : -1 ≤ p1 ∧ p1 ≤ 99 := h1 ▸ pair_bd _
    have b2 : -1 ≤ p2 ∧ p2 ≤ 99 := h2 ▸ pair_bd _
    have hy : spcY s.data.toList = 100 * p1 + p2 := by unfold spcY; rw [h1, h2]
    have H1 := Lib.hid h1
    have H2 := Lib.hid h2
    clear h1 h2
    have q1 : IntKind.i64.wrap (100 * p1) = 100 * p1 := IntWalk.i64_in _ (by omega)
    have q2 : IntKind.i64.wrap (100 * p1 + p2) = 100 * p1 + p2 := IntWalk.i64_in _ (by omega)
    have z0 : (s.extract 2 4).size = 2 := by simp [ByteArray.size_extract, h10]
    obtain ⟨m, hm⟩ : ∃ y, spcM s.data.toList = y := ⟨_, rfl⟩
    obtain ⟨d, hd⟩ : ∃ y, spcD s.data.toList = y := ⟨_, rfl⟩
    have HY := Lib.hid hy
    have HM := Lib.hid hm
    have HD := Lib.hid hd
    clear hy hm hd
    have z1 : (s.extract 0 2).size = 2 := by simp [ByteArray.size_extract, h10]
    have z2 : (s.extract 5 7).size = 2 := by simp [ByteArray.size_extract, h10]
    have z3 : (s.extract 8 10).size = 2 := by simp [ByteArray.size_extract, h10]
    go_enter Tryd.func15, Tryd.ntmps15
    go_wp2_with fail
    go_upto_region 4 with fail
    go_cut [4] (fun s4 wx => ∃ C : Nat, s4 = .pointer (some ⟨C, 0, none⟩) ∧ wx.heap[C]? = some (.cells #[.int .i64 (100 * p1 + p2), .int .i64 m, .int .i64 d] 24) ∧ wx.heap[w.heap.size]? = some (.cells #[.int .i64 0, .int .i64 0, .int .i64 0] 24) ∧ Below w.heap.size w wx)
    case first =>
      refine wp_region_held_drew (S := (fun w' => w'.heap[w.heap.size]? = some (.cells #[.int .i64 0, .int .i64 0, .int .i64 0] 24) ∧ Below w.heap.size w w')) (by kernel_rfl) ⟨blk_new w _, (bel1 w _).drew⟩ (fun hHeld => ?_)
      obtain ⟨hP_0, hB_0⟩ := id hHeld
      refine wpAnyH_take (i := 0) (oi := _) (v := ?_) rfl (by kernel_rfl) (by kernel_rfl) (by kernel_rfl) (fun _ _ _ h => h) (Or.inl ⟨by rfl, ?_⟩) (by assumption) ?_
      (rotate_left); (focus (intro wv hSw; (obtain ⟨qP, qB⟩ := hSw); obtain ⟨_, _, _, _, _, _, _⟩ := blk3 qP; go_simp; (try with_reducible rfl)))
      try simp only [Act.put, List.getElem_toArray, List.getElem_cons_succ, List.getElem_cons_zero, List.setIfInBounds_toArray, List.set_cons_zero, List.set_cons_succ]
      refine wpAnyH_take (i := 1) (oi := _) (v := ?_) rfl (by kernel_rfl) (by kernel_rfl) (by kernel_rfl) (fun _ _ _ h => h) (Or.inl ⟨by rfl, ?_⟩) (by assumption) ?_
      (rotate_left); (focus (intro wv hSw; (obtain ⟨qP, qB⟩ := hSw); obtain ⟨_, _, _, _, _, _, _⟩ := blk3 qP; go_simp; (try with_reducible rfl)))
      try simp only [Act.put, List.getElem_toArray, List.getElem_cons_succ, List.getElem_cons_zero, List.setIfInBounds_toArray, List.set_cons_zero, List.set_cons_succ]
      refine wpAnyH_take (i := 4) (oi := _) (v := ?_) rfl (by kernel_rfl) (by kernel_rfl) (by kernel_rfl) (fun _ _ _ h => h) (Or.inl ⟨by rfl, ?_⟩) (by assumption) ?_
      (rotate_left); (focus (intro wv hSw; (obtain ⟨qP, qB⟩ := hSw); obtain ⟨_, _, _, _, _, _, _⟩ := blk3 qP; go_simp; (try with_reducible rfl)))
      try simp only [Act.put, List.getElem_toArray, List.getElem_cons_succ, List.getElem_cons_zero, List.setIfInBounds_toArray, List.set_cons_zero, List.set_cons_succ]
      refine wpAnyH_take (i := 5) (oi := _) (v := ?_) rfl (by kernel_rfl) (by kernel_rfl) (by kernel_rfl) (fun _ _ _ h => h) (Or.inl ⟨by rfl, ?_⟩) (by assumption) ?_
      (rotate_left); (focus (intro wv hSw; (obtain ⟨qP, qB⟩ := hSw); obtain ⟨_, _, _, _, _, _, _⟩ := blk3 qP; go_simp; (try with_reducible rfl)))
      try simp only [Act.put, List.getElem_toArray, List.getElem_cons_succ, List.getElem_cons_zero, List.setIfInBounds_toArray, List.set_cons_zero, List.set_cons_succ]
      refine wpAnyH_take (i := 8) (oi := _) (v := ?_) rfl (by kernel_rfl) (by kernel_rfl) (by kernel_rfl) (fun _ _ _ h => h) (Or.inl ⟨by rfl, ?_⟩) (by assumption) ?_
      (rotate_left); (focus (intro wv hSw; (obtain ⟨qP, qB⟩ := hSw); obtain ⟨_, _, _, _, _, _, _⟩ := blk3 qP; go_simp; (try with_reducible rfl)))
      try simp only [Act.put, List.getElem_toArray, List.getElem_cons_succ, List.getElem_cons_zero, List.setIfInBounds_toArray, List.set_cons_zero, List.set_cons_succ]
      refine wpAnyH_take (i := 9) (oi := _) (v := ?_) rfl (by kernel_rfl) (by kernel_rfl) (by kernel_rfl) (fun _ _ _ h => h) (Or.inl ⟨by rfl, ?_⟩) (by assumption) ?_
      (rotate_left); (focus (intro wv hSw; (obtain ⟨qP, qB⟩ := hSw); obtain ⟨_, _, _, _, _, _, _⟩ := blk3 qP; go_simp; (try with_reducible rfl)))
      try simp only [Act.put, List.getElem_toArray, List.getElem_cons_succ, List.getElem_cons_zero, List.setIfInBounds_toArray, List.set_cons_zero, List.set_cons_succ]
      refine wpAnyH_take (i := 11) (oi := _) (v := ?_) rfl (by kernel_rfl) (by kernel_rfl) (by kernel_rfl) (fun _ _ _ h => h) (Or.inl ⟨by rfl, ?_⟩) (by assumption) ?_
      (rotate_left); (focus (intro wv hSw; (obtain ⟨qP, qB⟩ := hSw); obtain ⟨_, _, _, _, _, _, _⟩ := blk3 qP; go_simp; (try with_reducible rfl)))
      try simp only [Act.put, List.getElem_toArray, List.getElem_cons_succ, List.getElem_cons_zero, List.setIfInBounds_toArray, List.set_cons_zero, List.set_cons_succ]
      refine wpAnyH_take (i := 12) (oi := _) (v := ?_) rfl (by kernel_rfl) (by kernel_rfl) (by kernel_rfl) (fun _ _ _ h => h) (Or.inl ⟨by rfl, ?_⟩) (by assumption) ?_
      (rotate_left); (focus (intro wv hSw; (obtain ⟨qP, qB⟩ := hSw); obtain ⟨_, _, _, _, _, _, _⟩ := blk3 qP; go_simp; (try with_reducible rfl)))
      try simp only [Act.put, List.getElem_toArray, List.getElem_cons_succ, List.getElem_cons_zero, List.setIfInBounds_toArray, List.set_cons_zero, List.set_cons_succ]
      refine wpAnyH_ready (rs := [2, 15]) (by kernel_rfl) (by simp) ?_
      refine AllReadyH.cons (o := _) rfl (fun K hK => ?_) (AllReadyH.cons (o := _) rfl (fun K hK => ?_) (AllReadyH.nil))
      · go_simp
        (go_at_call 29; refine (pair_is _ p1 _ (by omega) (by rw [ext_list]; exact H1.out)).mono ?_; rintro e x0c ⟨rfl, hw_0c⟩)
        refine hK.out _ _ ⟨blk_next hP_0 hw_0c, bel_next hB_0 hw_0c⟩ (fun hHeld => ?_)
        clear hK K
        try simp only [Act.put, List.getElem_toArray, List.getElem_cons_succ, List.getElem_cons_zero, List.setIfInBounds_toArray, List.set_cons_zero, List.set_cons_succ]
        obtain ⟨hP_0c, hB_0c⟩ := id hHeld
        refine wpAnyH_take (i := 3) (oi := _) (v := ?_) rfl (by kernel_rfl) (by kernel_rfl) (by kernel_rfl) (fun _ _ _ h => h) (Or.inl ⟨by rfl, ?_⟩) (by assumption) ?_
        (rotate_left); (focus (intro wv hSw; (obtain ⟨qP, qB⟩ := hSw); obtain ⟨_, _, _, _, _, _, _⟩ := blk3 qP; go_simp; (try with_reducible rfl)))
        try simp only [Act.put, List.getElem_toArray, List.getElem_cons_succ, List.getElem_cons_zero, List.setIfInBounds_toArray, List.set_cons_zero, List.set_cons_succ]
        refine wpAnyH_ready (rs := [6, 15]) (by kernel_rfl) (by simp) ?_
        refine AllReadyH.cons (o := _) rfl (fun K hK => ?_) (AllReadyH.cons (o := _) rfl (fun K hK => ?_) (AllReadyH.nil))
        · go_simp
          (go_at_call 29; refine (pair_is _ p2 _ (by omega) (by rw [ext_list]; exact H2.out)).mono ?_; rintro e x0cc ⟨rfl, hw_0cc⟩)
          refine hK.out _ _ ⟨blk_next hP_0c hw_0cc, bel_next hB_0c hw_0cc⟩ (fun hHeld => ?_)
          clear hK K
          try simp only [Act.put, List.getElem_toArray, List.getElem_cons_succ, List.getElem_cons_zero, List.setIfInBounds_toArray, List.set_cons_zero, List.set_cons_succ]
          obtain ⟨hP_0cc, hB_0cc⟩ := id hHeld
          refine wpAnyH_take (i := 7) (oi := _) (v := ?_) rfl (by kernel_rfl) (by kernel_rfl) (by kernel_rfl) (fun _ _ _ h => h) (Or.inl ⟨by rfl, ?_⟩) (by assumption) ?_
          (rotate_left); (focus (intro wv hSw; (obtain ⟨qP, qB⟩ := hSw); obtain ⟨_, _, _, _, _, _, _⟩ := blk3 qP; go_simp; (try with_reducible rfl)))
          try simp only [Act.put, List.getElem_toArray, List.getElem_cons_succ, List.getElem_cons_zero, List.setIfInBounds_toArray, List.set_cons_zero, List.set_cons_succ]
          refine wpAnyH_ready (rs := [10, 15]) (by kernel_rfl) (by simp) ?_
          refine AllReadyH.cons (o := _) rfl (fun K hK => ?_) (AllReadyH.cons (o := _) rfl (fun K hK => ?_) (AllReadyH.nil))
          · go_simp
            (go_at_call 29; refine (pair_is _ m _ (by omega) (by rw [ext_list]; exact HM.out)).mono ?_; rintro e x0ccc ⟨rfl, hw_0ccc⟩)
            refine hK.out _ _ ⟨blk_next hP_0cc hw_0ccc, bel_next hB_0cc hw_0ccc⟩ (fun hHeld => ?_)
            clear hK K
            try simp only [Act.put, List.getElem_toArray, List.getElem_cons_succ, List.getElem_cons_zero, List.setIfInBounds_toArray, List.set_cons_zero, List.set_cons_succ]
            obtain ⟨hP_0ccc, hB_0ccc⟩ := id hHeld
            refine wpAnyH_ready (rs := [13, 15]) (by kernel_rfl) (by simp) ?_
            refine AllReadyH.cons (o := _) rfl (fun K hK => ?_) (AllReadyH.cons (o := _) rfl (fun K hK => ?_) (AllReadyH.nil))
            · go_simp
              (go_at_call 29; refine (pair_is _ d _ (by omega) (by rw [ext_list, List.take_of_length_le (by simp [HL.out])]; exact HD.out)).mono ?_; rintro e x0cccc ⟨rfl, hw_0cccc⟩)
              refine hK.out _ _ ⟨blk_next hP_0ccc hw_0cccc, bel_next hB_0ccc hw_0cccc⟩ (fun hHeld => ?_)
              clear hK K
              try simp only [Act.put, List.getElem_toArray, List.getElem_cons_succ, List.getElem_cons_zero, List.setIfInBounds_toArray, List.set_cons_zero, List.set_cons_succ]
              obtain ⟨hP_0cccc, hB_0cccc⟩ := id hHeld
              refine wpAnyH_take (i := 14) (oi := _) (v := ?_) rfl (by kernel_rfl) (by kernel_rfl) (by kernel_rfl) (fun _ _ _ h => h) (Or.inl ⟨by rfl, ?_⟩) (by assumption) ?_
              (rotate_left); (focus (intro wv hSw; (obtain ⟨qP, qB⟩ := hSw); obtain ⟨_, _, _, _, _, _, _⟩ := blk3 qP; go_simp; (try with_reducible rfl)))
              try simp only [Act.put, List.getElem_toArray, List.getElem_cons_succ, List.getElem_cons_zero, List.setIfInBounds_toArray, List.set_cons_zero, List.set_cons_succ]
              refine wpAnyH_ready (rs := [15]) (by kernel_rfl) (by simp) ?_
              refine AllReadyH.cons (o := _) rfl (fun K hK => ?_) (AllReadyH.nil)
              go_simp
              refine hK.out _ _ ⟨blk_old hP_0cccc _, hB_0cccc.alloc (by have := hB_0cccc.size; omega) _⟩ (fun hHeld => ?_)
              clear hK K
              try simp only [Act.put, List.getElem_toArray, List.getElem_cons_succ, List.getElem_cons_zero, List.setIfInBounds_toArray, List.set_cons_zero, List.set_cons_succ]
              obtain ⟨hP_0cccca, hB_0cccca⟩ := id hHeld
              have hD_0cccca : (x0cccc.alloc (.cells #[.int .i64 0, .int .i64 0, .int .i64 0] 24)).heap[x0cccc.heap.size]? = some (.cells #[.int .i64 0, .int .i64 0, .int .i64 0] 24) := by have := blk_new (x0cccc) (.cells #[.int .i64 0, .int .i64 0, .int .i64 0] 24); simpa using this
              have zDP_0cccca : w.heap.size < x0cccc.heap.size := by have := blk_lt hP_0cccc; simpa using this
              have zDB_0cccca : w.heap.size ≤ x0cccc.heap.size := by have := hB_0cccc.size; simpa using this
              refine wpAnyH_ready (rs := [16]) (by kernel_rfl) (by simp) ?_
              refine AllReadyH.cons (o := _) rfl (fun K hK => ?_) (AllReadyH.nil)
              obtain ⟨sc0_0ccccac, sc1_0ccccac, sc2_0ccccac, sf0_0ccccac, sf1_0ccccac, sf2_0ccccac, sz_0ccccac⟩ := blk3 hD_0cccca
              go_simp
              refine hK.out _ _ ⟨blk_old hP_0cccc _, hB_0cccc.alloc (by have := hB_0cccc.size; omega) _⟩ (fun hHeld => ?_)
              clear hK K
              try simp only [Act.put, List.getElem_toArray, List.getElem_cons_succ, List.getElem_cons_zero, List.setIfInBounds_toArray, List.set_cons_zero, List.set_cons_succ]
              obtain ⟨hP_0ccccac, hB_0ccccac⟩ := id hHeld
              have hD_0ccccac : (x0cccc.alloc (.cells #[.int .i64 (100 * p1 + p2), .int .i64 m, .int .i64 d] 24)).heap[x0cccc.heap.size]? = some (.cells #[.int .i64 (100 * p1 + p2), .int .i64 m, .int .i64 d] 24) := by have := blk_new (x0cccc) (.cells #[.int .i64 (100 * p1 + p2), .int .i64 m, .int .i64 d] 24); simpa using this
              refine wpAnyH_done (by kernel_rfl) ?_ _
              go_wp2_with fail
              go_meet
              exact ⟨_, rfl, hD_0ccccac, hP_0ccccac, hB_0ccccac⟩
            · go_simp
              refine hK.out _ _ ⟨blk_old hP_0ccc _, hB_0ccc.alloc (by have := hB_0ccc.size; omega) _⟩ (fun hHeld => ?_)
              clear hK K
              try simp only [Act.put, List.getElem_toArray, List.getElem_cons_succ, List.getElem_cons_zero, List.setIfInBounds_toArray, List.set_cons_zero, List.set_cons_succ]
              obtain ⟨hP_0ccca, hB_0ccca⟩ := id hHeld
              have hD_0ccca : (x0ccc.alloc (.cells #[.int .i64 0, .int .i64 0, .int .i64 0] 24)).heap[x0ccc.heap.size]? = some (.cells #[.int .i64 0, .int .i64 0, .int .i64 0] 24) := by have := blk_new (x0ccc) (.cells #[.int .i64 0, .int .i64 0, .int .i64 0] 24); simpa using this
              have zDP_0ccca : w.heap.size < x0ccc.heap.size := by have := blk_lt hP_0ccc; simpa using this
              have zDB_0ccca : w.heap.size ≤ x0ccc.heap.size := by have := hB_0ccc.size; simpa using this
              refine wpAnyH_ready (rs := [13]) (by kernel_rfl) (by simp) ?_
              refine AllReadyH.cons (o := _) rfl (fun K hK => ?_) (AllReadyH.nil)
              go_simp
              (go_at_call 29; refine (pair_is _ d _ (by omega) (by rw [ext_list, List.take_of_length_le (by simp [HL.out])]; exact HD.out)).mono ?_; rintro e x0cccac ⟨rfl, hw_0cccac⟩)
              refine hK.out _ _ ⟨blk_next hP_0ccca hw_0cccac, bel_next hB_0ccca hw_0cccac⟩ (fun hHeld => ?_)
              clear hK K
              try simp only [Act.put, List.getElem_toArray, List.getElem_cons_succ, List.getElem_cons_zero, List.setIfInBounds_toArray, List.set_cons_zero, List.set_cons_succ]
              obtain ⟨hP_0cccac, hB_0cccac⟩ := id hHeld
              have hD_0cccac := blk_next hD_0ccca hw_0cccac
              refine wpAnyH_take (i := 14) (oi := _) (v := ?_) rfl (by kernel_rfl) (by kernel_rfl) (by kernel_rfl) (fun _ _ _ h => h) (Or.inl ⟨by rfl, ?_⟩) (by assumption) ?_
              (rotate_left); (focus (intro wv hSw; (obtain ⟨qP, qB⟩ := hSw); obtain ⟨_, _, _, _, _, _, _⟩ := blk3 qP; go_simp; (try with_reducible rfl)))
              try simp only [Act.put, List.getElem_toArray, List.getElem_cons_succ, List.getElem_cons_zero, List.setIfInBounds_toArray, List.set_cons_zero, List.set_cons_succ]
              refine wpAnyH_ready (rs := [16]) (by kernel_rfl) (by simp) ?_
              refine AllReadyH.cons (o := _) rfl (fun K hK => ?_) (AllReadyH.nil)
              obtain ⟨sc0_0cccacc, sc1_0cccacc, sc2_0cccacc, sf0_0cccacc, sf1_0cccacc, sf2_0cccacc, sz_0cccacc⟩ := blk3 hD_0cccac
              go_simp
              refine hK.out _ _ ⟨blk_store3 hP_0cccac (Nat.ne_of_lt zDP_0ccca) _ _ _, store3_bel hB_0cccac zDB_0ccca _ _ _⟩ (fun hHeld => ?_)
              clear hK K
              try simp only [Act.put, List.getElem_toArray, List.getElem_cons_succ, List.getElem_cons_zero, List.setIfInBounds_toArray, List.set_cons_zero, List.set_cons_succ]
              obtain ⟨hP_0cccacc, hB_0cccacc⟩ := id hHeld
              have hD_0cccacc := blk3_put (a := .int .i64 (100 * p1 + p2)) (b := .int .i64 m) (c := .int .i64 d) hD_0cccac
              refine wpAnyH_done (by kernel_rfl) ?_ _
              go_wp2_with fail
              go_meet
              exact ⟨_, rfl, hD_0cccacc, hP_0cccacc, hB_0cccacc⟩
          · go_simp
            refine hK.out _ _ ⟨blk_old hP_0cc _, hB_0cc.alloc (by have := hB_0cc.size; omega) _⟩ (fun hHeld => ?_)
            clear hK K
            try simp only [Act.put, List.getElem_toArray, List.getElem_cons_succ, List.getElem_cons_zero, List.setIfInBounds_toArray, List.set_cons_zero, List.set_cons_succ]
            obtain ⟨hP_0cca, hB_0cca⟩ := id hHeld
            have hD_0cca : (x0cc.alloc (.cells #[.int .i64 0, .int .i64 0, .int .i64 0] 24)).heap[x0cc.heap.size]? = some (.cells #[.int .i64 0, .int .i64 0, .int .i64 0] 24) := by have := blk_new (x0cc) (.cells #[.int .i64 0, .int .i64 0, .int .i64 0] 24); simpa using this
            have zDP_0cca : w.heap.size < x0cc.heap.size := by have := blk_lt hP_0cc; simpa using this
            have zDB_0cca : w.heap.size ≤ x0cc.heap.size := by have := hB_0cc.size; simpa using this
            refine wpAnyH_ready (rs := [10]) (by kernel_rfl) (by simp) ?_
            refine AllReadyH.cons (o := _) rfl (fun K hK => ?_) (AllReadyH.nil)
            go_simp
            (go_at_call 29; refine (pair_is _ m _ (by omega) (by rw [ext_list]; exact HM.out)).mono ?_; rintro e x0ccac ⟨rfl, hw_0ccac⟩)
            refine hK.out _ _ ⟨blk_next hP_0cca hw_0ccac, bel_next hB_0cca hw_0ccac⟩ (fun hHeld => ?_)
            clear hK K
            try simp only [Act.put, List.getElem_toArray, List.getElem_cons_succ, List.getElem_cons_zero, List.setIfInBounds_toArray, List.set_cons_zero, List.set_cons_succ]
            obtain ⟨hP_0ccac, hB_0ccac⟩ := id hHeld
            have hD_0ccac := blk_next hD_0cca hw_0ccac
            refine wpAnyH_ready (rs := [13]) (by kernel_rfl) (by simp) ?_
            refine AllReadyH.cons (o := _) rfl (fun K hK => ?_) (AllReadyH.nil)
            go_simp
            (go_at_call 29; refine (pair_is _ d _ (by omega) (by rw [ext_list, List.take_of_length_le (by simp [HL.out])]; exact HD.out)).mono ?_; rintro e x0ccacc ⟨rfl, hw_0ccacc⟩)
            refine hK.out _ _ ⟨blk_next hP_0ccac hw_0ccacc, bel_next hB_0ccac hw_0ccacc⟩ (fun hHeld => ?_)
            clear hK K
            try simp only [Act.put, List.getElem_toArray, List.getElem_cons_succ, List.getElem_cons_zero, List.setIfInBounds_toArray, List.set_cons_zero, List.set_cons_succ]
            obtain ⟨hP_0ccacc, hB_0ccacc⟩ := id hHeld
            have hD_0ccacc := blk_next hD_0ccac hw_0ccacc
            refine wpAnyH_take (i := 14) (oi := _) (v := ?_) rfl (by kernel_rfl) (by kernel_rfl) (by kernel_rfl) (fun _ _ _ h => h) (Or.inl ⟨by rfl, ?_⟩) (by assumption) ?_
            (rotate_left); (focus (intro wv hSw; (obtain ⟨qP, qB⟩ := hSw); obtain ⟨_, _, _, _, _, _, _⟩ := blk3 qP; go_simp; (try with_reducible rfl)))
            try simp only [Act.put, List.getElem_toArray, List.getElem_cons_succ, List.getElem_cons_zero, List.setIfInBounds_toArray, List.set_cons_zero, List.set_cons_succ]
            refine wpAnyH_ready (rs := [16]) (by kernel_rfl) (by simp) ?_
            refine AllReadyH.cons (o := _) rfl (fun K hK => ?_) (AllReadyH.nil)
            obtain ⟨sc0_0ccaccc, sc1_0ccaccc, sc2_0ccaccc, sf0_0ccaccc, sf1_0ccaccc, sf2_0ccaccc, sz_0ccaccc⟩ := blk3 hD_0ccacc
            go_simp
            refine hK.out _ _ ⟨blk_store3 hP_0ccacc (Nat.ne_of_lt zDP_0cca) _ _ _, store3_bel hB_0ccacc zDB_0cca _ _ _⟩ (fun hHeld => ?_)
            clear hK K
            try simp only [Act.put, List.getElem_toArray, List.getElem_cons_succ, List.getElem_cons_zero, List.setIfInBounds_toArray, List.set_cons_zero, List.set_cons_succ]
            obtain ⟨hP_0ccaccc, hB_0ccaccc⟩ := id hHeld
            have hD_0ccaccc := blk3_put (a := .int .i64 (100 * p1 + p2)) (b := .int .i64 m) (c := .int .i64 d) hD_0ccacc
            refine wpAnyH_done (by kernel_rfl) ?_ _
            go_wp2_with fail
            go_meet
            exact ⟨_, rfl, hD_0ccaccc, hP_0ccaccc, hB_0ccaccc⟩
        · go_simp
          refine hK.out _ _ ⟨blk_old hP_0c _, hB_0c.alloc (by have := hB_0c.size; omega) _⟩ (fun hHeld => ?_)
          clear hK K
          try simp only [Act.put, List.getElem_toArray, List.getElem_cons_succ, List.getElem_cons_zero, List.setIfInBounds_toArray, List.set_cons_zero, List.set_cons_succ]
          obtain ⟨hP_0ca, hB_0ca⟩ := id hHeld
          have hD_0ca : (x0c.alloc (.cells #[.int .i64 0, .int .i64 0, .int .i64 0] 24)).heap[x0c.heap.size]? = some (.cells #[.int .i64 0, .int .i64 0, .int .i64 0] 24) := by have := blk_new (x0c) (.cells #[.int .i64 0, .int .i64 0, .int .i64 0] 24); simpa using this
          have zDP_0ca : w.heap.size < x0c.heap.size := by have := blk_lt hP_0c; simpa using this
          have zDB_0ca : w.heap.size ≤ x0c.heap.size := by have := hB_0c.size; simpa using this
          refine wpAnyH_ready (rs := [6]) (by kernel_rfl) (by simp) ?_
          refine AllReadyH.cons (o := _) rfl (fun K hK => ?_) (AllReadyH.nil)
          go_simp
          (go_at_call 29; refine (pair_is _ p2 _ (by omega) (by rw [ext_list]; exact H2.out)).mono ?_; rintro e x0cac ⟨rfl, hw_0cac⟩)
          refine hK.out _ _ ⟨blk_next hP_0ca hw_0cac, bel_next hB_0ca hw_0cac⟩ (fun hHeld => ?_)
          clear hK K
          try simp only [Act.put, List.getElem_toArray, List.getElem_cons_succ, List.getElem_cons_zero, List.setIfInBounds_toArray, List.set_cons_zero, List.set_cons_succ]
          obtain ⟨hP_0cac, hB_0cac⟩ := id hHeld
          have hD_0cac := blk_next hD_0ca hw_0cac
          refine wpAnyH_take (i := 7) (oi := _) (v := ?_) rfl (by kernel_rfl) (by kernel_rfl) (by kernel_rfl) (fun _ _ _ h => h) (Or.inl ⟨by rfl, ?_⟩) (by assumption) ?_
          (rotate_left); (focus (intro wv hSw; (obtain ⟨qP, qB⟩ := hSw); obtain ⟨_, _, _, _, _, _, _⟩ := blk3 qP; go_simp; (try with_reducible rfl)))
          try simp only [Act.put, List.getElem_toArray, List.getElem_cons_succ, List.getElem_cons_zero, List.setIfInBounds_toArray, List.set_cons_zero, List.set_cons_succ]
          refine wpAnyH_ready (rs := [10]) (by kernel_rfl) (by simp) ?_
          refine AllReadyH.cons (o := _) rfl (fun K hK => ?_) (AllReadyH.nil)
          go_simp
          (go_at_call 29; refine (pair_is _ m _ (by omega) (by rw [ext_list]; exact HM.out)).mono ?_; rintro e x0cacc ⟨rfl, hw_0cacc⟩)
          refine hK.out _ _ ⟨blk_next hP_0cac hw_0cacc, bel_next hB_0cac hw_0cacc⟩ (fun hHeld => ?_)
          clear hK K
          try simp only [Act.put, List.getElem_toArray, List.getElem_cons_succ, List.getElem_cons_zero, List.setIfInBounds_toArray, List.set_cons_zero, List.set_cons_succ]
          obtain ⟨hP_0cacc, hB_0cacc⟩ := id hHeld
          have hD_0cacc := blk_next hD_0cac hw_0cacc
          refine wpAnyH_ready (rs := [13]) (by kernel_rfl) (by simp) ?_
          refine AllReadyH.cons (o := _) rfl (fun K hK => ?_) (AllReadyH.nil)
          go_simp
          (go_at_call 29; refine (pair_is _ d _ (by omega) (by rw [ext_list, List.take_of_length_le (by simp [HL.out])]; exact HD.out)).mono ?_; rintro e x0caccc ⟨rfl, hw_0caccc⟩)
          refine hK.out _ _ ⟨blk_next hP_0cacc hw_0caccc, bel_next hB_0cacc hw_0caccc⟩ (fun hHeld => ?_)
          clear hK K
          try simp only [Act.put, List.getElem_toArray, List.getElem_cons_succ, List.getElem_cons_zero, List.setIfInBounds_toArray, List.set_cons_zero, List.set_cons_succ]
          obtain ⟨hP_0caccc, hB_0caccc⟩ := id hHeld
          have hD_0caccc := blk_next hD_0cacc hw_0caccc
          refine wpAnyH_take (i := 14) (oi := _) (v := ?_) rfl (by kernel_rfl) (by kernel_rfl) (by kernel_rfl) (fun _ _ _ h => h) (Or.inl ⟨by rfl, ?_⟩) (by assumption) ?_
          (rotate_left); (focus (intro wv hSw; (obtain ⟨qP, qB⟩ := hSw); obtain ⟨_, _, _, _, _, _, _⟩ := blk3 qP; go_simp; (try with_reducible rfl)))
          try simp only [Act.put, List.getElem_toArray, List.getElem_cons_succ, List.getElem_cons_zero, List.setIfInBounds_toArray, List.set_cons_zero, List.set_cons_succ]
          refine wpAnyH_ready (rs := [16]) (by kernel_rfl) (by simp) ?_
          refine AllReadyH.cons (o := _) rfl (fun K hK => ?_) (AllReadyH.nil)
          obtain ⟨sc0_0cacccc, sc1_0cacccc, sc2_0cacccc, sf0_0cacccc, sf1_0cacccc, sf2_0cacccc, sz_0cacccc⟩ := blk3 hD_0caccc
          go_simp
          refine hK.out _ _ ⟨blk_store3 hP_0caccc (Nat.ne_of_lt zDP_0ca) _ _ _, store3_bel hB_0caccc zDB_0ca _ _ _⟩ (fun hHeld => ?_)
          clear hK K
          try simp only [Act.put, List.getElem_toArray, List.getElem_cons_succ, List.getElem_cons_zero, List.setIfInBounds_toArray, List.set_cons_zero, List.set_cons_succ]
          obtain ⟨hP_0cacccc, hB_0cacccc⟩ := id hHeld
          have hD_0cacccc := blk3_put (a := .int .i64 (100 * p1 + p2)) (b := .int .i64 m) (c := .int .i64 d) hD_0caccc
          refine wpAnyH_done (by kernel_rfl) ?_ _
          go_wp2_with fail
          go_meet
          exact ⟨_, rfl, hD_0cacccc, hP_0cacccc, hB_0cacccc⟩
      · go_simp
        refine hK.out _ _ ⟨blk_old hP_0 _, hB_0.alloc (by have := hB_0.size; omega) _⟩ (fun hHeld => ?_)
        clear hK K
        try simp only [Act.put, List.getElem_toArray, List.getElem_cons_succ, List.getElem_cons_zero, List.setIfInBounds_toArray, List.set_cons_zero, List.set_cons_succ]
        obtain ⟨hP_0a, hB_0a⟩ := id hHeld
        have hD_0a : ((w.alloc (.cells #[.int .i64 0, .int .i64 0, .int .i64 0] 24)).drew.alloc (.cells #[.int .i64 0, .int .i64 0, .int .i64 0] 24)).heap[w.heap.size + 1]? = some (.cells #[.int .i64 0, .int .i64 0, .int .i64 0] 24) := by have := blk_new ((w.alloc (.cells #[.int .i64 0, .int .i64 0, .int .i64 0] 24)).drew) (.cells #[.int .i64 0, .int .i64 0, .int .i64 0] 24); simpa using this
        have zDP_0a : w.heap.size < w.heap.size + 1 := by have := blk_lt hP_0; simpa using this
        have zDB_0a : w.heap.size ≤ w.heap.size + 1 := by have := hB_0.size; simpa using this
        refine wpAnyH_ready (rs := [2]) (by kernel_rfl) (by simp) ?_
        refine AllReadyH.cons (o := _) rfl (fun K hK => ?_) (AllReadyH.nil)
        go_simp
        (go_at_call 29; refine (pair_is _ p1 _ (by omega) (by rw [ext_list]; exact H1.out)).mono ?_; rintro e x0ac ⟨rfl, hw_0ac⟩)
        refine hK.out _ _ ⟨blk_next hP_0a hw_0ac, bel_next hB_0a hw_0ac⟩ (fun hHeld => ?_)
        clear hK K
        try simp only [Act.put, List.getElem_toArray, List.getElem_cons_succ, List.getElem_cons_zero, List.setIfInBounds_toArray, List.set_cons_zero, List.set_cons_succ]
        obtain ⟨hP_0ac, hB_0ac⟩ := id hHeld
        have hD_0ac := blk_next hD_0a hw_0ac
        refine wpAnyH_take (i := 3) (oi := _) (v := ?_) rfl (by kernel_rfl) (by kernel_rfl) (by kernel_rfl) (fun _ _ _ h => h) (Or.inl ⟨by rfl, ?_⟩) (by assumption) ?_
        (rotate_left); (focus (intro wv hSw; (obtain ⟨qP, qB⟩ := hSw); obtain ⟨_, _, _, _, _, _, _⟩ := blk3 qP; go_simp; (try with_reducible rfl)))
        try simp only [Act.put, List.getElem_toArray, List.getElem_cons_succ, List.getElem_cons_zero, List.setIfInBounds_toArray, List.set_cons_zero, List.set_cons_succ]
        refine wpAnyH_ready (rs := [6]) (by kernel_rfl) (by simp) ?_
        refine AllReadyH.cons (o := _) rfl (fun K hK => ?_) (AllReadyH.nil)
        go_simp
        (go_at_call 29; refine (pair_is _ p2 _ (by omega) (by rw [ext_list]; exact H2.out)).mono ?_; rintro e x0acc ⟨rfl, hw_0acc⟩)
        refine hK.out _ _ ⟨blk_next hP_0ac hw_0acc, bel_next hB_0ac hw_0acc⟩ (fun hHeld => ?_)
        clear hK K
        try simp only [Act.put, List.getElem_toArray, List.getElem_cons_succ, List.getElem_cons_zero, List.setIfInBounds_toArray, List.set_cons_zero, List.set_cons_succ]
        obtain ⟨hP_0acc, hB_0acc⟩ := id hHeld
        have hD_0acc := blk_next hD_0ac hw_0acc
        refine wpAnyH_take (i := 7) (oi := _) (v := ?_) rfl (by kernel_rfl) (by kernel_rfl) (by kernel_rfl) (fun _ _ _ h => h) (Or.inl ⟨by rfl, ?_⟩) (by assumption) ?_
        (rotate_left); (focus (intro wv hSw; (obtain ⟨qP, qB⟩ := hSw); obtain ⟨_, _, _, _, _, _, _⟩ := blk3 qP; go_simp; (try with_reducible rfl)))
        try simp only [Act.put, List.getElem_toArray, List.getElem_cons_succ, List.getElem_cons_zero, List.setIfInBounds_toArray, List.set_cons_zero, List.set_cons_succ]
        refine wpAnyH_ready (rs := [10]) (by kernel_rfl) (by simp) ?_
        refine AllReadyH.cons (o := _) rfl (fun K hK => ?_) (AllReadyH.nil)
        go_simp
        (go_at_call 29; refine (pair_is _ m _ (by omega) (by rw [ext_list]; exact HM.out)).mono ?_; rintro e x0accc ⟨rfl, hw_0accc⟩)
        refine hK.out _ _ ⟨blk_next hP_0acc hw_0accc, bel_next hB_0acc hw_0accc⟩ (fun hHeld => ?_)
        clear hK K
        try simp only [Act.put, List.getElem_toArray, List.getElem_cons_succ, List.getElem_cons_zero, List.setIfInBounds_toArray, List.set_cons_zero, List.set_cons_succ]
        obtain ⟨hP_0accc, hB_0accc⟩ := id hHeld
        have hD_0accc := blk_next hD_0acc hw_0accc
        refine wpAnyH_ready (rs := [13]) (by kernel_rfl) (by simp) ?_
        refine AllReadyH.cons (o := _) rfl (fun K hK => ?_) (AllReadyH.nil)
        go_simp
        (go_at_call 29; refine (pair_is _ d _ (by omega) (by rw [ext_list, List.take_of_length_le (by simp [HL.out])]; exact HD.out)).mono ?_; rintro e x0acccc ⟨rfl, hw_0acccc⟩)
        refine hK.out _ _ ⟨blk_next hP_0accc hw_0acccc, bel_next hB_0accc hw_0acccc⟩ (fun hHeld => ?_)
        clear hK K
        try simp only [Act.put, List.getElem_toArray, List.getElem_cons_succ, List.getElem_cons_zero, List.setIfInBounds_toArray, List.set_cons_zero, List.set_cons_succ]
        obtain ⟨hP_0acccc, hB_0acccc⟩ := id hHeld
        have hD_0acccc := blk_next hD_0accc hw_0acccc
        refine wpAnyH_take (i := 14) (oi := _) (v := ?_) rfl (by kernel_rfl) (by kernel_rfl) (by kernel_rfl) (fun _ _ _ h => h) (Or.inl ⟨by rfl, ?_⟩) (by assumption) ?_
        (rotate_left); (focus (intro wv hSw; (obtain ⟨qP, qB⟩ := hSw); obtain ⟨_, _, _, _, _, _, _⟩ := blk3 qP; go_simp; (try with_reducible rfl)))
        try simp only [Act.put, List.getElem_toArray, List.getElem_cons_succ, List.getElem_cons_zero, List.setIfInBounds_toArray, List.set_cons_zero, List.set_cons_succ]
        refine wpAnyH_ready (rs := [16]) (by kernel_rfl) (by simp) ?_
        refine AllReadyH.cons (o := _) rfl (fun K hK => ?_) (AllReadyH.nil)
        obtain ⟨sc0_0accccc, sc1_0accccc, sc2_0accccc, sf0_0accccc, sf1_0accccc, sf2_0accccc, sz_0accccc⟩ := blk3 hD_0acccc
        go_simp
        refine hK.out _ _ ⟨blk_store3 hP_0acccc (Nat.ne_of_lt zDP_0a) _ _ _, store3_bel hB_0acccc zDB_0a _ _ _⟩ (fun hHeld => ?_)
        clear hK K
        try simp only [Act.put, List.getElem_toArray, List.getElem_cons_succ, List.getElem_cons_zero, List.setIfInBounds_toArray, List.set_cons_zero, List.set_cons_succ]
        obtain ⟨hP_0accccc, hB_0accccc⟩ := id hHeld
        have hD_0accccc := blk3_put (a := .int .i64 (100 * p1 + p2)) (b := .int .i64 m) (c := .int .i64 d) hD_0acccc
        refine wpAnyH_done (by kernel_rfl) ?_ _
        go_wp2_with fail
        go_meet
        exact ⟨_, rfl, hD_0accccc, hP_0accccc, hB_0accccc⟩
    case rest =>
      obtain ⟨C, rfl, hD1, hP1, hB1⟩ := hcut
      obtain ⟨bD0, bD1, bD2, gD0, gD1, gD2, zD⟩ := blk3 hD1
      go_wp2_with fail
      refine (sDT_any (100 * p1 + p2) m d _).mono ?_; rintro e z ⟨rfl, hz⟩
      have hP2 := blk_next hP1 hz
      have hD2 := blk_next hD1 hz
      have hB2 := bel_next hB1 hz
      clear bD0 bD1 bD2 gD0 gD1 gD2 zD hD1 hP1 hB1 hz
      obtain ⟨bP0, bP1, bP2, gP0, gP1, gP2, zP⟩ := blk3 hP2
      obtain ⟨bD0, bD1, bD2, gD0, gD1, gD2, zD⟩ := blk3 hD2
      by_cases he : dateL (100 * p1 + p2) m d = s.data.toList
      · have HR : Hid (ReadIs s.data.toList (100 * p1 + p2) m d true) := read_yes HL.out he
        rw [he, bs_list]
        clear he
        go_wp2_with fail
        obtain ⟨k0, k1, k2, _, _, _, _⟩ := blk3 (blk3_put (a := .int .i64 (100 * p1 + p2)) (b := .int .i64 m) (c := .int .i64 d) hP2)
        exact bodyPost_ret (v := .tuple #[.agg #[.int .i64 (100 * p1 + p2), .int .i64 m, .int .i64 d], .bool true]) (by simp [results, Tryd.results15, go_sem, k0, k1, k2]) rfl ⟨(100 * p1 + p2), m, d, true, rfl, HR.out, store3_bel hB2 (Nat.le_refl _) _ _ _⟩
      · have HR : Hid (ReadIs s.data.toList 0 0 0 false) := read_no_spc (by rw [HY.out, HM.out, HD.out]; exact he)
        have hne : (!(bs (dateL (100 * p1 + p2) m d)).toList == s.toList) = true := bs_ne he
        go_wp2_with fail
        obtain ⟨k0, k1, k2, _, _, _, _⟩ := blk3 (blk3_put (a := .int .i64 0) (b := .int .i64 0) (c := .int .i64 0) hP2)
        exact bodyPost_ret (v := .tuple #[.agg #[.int .i64 0, .int .i64 0, .int .i64 0], .bool false]) (by simp [results, Tryd.results15, go_sem, k0, k1, k2]) rfl ⟨0, 0, 0, false, rfl, HR.out, store3_bel hB2 (Nat.le_refl _) _ _ _⟩
  · have hlen : s.data.toList.length ≠ 10 := by simpa using h10
    have HR := Lib.hid (read_short hlen)
    clear hlen
    go_enter Tryd.func15, Tryd.ntmps15
    go_wp2_with fail
    exact bodyPost_ret (v := .tuple #[.agg #[.int .i64 0, .int .i64 0, .int .i64 0], .bool false]) (by simp [results, Tryd.results15, go_sem]) rfl ⟨0, 0, 0, false, rfl, HR.out, (bel1 _ _)⟩
end Go.Proofs.YtpkjgepchincjaaDoor
