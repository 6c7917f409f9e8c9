/- FnOutlineJoin: whatever the input, the law returns true, and its arguments read as they did. No conditions beyond those of the statement's row. -/
import Derived.Test.YtifnengegbiijabDk
import Derived.Test.YtifnengegbiijabKp
import Derived.Test.YtifnengegbiijabKf
import Derived.Test.YtifnengegbiijabLp
namespace Go.Proofs.Ytifnengegbiijab.fnOutlineJoin
open Go.Proofs.Ytifnengegbiijab
open Go.ChangeShapes Go.WideShapes Go.ChangeAt Go.RowKit Go.Joins
set_option linter.unusedVariables false
set_option linter.unusedSimpArgs false
set_option linter.unnecessarySimpa false

theorem own : ownKnob Try.prog.godebug = none := by kernel_rfl
theorem laidOut : laidOutB Try.prog = true := by kernel_rfl

set_option maxRecDepth 100000 in
set_option maxHeartbeats 4000000 in
theorem walk (w : World) (a0 : Option Addr) (len0 cap0 : Nat) (w0 : CodeOk w a0 len0 cap0) (a1 : Option Addr) (len1 cap1 : Nat) (w1 : CodeOk w a1 len1 cap1) :
    Calls Try.prog 9 #[.slice a0 len0 cap0, .slice a1 len1 cap1] w fun e w' => e = .returned (.bool true) ∧ Below w.heap.size w w' := by
  have v0' := w0.2.1
  unfold maxLen at v0'
  have v1' := w1.2.1
  unfold maxLen at v1'
  have hle0 := w0.1
  have hle1 := w1.1
  by_cases hl : 1048576 < len0
  · clear w0 w1
    go_enter Try.func9, Try.ntmps9
    go_wp2
    go_ret
    exact ⟨rfl, Below.refl _ _⟩
  · by_cases hl1 : 1048576 < len1
    · clear w0 w1
      go_enter Try.func9, Try.ntmps9
      go_wp2
      go_ret
      exact ⟨rfl, Below.refl _ _⟩
    · have HW := Lib.hid w0
      have HV2 := Lib.hid w1
      clear w0 w1
      go_enter Try.func9, Try.ntmps9
      go_wp2_with fail
      refine (drOutlineJoin_any _ _ _ _ HW.out).mono ?_; rintro e w1 ⟨a, b, Aa, Ab, cAa, cAb, rfl, ha6, hb6, ho_Aa1, ho_Ab1, hB1⟩
      obtain ⟨m_a, e8⟩ : ∃ n, a.length = n := ⟨_, rfl⟩
      rw [e8] at ha6 ⊢
      have HNa := Lib.hid e8
      clear e8
      obtain ⟨m_b, e8⟩ : ∃ n, b.length = n := ⟨_, rfl⟩
      rw [e8] at hb6 ⊢
      have HNb := Lib.hid e8
      clear e8
      obtain ⟨x, e9⟩ : ∃ l, ojL a b = l := ⟨_, rfl⟩
      have hl_x : x.length ≤ 41 := by rw [← e9]; exact ojL_len a b
      have Hx := Lib.hid e9
      clear e9
      obtain ⟨m_x, e8⟩ : ∃ n, x.length = n := ⟨_, rfl⟩
      rw [e8] at hl_x
      have HNx := Lib.hid e8
      clear e8
      go_wp2_with fail
      refine (iOj_is Aa cAa a Ab cAb b _ HNa.out HNb.out ho_Aa1.row ho_Ab1.row (by omega) (by omega) Hx.out).mono ?_; rintro e w2 ⟨X, cX, rfl, ho_X2, hw2⟩
      have ho_Aa2 := ho_Aa1.next hw2
      have ho_Ab2 := ho_Ab1.next hw2
      have hB2 := bel_next hB1 hw2
      have ho_X2 := ho_X2.mono (base' := w.heap.size) hB1.size
      rw [HNx.out]
      go_wp2_with fail
      refine (sOj_is Aa cAa a Ab cAb b _ HNa.out HNb.out ho_Aa2.row ho_Ab2.row (by omega) (by omega) Hx.out).mono ?_; rintro e w3 ⟨U, cU, rfl, ho_U3, hw3⟩
      have ho_Aa3 := ho_Aa2.next hw3
      have ho_Ab3 := ho_Ab2.next hw3
      have ho_X3 := ho_X2.next hw3
      have hB3 := bel_next hB2 hw3
      have ho_U3 := ho_U3.mono (base' := w.heap.size) hB2.size
      rw [HNx.out]
      go_wp2_with fail
      refine (sameEdges_is X U cX cU x HNx.out ho_X3.row ho_U3.row (by omega)).mono ?_; rintro e w4 ⟨rfl, hw4⟩
      have ho_Aa4 := ho_Aa3.next hw4
      have ho_Ab4 := ho_Ab3.next hw4
      have ho_X4 := ho_X3.next hw4
      have ho_U4 := ho_U3.next hw4
      have hB4 := bel_next hB3 hw4
      go_wp2_with fail
      refine (drOutlineOf_any _ _ _ _ (code_below HV2.out hB4)).mono ?_; rintro e w5 ⟨hs, AH, cH, rfl, hh7, ho_H5, hw5⟩
      have ho_Aa5 := ho_Aa4.next hw5
      have ho_Ab5 := ho_Ab4.next hw5
      have ho_X5 := ho_X4.next hw5
      have hB5 := bel_next hB4 hw5
      have ho_H5 := ho_H5.mono (base' := w.heap.size) hB4.size
      obtain ⟨m_hs, e8⟩ : ∃ n, hs.length = n := ⟨_, rfl⟩
      rw [e8] at hh7 ⊢
      have HNhs := Lib.hid e8
      clear e8
      obtain ⟨hf, ehf⟩ : ∃ q, m_hs / 2 = q := ⟨_, rfl⟩
      have hfm : hf ≤ m_hs := by omega
      have hq : ((m_hs : Int)).tdiv 2 = (hf : Int) := by rw [Int.tdiv_eq_ediv_of_nonneg (by omega)]; omega
      have hq2 : (m_hs : Int) / 2 = (hf : Int) := by omega
      clear ehf
      obtain ⟨c, e9⟩ : ∃ l, ooL hs = l := ⟨_, rfl⟩
      have hl_c : c.length ≤ 41 := by rw [← e9]; exact ooL_len hs
      have Hc := Lib.hid e9
      clear e9
      obtain ⟨m_c, e8⟩ : ∃ n, c.length = n := ⟨_, rfl⟩
      rw [e8] at hl_c
      have HNc := Lib.hid e8
      clear e8
      obtain ⟨t, e9⟩ : ∃ l, ooL (hs.take hf) = l := ⟨_, rfl⟩
      have hl_t : t.length ≤ 41 := by rw [← e9]; exact ooL_len _
      have Ht := Lib.hid e9
      clear e9
      obtain ⟨m_t, e8⟩ : ∃ n, t.length = n := ⟨_, rfl⟩
      rw [e8] at hl_t
      have HNt := Lib.hid e8
      clear e8
      obtain ⟨d, e9⟩ : ∃ l, ooL (hs.drop hf) = l := ⟨_, rfl⟩
      have hl_d : d.length ≤ 41 := by rw [← e9]; exact ooL_len _
      have Hd := Lib.hid e9
      clear e9
      obtain ⟨m_d, e8⟩ : ∃ n, d.length = n := ⟨_, rfl⟩
      rw [e8] at hl_d
      have HNd := Lib.hid e8
      clear e8
      cases hv : hsB hs
      · have HV := Lib.hid hv
        clear hv
        go_wp2_with fail
        refine wp_region_held_drew (S := (fun w' => SOwn encEdge w' w.heap.size 48 Aa cAa a ∧ SOwn encEdge w' w.heap.size 48 Ab cAb b ∧ SOwn encEdge w' w.heap.size 48 X cX x ∧ SOwn encHouse w' w.heap.size 35 AH cH hs ∧ Below w.heap.size w w')) (by kernel_rfl) ⟨ho_Aa5.drew, ho_Ab5.drew, ho_X5.drew, ho_H5.drew, hB5.drew⟩ (fun hHeld => ?_)
        obtain ⟨hAa_0, hAb_0, hX_0, hH_0, hB_0⟩ := id hHeld
        refine wpAnyH_take (i := 0) (oi := _) (v := ?_) rfl (by kernel_rfl) (by kernel_rfl) (by kernel_rfl) (fun _ _ _ h => h) (Or.inl ⟨by rfl, ?_⟩) (by assumption) ?_
        (rotate_left); (focus (intro wv hSw; (obtain ⟨qAa, qAb, qX, qH, qB⟩ := hSw);  go_simp; (try with_reducible rfl)))
        try simp only [Act.put, List.getElem_toArray, List.getElem_cons_succ, List.getElem_cons_zero, List.setIfInBounds_toArray, List.set_cons_zero, List.set_cons_succ]
        refine wpAnyH_ready (rs := [1]) (by kernel_rfl) (by simp) ?_
        refine AllReadyH.cons (o := _) rfl (fun K hK => ?_) AllReadyH.nil
        go_simp
        (go_at_call 20; refine (sHs_is AH cH hs _ HNhs.out hH_0.row (by omega) HV.out).mono ?_; rintro e x0c ⟨rfl, hw_0c⟩)
        refine hK.out _ _ ⟨hAa_0.next hw_0c, hAb_0.next hw_0c, hX_0.next hw_0c, hH_0.next hw_0c, bel_next hB_0 hw_0c⟩ (fun hHeld => ?_)
        clear hK K
        try simp only [Act.put, List.getElem_toArray, List.getElem_cons_succ, List.getElem_cons_zero, List.setIfInBounds_toArray, List.set_cons_zero, List.set_cons_succ]
        obtain ⟨hAa_0c, hAb_0c, hX_0c, hH_0c, hB_0c⟩ := id hHeld
        refine wpAnyH_take (i := 2) (oi := _) (v := ?_) rfl (by kernel_rfl) (by kernel_rfl) (by kernel_rfl) (fun _ _ _ h => h) (Or.inl ⟨by rfl, ?_⟩) (by assumption) ?_
        (rotate_left); (focus (intro wv hSw; (obtain ⟨qAa, qAb, qX, qH, qB⟩ := hSw);  go_simp; (try with_reducible rfl)))
        try simp only [Act.put, List.getElem_toArray, List.getElem_cons_succ, List.getElem_cons_zero, List.setIfInBounds_toArray, List.set_cons_zero, List.set_cons_succ]
        refine wpAnyH_take (i := 3) (oi := _) (v := undef) rfl (by kernel_rfl) (by kernel_rfl) (by kernel_rfl) (fun _ _ _ h => h) (Or.inr ⟨by kernel_rfl, rfl⟩) (by assumption) ?_
        try simp only [Act.put, List.getElem_toArray, List.getElem_cons_succ, List.getElem_cons_zero, List.setIfInBounds_toArray, List.set_cons_zero, List.set_cons_succ]
        refine wpAnyH_take (i := 4) (oi := _) (v := undef) rfl (by kernel_rfl) (by kernel_rfl) (by kernel_rfl) (fun _ _ _ h => h) (Or.inr ⟨by kernel_rfl, rfl⟩) (by assumption) ?_
        try simp only [Act.put, List.getElem_toArray, List.getElem_cons_succ, List.getElem_cons_zero, List.setIfInBounds_toArray, List.set_cons_zero, List.set_cons_succ]
        refine wpAnyH_take (i := 5) (oi := _) (v := undef) rfl (by kernel_rfl) (by kernel_rfl) (by kernel_rfl) (fun _ _ _ h => h) (Or.inr ⟨by kernel_rfl, rfl⟩) (by assumption) ?_
        try simp only [Act.put, List.getElem_toArray, List.getElem_cons_succ, List.getElem_cons_zero, List.setIfInBounds_toArray, List.set_cons_zero, List.set_cons_succ]
        refine wpAnyH_take (i := 6) (oi := _) (v := undef) rfl (by kernel_rfl) (by kernel_rfl) (by kernel_rfl) (fun _ _ _ h => h) (Or.inr ⟨by kernel_rfl, rfl⟩) (by assumption) ?_
        try simp only [Act.put, List.getElem_toArray, List.getElem_cons_succ, List.getElem_cons_zero, List.setIfInBounds_toArray, List.set_cons_zero, List.set_cons_succ]
        refine wpAnyH_take (i := 7) (oi := _) (v := undef) rfl (by kernel_rfl) (by kernel_rfl) (by kernel_rfl) (fun _ _ _ h => h) (Or.inr ⟨by kernel_rfl, rfl⟩) (by assumption) ?_
        try simp only [Act.put, List.getElem_toArray, List.getElem_cons_succ, List.getElem_cons_zero, List.setIfInBounds_toArray, List.set_cons_zero, List.set_cons_succ]
        refine wpAnyH_take (i := 8) (oi := _) (v := undef) rfl (by kernel_rfl) (by kernel_rfl) (by kernel_rfl) (fun _ _ _ h => h) (Or.inr ⟨by kernel_rfl, rfl⟩) (by assumption) ?_
        try simp only [Act.put, List.getElem_toArray, List.getElem_cons_succ, List.getElem_cons_zero, List.setIfInBounds_toArray, List.set_cons_zero, List.set_cons_succ]
        refine wpAnyH_take (i := 9) (oi := _) (v := undef) rfl (by kernel_rfl) (by kernel_rfl) (by kernel_rfl) (fun _ _ _ h => h) (Or.inr ⟨by kernel_rfl, rfl⟩) (by assumption) ?_
        try simp only [Act.put, List.getElem_toArray, List.getElem_cons_succ, List.getElem_cons_zero, List.setIfInBounds_toArray, List.set_cons_zero, List.set_cons_succ]
        refine wpAnyH_take (i := 10) (oi := _) (v := undef) rfl (by kernel_rfl) (by kernel_rfl) (by kernel_rfl) (fun _ _ _ h => h) (Or.inr ⟨by kernel_rfl, rfl⟩) (by assumption) ?_
        try simp only [Act.put, List.getElem_toArray, List.getElem_cons_succ, List.getElem_cons_zero, List.setIfInBounds_toArray, List.set_cons_zero, List.set_cons_succ]
        refine wpAnyH_take (i := 11) (oi := _) (v := undef) rfl (by kernel_rfl) (by kernel_rfl) (by kernel_rfl) (fun _ _ _ h => h) (Or.inr ⟨by kernel_rfl, rfl⟩) (by assumption) ?_
        try simp only [Act.put, List.getElem_toArray, List.getElem_cons_succ, List.getElem_cons_zero, List.setIfInBounds_toArray, List.set_cons_zero, List.set_cons_succ]
        refine wpAnyH_take (i := 12) (oi := _) (v := undef) rfl (by kernel_rfl) (by kernel_rfl) (by kernel_rfl) (fun _ _ _ h => h) (Or.inr ⟨by kernel_rfl, rfl⟩) (by assumption) ?_
        try simp only [Act.put, List.getElem_toArray, List.getElem_cons_succ, List.getElem_cons_zero, List.setIfInBounds_toArray, List.set_cons_zero, List.set_cons_succ]
        refine wpAnyH_take (i := 13) (oi := _) (v := undef) rfl (by kernel_rfl) (by kernel_rfl) (by kernel_rfl) (fun _ _ _ h => h) (Or.inr ⟨by kernel_rfl, rfl⟩) (by assumption) ?_
        try simp only [Act.put, List.getElem_toArray, List.getElem_cons_succ, List.getElem_cons_zero, List.setIfInBounds_toArray, List.set_cons_zero, List.set_cons_succ]
        refine wpAnyH_take (i := 14) (oi := _) (v := undef) rfl (by kernel_rfl) (by kernel_rfl) (by kernel_rfl) (fun _ _ _ h => h) (Or.inr ⟨by kernel_rfl, rfl⟩) (by assumption) ?_
        try simp only [Act.put, List.getElem_toArray, List.getElem_cons_succ, List.getElem_cons_zero, List.setIfInBounds_toArray, List.set_cons_zero, List.set_cons_succ]
        refine wpAnyH_take (i := 15) (oi := _) (v := undef) rfl (by kernel_rfl) (by kernel_rfl) (by kernel_rfl) (fun _ _ _ h => h) (Or.inr ⟨by kernel_rfl, rfl⟩) (by assumption) ?_
        try simp only [Act.put, List.getElem_toArray, List.getElem_cons_succ, List.getElem_cons_zero, List.setIfInBounds_toArray, List.set_cons_zero, List.set_cons_succ]
        refine wpAnyH_take (i := 16) (oi := _) (v := ?_) rfl (by kernel_rfl) (by kernel_rfl) (by kernel_rfl) (fun _ _ _ h => h) (Or.inl ⟨by rfl, ?_⟩) (by assumption) ?_
        (rotate_left); (focus (intro wv hSw; (obtain ⟨qAa, qAb, qX, qH, qB⟩ := hSw);  go_simp; (try with_reducible rfl)))
        try simp only [Act.put, List.getElem_toArray, List.getElem_cons_succ, List.getElem_cons_zero, List.setIfInBounds_toArray, List.set_cons_zero, List.set_cons_succ]
        refine wpAnyH_done (by kernel_rfl) ?_ _
        have ho_Aa30 := hAa_0c
        have ho_Ab30 := hAb_0c
        have ho_X30 := hX_0c
        have ho_H30 := hH_0c
        have hB30 := hB_0c
        clear hAa_0c hAb_0c hX_0c hH_0c hB_0c
        cases va : olB a
        · obtain rfl : m_x = 0 := by rw [← HNx.out, ← Hx.out, ojL_nil (.inl va)]; rfl
          have HVA := Lib.hid va
          clear va
          go_wp2_with fail
          refine (sOv_is Aa cAa a _ HNa.out ho_Aa30.row (by omega) HVA.out).mono ?_; rintro e w31 ⟨rfl, hw31⟩
          have ho_Aa31 := ho_Aa30.next hw31
          have ho_Ab31 := ho_Ab30.next hw31
          have ho_X31 := ho_X30.next hw31
          have ho_H31 := ho_H30.next hw31
          have hB31 := bel_next hB30 hw31
          go_wp2_with fail
          refine (alive_any _).mono ?_; rintro e w' ⟨rfl, rfl⟩
          go_wp2
          go_ret
          exact ⟨rfl, hB31⟩
        · cases vb : olB b
          · obtain rfl : m_x = 0 := by rw [← HNx.out, ← Hx.out, ojL_nil (.inr vb)]; rfl
            have HVA := Lib.hid va
            have HVB := Lib.hid vb
            clear va vb
            go_wp2_with fail
            refine (sOv_is Aa cAa a _ HNa.out ho_Aa30.row (by omega) HVA.out).mono ?_; rintro e w31 ⟨rfl, hw31⟩
            have ho_Aa31 := ho_Aa30.next hw31
            have ho_Ab31 := ho_Ab30.next hw31
            have ho_X31 := ho_X30.next hw31
            have ho_H31 := ho_H30.next hw31
            have hB31 := bel_next hB30 hw31
            go_wp2_with fail
            refine (sOv_is Ab cAb b _ HNb.out ho_Ab31.row (by omega) HVB.out).mono ?_; rintro e w32 ⟨rfl, hw32⟩
            have ho_Aa32 := ho_Aa31.next hw32
            have ho_Ab32 := ho_Ab31.next hw32
            have ho_X32 := ho_X31.next hw32
            have ho_H32 := ho_H31.next hw32
            have hB32 := bel_next hB31 hw32
            go_wp2_with fail
            refine (alive_any _).mono ?_; rintro e w' ⟨rfl, rfl⟩
            go_wp2
            go_ret
            exact ⟨rfl, hB32⟩
          · have HVX : Hid (olB x = true) := by show _ = _; rw [← Hx.out]; exact ojL_ok va vb
            have Hba : Hid (ojL b a = x) := by show _ = _; rw [ojL_comm]; exact Hx.out
            have Haa : Hid (ojL a a = a) := by show _ = _; exact ojL_self va
            obtain ⟨xc, e9⟩ : ∃ l, ojL x c = l := ⟨_, rfl⟩
            have hl_xc : xc.length ≤ 41 := by rw [← e9]; exact ojL_len _ _
            have Hxc := Lib.hid e9
            clear e9
            obtain ⟨m_xc, e8⟩ : ∃ n, xc.length = n := ⟨_, rfl⟩
            rw [e8] at hl_xc
            have HNxc := Lib.hid e8
            clear e8
            obtain ⟨bc, e9⟩ : ∃ l, ojL b c = l := ⟨_, rfl⟩
            have hl_bc : bc.length ≤ 41 := by rw [← e9]; exact ojL_len _ _
            have Hbc := Lib.hid e9
            clear e9
            obtain ⟨m_bc, e8⟩ : ∃ n, bc.length = n := ⟨_, rfl⟩
            rw [e8] at hl_bc
            have HNbc := Lib.hid e8
            clear e8
            have Habc : Hid (ojL a bc = xc) := by show _ = _; rw [← Hbc.out, ← Hxc.out, ← Hx.out]; exact (ojL_assoc va vb (by rw [← Hc.out]; exact ooL_ol hs)).symm
            have HVA := Lib.hid va
            have HVB := Lib.hid vb
            clear va vb
            go_wp2_with fail
            refine (sOv_is Aa cAa a _ HNa.out ho_Aa30.row (by omega) HVA.out).mono ?_; rintro e w31 ⟨rfl, hw31⟩
            have ho_Aa31 := ho_Aa30.next hw31
            have ho_Ab31 := ho_Ab30.next hw31
            have ho_X31 := ho_X30.next hw31
            have ho_H31 := ho_H30.next hw31
            have hB31 := bel_next hB30 hw31
            go_wp2_with fail
            refine (sOv_is Ab cAb b _ HNb.out ho_Ab31.row (by omega) HVB.out).mono ?_; rintro e w32 ⟨rfl, hw32⟩
            have ho_Aa32 := ho_Aa31.next hw32
            have ho_Ab32 := ho_Ab31.next hw32
            have ho_X32 := ho_X31.next hw32
            have ho_H32 := ho_H31.next hw32
            have hB32 := bel_next hB31 hw32
            go_wp2_with fail
            refine (iOo_is AH cH hs _ HNhs.out ho_H32.row (by omega) Hc.out).mono ?_; rintro e w33 ⟨C, cC, rfl, ho_C33, hw33⟩
            have ho_Aa33 := ho_Aa32.next hw33
            have ho_Ab33 := ho_Ab32.next hw33
            have ho_X33 := ho_X32.next hw33
            have ho_H33 := ho_H32.next hw33
            have hB33 := bel_next hB32 hw33
            have ho_C33 := ho_C33.mono (base' := w.heap.size) hB32.size
            rw [HNc.out]
            go_wp2_with fail
            refine (iOv_is X cX x _ HNx.out ho_X33.row (by omega) HVX.out).mono ?_; rintro e w34 ⟨rfl, hw34⟩
            have ho_Aa34 := ho_Aa33.next hw34
            have ho_Ab34 := ho_Ab33.next hw34
            have ho_X34 := ho_X33.next hw34
            have ho_H34 := ho_H33.next hw34
            have ho_C34 := ho_C33.next hw34
            have hB34 := bel_next hB33 hw34
            go_wp2_with fail
            refine (iOj_is Ab cAb b Aa cAa a _ HNb.out HNa.out ho_Ab34.row ho_Aa34.row (by omega) (by omega) Hba.out).mono ?_; rintro e w35 ⟨Y, cY, rfl, ho_Y35, hw35⟩
            have ho_Aa35 := ho_Aa34.next hw35
            have ho_Ab35 := ho_Ab34.next hw35
            have ho_X35 := ho_X34.next hw35
            have ho_H35 := ho_H34.next hw35
            have ho_C35 := ho_C34.next hw35
            have hB35 := bel_next hB34 hw35
            have ho_Y35 := ho_Y35.mono (base' := w.heap.size) hB34.size
            rw [HNx.out]
            go_wp2_with fail
            refine (sameEdges_is X Y cX cY x HNx.out ho_X35.row ho_Y35.row (by omega)).mono ?_; rintro e w36 ⟨rfl, hw36⟩
            have ho_Aa36 := ho_Aa35.next hw36
            have ho_Ab36 := ho_Ab35.next hw36
            have ho_X36 := ho_X35.next hw36
            have ho_H36 := ho_H35.next hw36
            have ho_C36 := ho_C35.next hw36
            have ho_Y36 := ho_Y35.next hw36
            have hB36 := bel_next hB35 hw36
            go_wp2_with fail
            refine (iOj_is Aa cAa a Aa cAa a _ HNa.out HNa.out ho_Aa36.row ho_Aa36.row (by omega) (by omega) Haa.out).mono ?_; rintro e w37 ⟨W, cW, rfl, ho_W37, hw37⟩
            have ho_Aa37 := ho_Aa36.next hw37
            have ho_Ab37 := ho_Ab36.next hw37
            have ho_X37 := ho_X36.next hw37
            have ho_H37 := ho_H36.next hw37
            have ho_C37 := ho_C36.next hw37
            have ho_Y37 := ho_Y36.next hw37
            have hB37 := bel_next hB36 hw37
            have ho_W37 := ho_W37.mono (base' := w.heap.size) hB36.size
            rw [HNa.out]
            go_wp2_with fail
            refine (sameEdges_is W Aa cW cAa a HNa.out ho_W37.row ho_Aa37.row (by omega)).mono ?_; rintro e w38 ⟨rfl, hw38⟩
            have ho_Aa38 := ho_Aa37.next hw38
            have ho_Ab38 := ho_Ab37.next hw38
            have ho_X38 := ho_X37.next hw38
            have ho_H38 := ho_H37.next hw38
            have ho_C38 := ho_C37.next hw38
            have ho_Y38 := ho_Y37.next hw38
            have ho_W38 := ho_W37.next hw38
            have hB38 := bel_next hB37 hw38
            go_wp2_with fail
            refine (iOj_is X cX x C cC c _ HNx.out HNc.out ho_X38.row ho_C38.row (by omega) (by omega) Hxc.out).mono ?_; rintro e w39 ⟨P, cP, rfl, ho_P39, hw39⟩
            have ho_Aa39 := ho_Aa38.next hw39
            have ho_Ab39 := ho_Ab38.next hw39
            have ho_X39 := ho_X38.next hw39
            have ho_H39 := ho_H38.next hw39
            have ho_C39 := ho_C38.next hw39
            have ho_Y39 := ho_Y38.next hw39
            have ho_W39 := ho_W38.next hw39
            have hB39 := bel_next hB38 hw39
            have ho_P39 := ho_P39.mono (base' := w.heap.size) hB38.size
            rw [HNxc.out]
            go_wp2_with fail
            refine (iOj_is Ab cAb b C cC c _ HNb.out HNc.out ho_Ab39.row ho_C39.row (by omega) (by omega) Hbc.out).mono ?_; rintro e w40 ⟨Q, cQ, rfl, ho_Q40, hw40⟩
            have ho_Aa40 := ho_Aa39.next hw40
            have ho_Ab40 := ho_Ab39.next hw40
            have ho_X40 := ho_X39.next hw40
            have ho_H40 := ho_H39.next hw40
            have ho_C40 := ho_C39.next hw40
            have ho_Y40 := ho_Y39.next hw40
            have ho_W40 := ho_W39.next hw40
            have ho_P40 := ho_P39.next hw40
            have hB40 := bel_next hB39 hw40
            have ho_Q40 := ho_Q40.mono (base' := w.heap.size) hB39.size
            rw [HNbc.out]
            go_wp2_with fail
            refine (iOj_is Aa cAa a Q cQ bc _ HNa.out HNbc.out ho_Aa40.row ho_Q40.row (by omega) (by omega) Habc.out).mono ?_; rintro e w41 ⟨R, cR, rfl, ho_R41, hw41⟩
            have ho_Aa41 := ho_Aa40.next hw41
            have ho_Ab41 := ho_Ab40.next hw41
            have ho_X41 := ho_X40.next hw41
            have ho_H41 := ho_H40.next hw41
            have ho_C41 := ho_C40.next hw41
            have ho_Y41 := ho_Y40.next hw41
            have ho_W41 := ho_W40.next hw41
            have ho_P41 := ho_P40.next hw41
            have ho_Q41 := ho_Q40.next hw41
            have hB41 := bel_next hB40 hw41
            have ho_R41 := ho_R41.mono (base' := w.heap.size) hB40.size
            rw [HNxc.out]
            go_wp2_with fail
            refine (sameEdges_is P R cP cR xc HNxc.out ho_P41.row ho_R41.row (by omega)).mono ?_; rintro e w42 ⟨rfl, hw42⟩
            have ho_Aa42 := ho_Aa41.next hw42
            have ho_Ab42 := ho_Ab41.next hw42
            have ho_X42 := ho_X41.next hw42
            have ho_H42 := ho_H41.next hw42
            have ho_C42 := ho_C41.next hw42
            have ho_Y42 := ho_Y41.next hw42
            have ho_W42 := ho_W41.next hw42
            have ho_P42 := ho_P41.next hw42
            have ho_Q42 := ho_Q41.next hw42
            have ho_R42 := ho_R41.next hw42
            have hB42 := bel_next hB41 hw42
            go_wp2
            go_ret
            exact ⟨rfl, hB42⟩
      · have HHV := Lib.hid hv
        have HJ : Hid (ojL t d = c) := by show _ = _; rw [← Ht.out, ← Hd.out, ← Hc.out]; exact (ooL_halves hv hf).symm
        have HTL : Hid ((hs.take hf).length = hf) := by show _ = _; rw [List.length_take, HNhs.out]; omega
        have HDL : Hid ((hs.drop hf).length = m_hs - hf) := by show _ = _; rw [List.length_drop, HNhs.out]
        have HV := Lib.hid hv
        clear hv
        obtain ⟨hcap, _⟩ := ho_H5.cap
        rw [HNhs.out] at hcap
        have hfc : (hf : Int) ≤ (cH : Int) := by omega
        have hfm2 : (hf : Int) ≤ (m_hs : Int) := by omega
        by_cases hm0 : m_hs = 0
        · obtain rfl : m_hs = 0 := hm0
          obtain rfl : hf = 0 := by omega
          have HDE : Hid (hs.drop 0 = []) := by show _ = _; rw [List.drop_zero]; exact List.length_eq_zero_iff.1 HNhs.out
          rcases ho_H5.form with ⟨rfl, _, rfl⟩ | ⟨g, rfl, _, _⟩
          · go_wp2_with fail
            refine wp_region_held_drew (S := (fun w' => SOwn encEdge w' w.heap.size 48 Aa cAa a ∧ SOwn encEdge w' w.heap.size 48 Ab cAb b ∧ SOwn encEdge w' w.heap.size 48 X cX x ∧ SOwn encHouse w' w.heap.size 35 none 0 hs ∧ Below w.heap.size w w')) (by kernel_rfl) ⟨ho_Aa5.drew, ho_Ab5.drew, ho_X5.drew, ho_H5.drew, hB5.drew⟩ (fun hHeld => ?_)
            obtain ⟨hAa_0, hAb_0, hX_0, hH_0, hB_0⟩ := id hHeld
            refine wpAnyH_take (i := 0) (oi := _) (v := ?_) rfl (by kernel_rfl) (by kernel_rfl) (by kernel_rfl) (fun _ _ _ h => h) (Or.inl ⟨by rfl, ?_⟩) (by assumption) ?_
            (rotate_left); (focus (intro wv hSw; (obtain ⟨qAa, qAb, qX, qH, qB⟩ := hSw);  go_simp; (try with_reducible rfl)))
            try simp only [Act.put, List.getElem_toArray, List.getElem_cons_succ, List.getElem_cons_zero, List.setIfInBounds_toArray, List.set_cons_zero, List.set_cons_succ]
            refine wpAnyH_ready (rs := [1]) (by kernel_rfl) (by simp) ?_
            refine AllReadyH.cons (o := _) rfl (fun K hK => ?_) AllReadyH.nil
            go_simp
            (go_at_call 20; refine (sHs_is none 0 hs _ HNhs.out hH_0.row (by omega) HV.out).mono ?_; rintro e x0c ⟨rfl, hw_0c⟩)
            refine hK.out _ _ ⟨hAa_0.next hw_0c, hAb_0.next hw_0c, hX_0.next hw_0c, hH_0.next hw_0c, bel_next hB_0 hw_0c⟩ (fun hHeld => ?_)
            clear hK K
            try simp only [Act.put, List.getElem_toArray, List.getElem_cons_succ, List.getElem_cons_zero, List.setIfInBounds_toArray, List.set_cons_zero, List.set_cons_succ]
            obtain ⟨hAa_0c, hAb_0c, hX_0c, hH_0c, hB_0c⟩ := id hHeld
            refine wpAnyH_take (i := 2) (oi := _) (v := ?_) rfl (by kernel_rfl) (by kernel_rfl) (by kernel_rfl) (fun _ _ _ h => h) (Or.inl ⟨by rfl, ?_⟩) (by assumption) ?_
            (rotate_left); (focus (intro wv hSw; (obtain ⟨qAa, qAb, qX, qH, qB⟩ := hSw);  go_simp; (try with_reducible rfl)))
            try simp only [Act.put, List.getElem_toArray, List.getElem_cons_succ, List.getElem_cons_zero, List.setIfInBounds_toArray, List.set_cons_zero, List.set_cons_succ]
            refine wpAnyH_take (i := 3) (oi := _) (v := ?_) rfl (by kernel_rfl) (by kernel_rfl) (by kernel_rfl) (fun _ _ _ h => h) (Or.inl ⟨by rfl, ?_⟩) (by assumption) ?_
            (rotate_left); (focus (intro wv hSw; (obtain ⟨qAa, qAb, qX, qH, qB⟩ := hSw);  go_simp; (try with_reducible rfl)))
            try simp only [Act.put, List.getElem_toArray, List.getElem_cons_succ, List.getElem_cons_zero, List.setIfInBounds_toArray, List.set_cons_zero, List.set_cons_succ]
            refine wpAnyH_take (i := 5) (oi := _) (v := ?_) rfl (by kernel_rfl) (by kernel_rfl) (by kernel_rfl) (fun _ _ _ h => h) (Or.inl ⟨by rfl, ?_⟩) (by assumption) ?_
            (rotate_left); (focus (intro wv hSw; (obtain ⟨qAa, qAb, qX, qH, qB⟩ := hSw);  go_simp; (try with_reducible rfl)))
            try simp only [Act.put, List.getElem_toArray, List.getElem_cons_succ, List.getElem_cons_zero, List.setIfInBounds_toArray, List.set_cons_zero, List.set_cons_succ]
            refine wpAnyH_take (i := 6) (oi := _) (v := ?_) rfl (by kernel_rfl) (by kernel_rfl) (by kernel_rfl) (fun _ _ _ h => h) (Or.inl ⟨by rfl, ?_⟩) (by assumption) ?_
            (rotate_left); (focus (intro wv hSw; (obtain ⟨qAa, qAb, qX, qH, qB⟩ := hSw);  go_simp; (try with_reducible rfl)))
            try simp only [Act.put, List.getElem_toArray, List.getElem_cons_succ, List.getElem_cons_zero, List.setIfInBounds_toArray, List.set_cons_zero, List.set_cons_succ]
            refine wpAnyH_take (i := 7) (oi := _) (v := ?_) rfl (by kernel_rfl) (by kernel_rfl) (by kernel_rfl) (fun _ _ _ h => h) (Or.inl ⟨by rfl, ?_⟩) (by assumption) ?_
            (rotate_left); (focus (intro wv hSw; (obtain ⟨qAa, qAb, qX, qH, qB⟩ := hSw);  go_simp; (try with_reducible rfl)))
            try simp only [Act.put, List.getElem_toArray, List.getElem_cons_succ, List.getElem_cons_zero, List.setIfInBounds_toArray, List.set_cons_zero, List.set_cons_succ]
            refine wpAnyH_take (i := 9) (oi := _) (v := ?_) rfl (by kernel_rfl) (by kernel_rfl) (by kernel_rfl) (fun _ _ _ h => h) (Or.inl ⟨by rfl, ?_⟩) (by assumption) ?_
            (rotate_left); (focus (intro wv hSw; (obtain ⟨qAa, qAb, qX, qH, qB⟩ := hSw);  go_simp; (try with_reducible rfl)))
            try simp only [Act.put, List.getElem_toArray, List.getElem_cons_succ, List.getElem_cons_zero, List.setIfInBounds_toArray, List.set_cons_zero, List.set_cons_succ]
            refine wpAnyH_take (i := 10) (oi := _) (v := ?_) rfl (by kernel_rfl) (by kernel_rfl) (by kernel_rfl) (fun _ _ _ h => h) (Or.inl ⟨by rfl, ?_⟩) (by assumption) ?_
            (rotate_left); (focus (intro wv hSw; (obtain ⟨qAa, qAb, qX, qH, qB⟩ := hSw);  go_simp; (try with_reducible rfl)))
            try simp only [Act.put, List.getElem_toArray, List.getElem_cons_succ, List.getElem_cons_zero, List.setIfInBounds_toArray, List.set_cons_zero, List.set_cons_succ]
            refine wpAnyH_take (i := 11) (oi := _) (v := ?_) rfl (by kernel_rfl) (by kernel_rfl) (by kernel_rfl) (fun _ _ _ h => h) (Or.inl ⟨by rfl, ?_⟩) (by assumption) ?_
            (rotate_left); (focus (intro wv hSw; (obtain ⟨qAa, qAb, qX, qH, qB⟩ := hSw);  go_simp; (try with_reducible rfl)))
            try simp only [Act.put, List.getElem_toArray, List.getElem_cons_succ, List.getElem_cons_zero, List.setIfInBounds_toArray, List.set_cons_zero, List.set_cons_succ]
            refine wpAnyH_ready (rs := [4]) (by kernel_rfl) (by simp) ?_
            refine AllReadyH.cons (o := _) rfl (fun K hK => ?_) AllReadyH.nil
            go_simp
            (go_at_call 28; refine (iOo_is none 0 hs _ HNhs.out hH_0c.row (by omega) Hc.out).mono ?_; rintro e x0cc ⟨C1, cC1, rfl, hoC1_0cc, hw_0cc⟩; rw [HNc.out])
            refine hK.out _ _ ⟨hAa_0c.next hw_0cc, hAb_0c.next hw_0cc, hX_0c.next hw_0cc, hH_0c.next hw_0cc, bel_next hB_0c hw_0cc⟩ (fun hHeld => ?_)
            clear hK K
            try simp only [Act.put, List.getElem_toArray, List.getElem_cons_succ, List.getElem_cons_zero, List.setIfInBounds_toArray, List.set_cons_zero, List.set_cons_succ]
            obtain ⟨hAa_0cc, hAb_0cc, hX_0cc, hH_0cc, hB_0cc⟩ := id hHeld
            have hoC1_0cc := hoC1_0cc.mono (base' := w.heap.size) hB_0c.size
            refine wpAnyH_ready (rs := [8]) (by kernel_rfl) (by simp) ?_
            refine AllReadyH.cons (o := _) rfl (fun K hK => ?_) AllReadyH.nil
            go_simp
            (go_at_call 28; refine (iOo_is none 0 (hs.take 0) _ HTL.out (SRow.cutTo hH_0cc.row 0) (by omega) Ht.out).mono ?_; rintro e x0ccc ⟨T1, cT1, rfl, hoT1_0ccc, hw_0ccc⟩; rw [HNt.out])
            refine hK.out _ _ ⟨hAa_0cc.next hw_0ccc, hAb_0cc.next hw_0ccc, hX_0cc.next hw_0ccc, hH_0cc.next hw_0ccc, bel_next hB_0cc hw_0ccc⟩ (fun hHeld => ?_)
            clear hK K
            try simp only [Act.put, List.getElem_toArray, List.getElem_cons_succ, List.getElem_cons_zero, List.setIfInBounds_toArray, List.set_cons_zero, List.set_cons_succ]
            obtain ⟨hAa_0ccc, hAb_0ccc, hX_0ccc, hH_0ccc, hB_0ccc⟩ := id hHeld
            have hoC1_0ccc := hoC1_0cc.next hw_0ccc
            have hoT1_0ccc := hoT1_0ccc.mono (base' := w.heap.size) hB_0cc.size
            refine wpAnyH_ready (rs := [12]) (by kernel_rfl) (by simp) ?_
            refine AllReadyH.cons (o := _) rfl (fun K hK => ?_) AllReadyH.nil
            go_simp
            (go_at_call 28; refine (iOo_is none 0 (hs.drop 0) _ HDL.out (.inl HDE.out) (by omega) Hd.out).mono ?_; rintro e x0cccc ⟨D1, cD1, rfl, hoD1_0cccc, hw_0cccc⟩; rw [HNd.out])
            refine hK.out _ _ ⟨hAa_0ccc.next hw_0cccc, hAb_0ccc.next hw_0cccc, hX_0ccc.next hw_0cccc, hH_0ccc.next hw_0cccc, bel_next hB_0ccc hw_0cccc⟩ (fun hHeld => ?_)
            clear hK K
            try simp only [Act.put, List.getElem_toArray, List.getElem_cons_succ, List.getElem_cons_zero, List.setIfInBounds_toArray, List.set_cons_zero, List.set_cons_succ]
            obtain ⟨hAa_0cccc, hAb_0cccc, hX_0cccc, hH_0cccc, hB_0cccc⟩ := id hHeld
            have hoC1_0cccc := hoC1_0ccc.next hw_0cccc
            have hoT1_0cccc := hoT1_0ccc.next hw_0cccc
            have hoD1_0cccc := hoD1_0cccc.mono (base' := w.heap.size) hB_0ccc.size
            refine wpAnyH_ready (rs := [13]) (by kernel_rfl) (by simp) ?_
            refine AllReadyH.cons (o := _) rfl (fun K hK => ?_) AllReadyH.nil
            go_simp
            (go_at_call 35; refine (iOj_is T1 cT1 t D1 cD1 d _ HNt.out HNd.out hoT1_0cccc.row hoD1_0cccc.row (by omega) (by omega) HJ.out).mono ?_; rintro e x0ccccc ⟨J1, cJ1, rfl, hoJ1_0ccccc, hw_0ccccc⟩; rw [HNc.out])
            refine hK.out _ _ ⟨hAa_0cccc.next hw_0ccccc, hAb_0cccc.next hw_0ccccc, hX_0cccc.next hw_0ccccc, hH_0cccc.next hw_0ccccc, bel_next hB_0cccc hw_0ccccc⟩ (fun hHeld => ?_)
            clear hK K
            try simp only [Act.put, List.getElem_toArray, List.getElem_cons_succ, List.getElem_cons_zero, List.setIfInBounds_toArray, List.set_cons_zero, List.set_cons_succ]
            obtain ⟨hAa_0ccccc, hAb_0ccccc, hX_0ccccc, hH_0ccccc, hB_0ccccc⟩ := id hHeld
            have hoC1_0ccccc := hoC1_0cccc.next hw_0ccccc
            have hoT1_0ccccc := hoT1_0cccc.next hw_0ccccc
            have hoD1_0ccccc := hoD1_0cccc.next hw_0ccccc
            have hoJ1_0ccccc := hoJ1_0ccccc.mono (base' := w.heap.size) hB_0cccc.size
            refine wpAnyH_ready (rs := [14]) (by kernel_rfl) (by simp) ?_
            refine AllReadyH.cons (o := _) rfl (fun K hK => ?_) AllReadyH.nil
            go_simp
            (go_at_call 29; refine (sameEdges_is C1 J1 cC1 cJ1 c HNc.out hoC1_0ccccc.row hoJ1_0ccccc.row (by omega)).mono ?_; rintro e x0cccccc ⟨rfl, hw_0cccccc⟩)
            refine hK.out _ _ ⟨hAa_0ccccc.next hw_0cccccc, hAb_0ccccc.next hw_0cccccc, hX_0ccccc.next hw_0cccccc, hH_0ccccc.next hw_0cccccc, bel_next hB_0ccccc hw_0cccccc⟩ (fun hHeld => ?_)
            clear hK K
            try simp only [Act.put, List.getElem_toArray, List.getElem_cons_succ, List.getElem_cons_zero, List.setIfInBounds_toArray, List.set_cons_zero, List.set_cons_succ]
            obtain ⟨hAa_0cccccc, hAb_0cccccc, hX_0cccccc, hH_0cccccc, hB_0cccccc⟩ := id hHeld
            refine wpAnyH_take (i := 15) (oi := _) (v := ?_) rfl (by kernel_rfl) (by kernel_rfl) (by kernel_rfl) (fun _ _ _ h => h) (Or.inl ⟨by rfl, ?_⟩) (by assumption) ?_
            (rotate_left); (focus (intro wv hSw; (obtain ⟨qAa, qAb, qX, qH, qB⟩ := hSw);  go_simp; (try with_reducible rfl)))
            try simp only [Act.put, List.getElem_toArray, List.getElem_cons_succ, List.getElem_cons_zero, List.setIfInBounds_toArray, List.set_cons_zero, List.set_cons_succ]
            refine wpAnyH_take (i := 16) (oi := _) (v := ?_) rfl (by kernel_rfl) (by kernel_rfl) (by kernel_rfl) (fun _ _ _ h => h) (Or.inl ⟨by rfl, ?_⟩) (by assumption) ?_
            (rotate_left); (focus (intro wv hSw; (obtain ⟨qAa, qAb, qX, qH, qB⟩ := hSw);  go_simp; (try with_reducible rfl)))
            try simp only [Act.put, List.getElem_toArray, List.getElem_cons_succ, List.getElem_cons_zero, List.setIfInBounds_toArray, List.set_cons_zero, List.set_cons_succ]
            refine wpAnyH_done (by kernel_rfl) ?_ _
            have ho_Aa30 := hAa_0cccccc
            have ho_Ab30 := hAb_0cccccc
            have ho_X30 := hX_0cccccc
            have ho_H30 := hH_0cccccc
            have hB30 := hB_0cccccc
            clear hAa_0cccccc hAb_0cccccc hX_0cccccc hH_0cccccc hB_0cccccc
            cases va : olB a
            · obtain rfl : m_x = 0 := by rw [← HNx.out, ← Hx.out, ojL_nil (.inl va)]; rfl
              have HVA := Lib.hid va
              clear va
              go_wp2_with fail
              refine (sOv_is Aa cAa a _ HNa.out ho_Aa30.row (by omega) HVA.out).mono ?_; rintro e w31 ⟨rfl, hw31⟩
              have ho_Aa31 := ho_Aa30.next hw31
              have ho_Ab31 := ho_Ab30.next hw31
              have ho_X31 := ho_X30.next hw31
              have ho_H31 := ho_H30.next hw31
              have hB31 := bel_next hB30 hw31
              go_wp2_with fail
              refine (alive_any _).mono ?_; rintro e w' ⟨rfl, rfl⟩
              go_wp2
              go_ret
              exact ⟨rfl, hB31⟩
            · cases vb : olB b
              · obtain rfl : m_x = 0 := by rw [← HNx.out, ← Hx.out, ojL_nil (.inr vb)]; rfl
                have HVA := Lib.hid va
                have HVB := Lib.hid vb
                clear va vb
                go_wp2_with fail
                refine (sOv_is Aa cAa a _ HNa.out ho_Aa30.row (by omega) HVA.out).mono ?_; rintro e w31 ⟨rfl, hw31⟩
                have ho_Aa31 := ho_Aa30.next hw31
                have ho_Ab31 := ho_Ab30.next hw31
                have ho_X31 := ho_X30.next hw31
                have ho_H31 := ho_H30.next hw31
                have hB31 := bel_next hB30 hw31
                go_wp2_with fail
                refine (sOv_is Ab cAb b _ HNb.out ho_Ab31.row (by omega) HVB.out).mono ?_; rintro e w32 ⟨rfl, hw32⟩
                have ho_Aa32 := ho_Aa31.next hw32
                have ho_Ab32 := ho_Ab31.next hw32
                have ho_X32 := ho_X31.next hw32
                have ho_H32 := ho_H31.next hw32
                have hB32 := bel_next hB31 hw32
                go_wp2_with fail
                refine (alive_any _).mono ?_; rintro e w' ⟨rfl, rfl⟩
                go_wp2
                go_ret
                exact ⟨rfl, hB32⟩
              · have HVX : Hid (olB x = true) := by show _ = _; rw [← Hx.out]; exact ojL_ok va vb
                have Hba : Hid (ojL b a = x) := by show _ = _; rw [ojL_comm]; exact Hx.out
                have Haa : Hid (ojL a a = a) := by show _ = _; exact ojL_self va
                obtain ⟨xc, e9⟩ : ∃ l, ojL x c = l := ⟨_, rfl⟩
                have hl_xc : xc.length ≤ 41 := by rw [← e9]; exact ojL_len _ _
                have Hxc := Lib.hid e9
                clear e9
                obtain ⟨m_xc, e8⟩ : ∃ n, xc.length = n := ⟨_, rfl⟩
                rw [e8] at hl_xc
                have HNxc := Lib.hid e8
                clear e8
                obtain ⟨bc, e9⟩ : ∃ l, ojL b c = l := ⟨_, rfl⟩
                have hl_bc : bc.length ≤ 41 := by rw [← e9]; exact ojL_len _ _
                have Hbc := Lib.hid e9
                clear e9
                obtain ⟨m_bc, e8⟩ : ∃ n, bc.length = n := ⟨_, rfl⟩
                rw [e8] at hl_bc
                have HNbc := Lib.hid e8
                clear e8
                have Habc : Hid (ojL a bc = xc) := by show _ = _; rw [← Hbc.out, ← Hxc.out, ← Hx.out]; exact (ojL_assoc va vb (by rw [← Hc.out]; exact ooL_ol hs)).symm
                have HVA := Lib.hid va
                have HVB := Lib.hid vb
                clear va vb
                go_wp2_with fail
                refine (sOv_is Aa cAa a _ HNa.out ho_Aa30.row (by omega) HVA.out).mono ?_; rintro e w31 ⟨rfl, hw31⟩
                have ho_Aa31 := ho_Aa30.next hw31
                have ho_Ab31 := ho_Ab30.next hw31
                have ho_X31 := ho_X30.next hw31
                have ho_H31 := ho_H30.next hw31
                have hB31 := bel_next hB30 hw31
                go_wp2_with fail
                refine (sOv_is Ab cAb b _ HNb.out ho_Ab31.row (by omega) HVB.out).mono ?_; rintro e w32 ⟨rfl, hw32⟩
                have ho_Aa32 := ho_Aa31.next hw32
                have ho_Ab32 := ho_Ab31.next hw32
                have ho_X32 := ho_X31.next hw32
                have ho_H32 := ho_H31.next hw32
                have hB32 := bel_next hB31 hw32
                go_wp2_with fail
                refine (iOo_is none 0 hs _ HNhs.out ho_H32.row (by omega) Hc.out).mono ?_; rintro e w33 ⟨C, cC, rfl, ho_C33, hw33⟩
                have ho_Aa33 := ho_Aa32.next hw33
                have ho_Ab33 := ho_Ab32.next hw33
                have ho_X33 := ho_X32.next hw33
                have ho_H33 := ho_H32.next hw33
                have hB33 := bel_next hB32 hw33
                have ho_C33 := ho_C33.mono (base' := w.heap.size) hB32.size
                rw [HNc.out]
                go_wp2_with fail
                refine (iOv_is X cX x _ HNx.out ho_X33.row (by omega) HVX.out).mono ?_; rintro e w34 ⟨rfl, hw34⟩
                have ho_Aa34 := ho_Aa33.next hw34
                have ho_Ab34 := ho_Ab33.next hw34
                have ho_X34 := ho_X33.next hw34
                have ho_H34 := ho_H33.next hw34
                have ho_C34 := ho_C33.next hw34
                have hB34 := bel_next hB33 hw34
                go_wp2_with fail
                refine (iOj_is Ab cAb b Aa cAa a _ HNb.out HNa.out ho_Ab34.row ho_Aa34.row (by omega) (by omega) Hba.out).mono ?_; rintro e w35 ⟨Y, cY, rfl, ho_Y35, hw35⟩
                have ho_Aa35 := ho_Aa34.next hw35
                have ho_Ab35 := ho_Ab34.next hw35
                have ho_X35 := ho_X34.next hw35
                have ho_H35 := ho_H34.next hw35
                have ho_C35 := ho_C34.next hw35
                have hB35 := bel_next hB34 hw35
                have ho_Y35 := ho_Y35.mono (base' := w.heap.size) hB34.size
                rw [HNx.out]
                go_wp2_with fail
                refine (sameEdges_is X Y cX cY x HNx.out ho_X35.row ho_Y35.row (by omega)).mono ?_; rintro e w36 ⟨rfl, hw36⟩
                have ho_Aa36 := ho_Aa35.next hw36
                have ho_Ab36 := ho_Ab35.next hw36
                have ho_X36 := ho_X35.next hw36
                have ho_H36 := ho_H35.next hw36
                have ho_C36 := ho_C35.next hw36
                have ho_Y36 := ho_Y35.next hw36
                have hB36 := bel_next hB35 hw36
                go_wp2_with fail
                refine (iOj_is Aa cAa a Aa cAa a _ HNa.out HNa.out ho_Aa36.row ho_Aa36.row (by omega) (by omega) Haa.out).mono ?_; rintro e w37 ⟨W, cW, rfl, ho_W37, hw37⟩
                have ho_Aa37 := ho_Aa36.next hw37
                have ho_Ab37 := ho_Ab36.next hw37
                have ho_X37 := ho_X36.next hw37
                have ho_H37 := ho_H36.next hw37
                have ho_C37 := ho_C36.next hw37
                have ho_Y37 := ho_Y36.next hw37
                have hB37 := bel_next hB36 hw37
                have ho_W37 := ho_W37.mono (base' := w.heap.size) hB36.size
                rw [HNa.out]
                go_wp2_with fail
                refine (sameEdges_is W Aa cW cAa a HNa.out ho_W37.row ho_Aa37.row (by omega)).mono ?_; rintro e w38 ⟨rfl, hw38⟩
                have ho_Aa38 := ho_Aa37.next hw38
                have ho_Ab38 := ho_Ab37.next hw38
                have ho_X38 := ho_X37.next hw38
                have ho_H38 := ho_H37.next hw38
                have ho_C38 := ho_C37.next hw38
                have ho_Y38 := ho_Y37.next hw38
                have ho_W38 := ho_W37.next hw38
                have hB38 := bel_next hB37 hw38
                go_wp2_with fail
                refine (iOj_is X cX x C cC c _ HNx.out HNc.out ho_X38.row ho_C38.row (by omega) (by omega) Hxc.out).mono ?_; rintro e w39 ⟨P, cP, rfl, ho_P39, hw39⟩
                have ho_Aa39 := ho_Aa38.next hw39
                have ho_Ab39 := ho_Ab38.next hw39
                have ho_X39 := ho_X38.next hw39
                have ho_H39 := ho_H38.next hw39
                have ho_C39 := ho_C38.next hw39
                have ho_Y39 := ho_Y38.next hw39
                have ho_W39 := ho_W38.next hw39
                have hB39 := bel_next hB38 hw39
                have ho_P39 := ho_P39.mono (base' := w.heap.size) hB38.size
                rw [HNxc.out]
                go_wp2_with fail
                refine (iOj_is Ab cAb b C cC c _ HNb.out HNc.out ho_Ab39.row ho_C39.row (by omega) (by omega) Hbc.out).mono ?_; rintro e w40 ⟨Q, cQ, rfl, ho_Q40, hw40⟩
                have ho_Aa40 := ho_Aa39.next hw40
                have ho_Ab40 := ho_Ab39.next hw40
                have ho_X40 := ho_X39.next hw40
                have ho_H40 := ho_H39.next hw40
                have ho_C40 := ho_C39.next hw40
                have ho_Y40 := ho_Y39.next hw40
                have ho_W40 := ho_W39.next hw40
                have ho_P40 := ho_P39.next hw40
                have hB40 := bel_next hB39 hw40
                have ho_Q40 := ho_Q40.mono (base' := w.heap.size) hB39.size
                rw [HNbc.out]
                go_wp2_with fail
                refine (iOj_is Aa cAa a Q cQ bc _ HNa.out HNbc.out ho_Aa40.row ho_Q40.row (by omega) (by omega) Habc.out).mono ?_; rintro e w41 ⟨R, cR, rfl, ho_R41, hw41⟩
                have ho_Aa41 := ho_Aa40.next hw41
                have ho_Ab41 := ho_Ab40.next hw41
                have ho_X41 := ho_X40.next hw41
                have ho_H41 := ho_H40.next hw41
                have ho_C41 := ho_C40.next hw41
                have ho_Y41 := ho_Y40.next hw41
                have ho_W41 := ho_W40.next hw41
                have ho_P41 := ho_P40.next hw41
                have ho_Q41 := ho_Q40.next hw41
                have hB41 := bel_next hB40 hw41
                have ho_R41 := ho_R41.mono (base' := w.heap.size) hB40.size
                rw [HNxc.out]
                go_wp2_with fail
                refine (sameEdges_is P R cP cR xc HNxc.out ho_P41.row ho_R41.row (by omega)).mono ?_; rintro e w42 ⟨rfl, hw42⟩
                have ho_Aa42 := ho_Aa41.next hw42
                have ho_Ab42 := ho_Ab41.next hw42
                have ho_X42 := ho_X41.next hw42
                have ho_H42 := ho_H41.next hw42
                have ho_C42 := ho_C41.next hw42
                have ho_Y42 := ho_Y41.next hw42
                have ho_W42 := ho_W41.next hw42
                have ho_P42 := ho_P41.next hw42
                have ho_Q42 := ho_Q41.next hw42
                have ho_R42 := ho_R41.next hw42
                have hB42 := bel_next hB41 hw42
                go_wp2
                go_ret
                exact ⟨rfl, hB42⟩
          · go_wp2_with fail
            refine wp_region_held_drew (S := (fun w' => SOwn encEdge w' w.heap.size 48 Aa cAa a ∧ SOwn encEdge w' w.heap.size 48 Ab cAb b ∧ SOwn encEdge w' w.heap.size 48 X cX x ∧ SOwn encHouse w' w.heap.size 35 (some ⟨g, 0, none⟩) cH hs ∧ Below w.heap.size w w')) (by kernel_rfl) ⟨ho_Aa5.drew, ho_Ab5.drew, ho_X5.drew, ho_H5.drew, hB5.drew⟩ (fun hHeld => ?_)
            obtain ⟨hAa_0, hAb_0, hX_0, hH_0, hB_0⟩ := id hHeld
            refine wpAnyH_take (i := 0) (oi := _) (v := ?_) rfl (by kernel_rfl) (by kernel_rfl) (by kernel_rfl) (fun _ _ _ h => h) (Or.inl ⟨by rfl, ?_⟩) (by assumption) ?_
            (rotate_left); (focus (intro wv hSw; (obtain ⟨qAa, qAb, qX, qH, qB⟩ := hSw);  go_simp; (try with_reducible rfl)))
            try simp only [Act.put, List.getElem_toArray, List.getElem_cons_succ, List.getElem_cons_zero, List.setIfInBounds_toArray, List.set_cons_zero, List.set_cons_succ]
            refine wpAnyH_ready (rs := [1]) (by kernel_rfl) (by simp) ?_
            refine AllReadyH.cons (o := _) rfl (fun K hK => ?_) AllReadyH.nil
            go_simp
            (go_at_call 20; refine (sHs_is (some ⟨g, 0, none⟩) cH hs _ HNhs.out hH_0.row (by omega) HV.out).mono ?_; rintro e x0c ⟨rfl, hw_0c⟩)
            refine hK.out _ _ ⟨hAa_0.next hw_0c, hAb_0.next hw_0c, hX_0.next hw_0c, hH_0.next hw_0c, bel_next hB_0 hw_0c⟩ (fun hHeld => ?_)
            clear hK K
            try simp only [Act.put, List.getElem_toArray, List.getElem_cons_succ, List.getElem_cons_zero, List.setIfInBounds_toArray, List.set_cons_zero, List.set_cons_succ]
            obtain ⟨hAa_0c, hAb_0c, hX_0c, hH_0c, hB_0c⟩ := id hHeld
            refine wpAnyH_take (i := 2) (oi := _) (v := ?_) rfl (by kernel_rfl) (by kernel_rfl) (by kernel_rfl) (fun _ _ _ h => h) (Or.inl ⟨by rfl, ?_⟩) (by assumption) ?_
            (rotate_left); (focus (intro wv hSw; (obtain ⟨qAa, qAb, qX, qH, qB⟩ := hSw);  go_simp; (try with_reducible rfl)))
            try simp only [Act.put, List.getElem_toArray, List.getElem_cons_succ, List.getElem_cons_zero, List.setIfInBounds_toArray, List.set_cons_zero, List.set_cons_succ]
            refine wpAnyH_take (i := 3) (oi := _) (v := ?_) rfl (by kernel_rfl) (by kernel_rfl) (by kernel_rfl) (fun _ _ _ h => h) (Or.inl ⟨by rfl, ?_⟩) (by assumption) ?_
            (rotate_left); (focus (intro wv hSw; (obtain ⟨qAa, qAb, qX, qH, qB⟩ := hSw);  go_simp; (try with_reducible rfl)))
            try simp only [Act.put, List.getElem_toArray, List.getElem_cons_succ, List.getElem_cons_zero, List.setIfInBounds_toArray, List.set_cons_zero, List.set_cons_succ]
            refine wpAnyH_take (i := 5) (oi := _) (v := ?_) rfl (by kernel_rfl) (by kernel_rfl) (by kernel_rfl) (fun _ _ _ h => h) (Or.inl ⟨by rfl, ?_⟩) (by assumption) ?_
            (rotate_left); (focus (intro wv hSw; (obtain ⟨qAa, qAb, qX, qH, qB⟩ := hSw);  go_simp; (try with_reducible rfl)))
            try simp only [Act.put, List.getElem_toArray, List.getElem_cons_succ, List.getElem_cons_zero, List.setIfInBounds_toArray, List.set_cons_zero, List.set_cons_succ]
            refine wpAnyH_take (i := 6) (oi := _) (v := ?_) rfl (by kernel_rfl) (by kernel_rfl) (by kernel_rfl) (fun _ _ _ h => h) (Or.inl ⟨by rfl, ?_⟩) (by assumption) ?_
            (rotate_left); (focus (intro wv hSw; (obtain ⟨qAa, qAb, qX, qH, qB⟩ := hSw);  go_simp; (try with_reducible rfl)))
            try simp only [Act.put, List.getElem_toArray, List.getElem_cons_succ, List.getElem_cons_zero, List.setIfInBounds_toArray, List.set_cons_zero, List.set_cons_succ]
            refine wpAnyH_take (i := 7) (oi := _) (v := ?_) rfl (by kernel_rfl) (by kernel_rfl) (by kernel_rfl) (fun _ _ _ h => h) (Or.inl ⟨by rfl, ?_⟩) (by assumption) ?_
            (rotate_left); (focus (intro wv hSw; (obtain ⟨qAa, qAb, qX, qH, qB⟩ := hSw);  go_simp; (try with_reducible rfl)))
            try simp only [Act.put, List.getElem_toArray, List.getElem_cons_succ, List.getElem_cons_zero, List.setIfInBounds_toArray, List.set_cons_zero, List.set_cons_succ]
            refine wpAnyH_take (i := 9) (oi := _) (v := ?_) rfl (by kernel_rfl) (by kernel_rfl) (by kernel_rfl) (fun _ _ _ h => h) (Or.inl ⟨by rfl, ?_⟩) (by assumption) ?_
            (rotate_left); (focus (intro wv hSw; (obtain ⟨qAa, qAb, qX, qH, qB⟩ := hSw);  go_simp; (try with_reducible rfl)))
            try simp only [Act.put, List.getElem_toArray, List.getElem_cons_succ, List.getElem_cons_zero, List.setIfInBounds_toArray, List.set_cons_zero, List.set_cons_succ]
            refine wpAnyH_take (i := 10) (oi := _) (v := ?_) rfl (by kernel_rfl) (by kernel_rfl) (by kernel_rfl) (fun _ _ _ h => h) (Or.inl ⟨by rfl, ?_⟩) (by assumption) ?_
            (rotate_left); (focus (intro wv hSw; (obtain ⟨qAa, qAb, qX, qH, qB⟩ := hSw);  go_simp; (try with_reducible rfl)))
            try simp only [Act.put, List.getElem_toArray, List.getElem_cons_succ, List.getElem_cons_zero, List.setIfInBounds_toArray, List.set_cons_zero, List.set_cons_succ]
            refine wpAnyH_take (i := 11) (oi := _) (v := ?_) rfl (by kernel_rfl) (by kernel_rfl) (by kernel_rfl) (fun _ _ _ h => h) (Or.inl ⟨by rfl, ?_⟩) (by assumption) ?_
            (rotate_left); (focus (intro wv hSw; (obtain ⟨qAa, qAb, qX, qH, qB⟩ := hSw);  go_simp; (try with_reducible rfl)))
            try simp only [Act.put, List.getElem_toArray, List.getElem_cons_succ, List.getElem_cons_zero, List.setIfInBounds_toArray, List.set_cons_zero, List.set_cons_succ]
            refine wpAnyH_ready (rs := [4]) (by kernel_rfl) (by simp) ?_
            refine AllReadyH.cons (o := _) rfl (fun K hK => ?_) AllReadyH.nil
            go_simp
            (go_at_call 28; refine (iOo_is (some ⟨g, 0, none⟩) cH hs _ HNhs.out hH_0c.row (by omega) Hc.out).mono ?_; rintro e x0cc ⟨C1, cC1, rfl, hoC1_0cc, hw_0cc⟩; rw [HNc.out])
            refine hK.out _ _ ⟨hAa_0c.next hw_0cc, hAb_0c.next hw_0cc, hX_0c.next hw_0cc, hH_0c.next hw_0cc, bel_next hB_0c hw_0cc⟩ (fun hHeld => ?_)
            clear hK K
            try simp only [Act.put, List.getElem_toArray, List.getElem_cons_succ, List.getElem_cons_zero, List.setIfInBounds_toArray, List.set_cons_zero, List.set_cons_succ]
            obtain ⟨hAa_0cc, hAb_0cc, hX_0cc, hH_0cc, hB_0cc⟩ := id hHeld
            have hoC1_0cc := hoC1_0cc.mono (base' := w.heap.size) hB_0c.size
            refine wpAnyH_ready (rs := [8]) (by kernel_rfl) (by simp) ?_
            refine AllReadyH.cons (o := _) rfl (fun K hK => ?_) AllReadyH.nil
            go_simp
            (go_at_call 28; refine (iOo_is (some ⟨g, 0, none⟩) cH (hs.take 0) _ HTL.out (SRow.cutTo hH_0cc.row 0) (by omega) Ht.out).mono ?_; rintro e x0ccc ⟨T1, cT1, rfl, hoT1_0ccc, hw_0ccc⟩; rw [HNt.out])
            refine hK.out _ _ ⟨hAa_0cc.next hw_0ccc, hAb_0cc.next hw_0ccc, hX_0cc.next hw_0ccc, hH_0cc.next hw_0ccc, bel_next hB_0cc hw_0ccc⟩ (fun hHeld => ?_)
            clear hK K
            try simp only [Act.put, List.getElem_toArray, List.getElem_cons_succ, List.getElem_cons_zero, List.setIfInBounds_toArray, List.set_cons_zero, List.set_cons_succ]
            obtain ⟨hAa_0ccc, hAb_0ccc, hX_0ccc, hH_0ccc, hB_0ccc⟩ := id hHeld
            have hoC1_0ccc := hoC1_0cc.next hw_0ccc
            have hoT1_0ccc := hoT1_0ccc.mono (base' := w.heap.size) hB_0cc.size
            refine wpAnyH_ready (rs := [12]) (by kernel_rfl) (by simp) ?_
            refine AllReadyH.cons (o := _) rfl (fun K hK => ?_) AllReadyH.nil
            go_simp
            (go_at_call 28; refine (iOo_is _ _ (hs.drop 0) _ HDL.out (.inl HDE.out) (by omega) Hd.out).mono ?_; rintro e x0cccc ⟨D1, cD1, rfl, hoD1_0cccc, hw_0cccc⟩; rw [HNd.out])
            refine hK.out _ _ ⟨hAa_0ccc.next hw_0cccc, hAb_0ccc.next hw_0cccc, hX_0ccc.next hw_0cccc, hH_0ccc.next hw_0cccc, bel_next hB_0ccc hw_0cccc⟩ (fun hHeld => ?_)
            clear hK K
            try simp only [Act.put, List.getElem_toArray, List.getElem_cons_succ, List.getElem_cons_zero, List.setIfInBounds_toArray, List.set_cons_zero, List.set_cons_succ]
            obtain ⟨hAa_0cccc, hAb_0cccc, hX_0cccc, hH_0cccc, hB_0cccc⟩ := id hHeld
            have hoC1_0cccc := hoC1_0ccc.next hw_0cccc
            have hoT1_0cccc := hoT1_0ccc.next hw_0cccc
            have hoD1_0cccc := hoD1_0cccc.mono (base' := w.heap.size) hB_0ccc.size
            refine wpAnyH_ready (rs := [13]) (by kernel_rfl) (by simp) ?_
            refine AllReadyH.cons (o := _) rfl (fun K hK => ?_) AllReadyH.nil
            go_simp
            (go_at_call 35; refine (iOj_is T1 cT1 t D1 cD1 d _ HNt.out HNd.out hoT1_0cccc.row hoD1_0cccc.row (by omega) (by omega) HJ.out).mono ?_; rintro e x0ccccc ⟨J1, cJ1, rfl, hoJ1_0ccccc, hw_0ccccc⟩; rw [HNc.out])
            refine hK.out _ _ ⟨hAa_0cccc.next hw_0ccccc, hAb_0cccc.next hw_0ccccc, hX_0cccc.next hw_0ccccc, hH_0cccc.next hw_0ccccc, bel_next hB_0cccc hw_0ccccc⟩ (fun hHeld => ?_)
            clear hK K
            try simp only [Act.put, List.getElem_toArray, List.getElem_cons_succ, List.getElem_cons_zero, List.setIfInBounds_toArray, List.set_cons_zero, List.set_cons_succ]
            obtain ⟨hAa_0ccccc, hAb_0ccccc, hX_0ccccc, hH_0ccccc, hB_0ccccc⟩ := id hHeld
            have hoC1_0ccccc := hoC1_0cccc.next hw_0ccccc
            have hoT1_0ccccc := hoT1_0cccc.next hw_0ccccc
            have hoD1_0ccccc := hoD1_0cccc.next hw_0ccccc
            have hoJ1_0ccccc := hoJ1_0ccccc.mono (base' := w.heap.size) hB_0cccc.size
            refine wpAnyH_ready (rs := [14]) (by kernel_rfl) (by simp) ?_
            refine AllReadyH.cons (o := _) rfl (fun K hK => ?_) AllReadyH.nil
            go_simp
            (go_at_call 29; refine (sameEdges_is C1 J1 cC1 cJ1 c HNc.out hoC1_0ccccc.row hoJ1_0ccccc.row (by omega)).mono ?_; rintro e x0cccccc ⟨rfl, hw_0cccccc⟩)
            refine hK.out _ _ ⟨hAa_0ccccc.next hw_0cccccc, hAb_0ccccc.next hw_0cccccc, hX_0ccccc.next hw_0cccccc, hH_0ccccc.next hw_0cccccc, bel_next hB_0ccccc hw_0cccccc⟩ (fun hHeld => ?_)
            clear hK K
            try simp only [Act.put, List.getElem_toArray, List.getElem_cons_succ, List.getElem_cons_zero, List.setIfInBounds_toArray, List.set_cons_zero, List.set_cons_succ]
            obtain ⟨hAa_0cccccc, hAb_0cccccc, hX_0cccccc, hH_0cccccc, hB_0cccccc⟩ := id hHeld
            refine wpAnyH_take (i := 15) (oi := _) (v := ?_) rfl (by kernel_rfl) (by kernel_rfl) (by kernel_rfl) (fun _ _ _ h => h) (Or.inl ⟨by rfl, ?_⟩) (by assumption) ?_
            (rotate_left); (focus (intro wv hSw; (obtain ⟨qAa, qAb, qX, qH, qB⟩ := hSw);  go_simp; (try with_reducible rfl)))
            try simp only [Act.put, List.getElem_toArray, List.getElem_cons_succ, List.getElem_cons_zero, List.setIfInBounds_toArray, List.set_cons_zero, List.set_cons_succ]
            refine wpAnyH_take (i := 16) (oi := _) (v := ?_) rfl (by kernel_rfl) (by kernel_rfl) (by kernel_rfl) (fun _ _ _ h => h) (Or.inl ⟨by rfl, ?_⟩) (by assumption) ?_
            (rotate_left); (focus (intro wv hSw; (obtain ⟨qAa, qAb, qX, qH, qB⟩ := hSw);  go_simp; (try with_reducible rfl)))
            try simp only [Act.put, List.getElem_toArray, List.getElem_cons_succ, List.getElem_cons_zero, List.setIfInBounds_toArray, List.set_cons_zero, List.set_cons_succ]
            refine wpAnyH_done (by kernel_rfl) ?_ _
            have ho_Aa30 := hAa_0cccccc
            have ho_Ab30 := hAb_0cccccc
            have ho_X30 := hX_0cccccc
            have ho_H30 := hH_0cccccc
            have hB30 := hB_0cccccc
            clear hAa_0cccccc hAb_0cccccc hX_0cccccc hH_0cccccc hB_0cccccc
            cases va : olB a
            · obtain rfl : m_x = 0 := by rw [← HNx.out, ← Hx.out, ojL_nil (.inl va)]; rfl
              have HVA := Lib.hid va
              clear va
              go_wp2_with fail
              refine (sOv_is Aa cAa a _ HNa.out ho_Aa30.row (by omega) HVA.out).mono ?_; rintro e w31 ⟨rfl, hw31⟩
              have ho_Aa31 := ho_Aa30.next hw31
              have ho_Ab31 := ho_Ab30.next hw31
              have ho_X31 := ho_X30.next hw31
              have ho_H31 := ho_H30.next hw31
              have hB31 := bel_next hB30 hw31
              go_wp2_with fail
              refine (alive_any _).mono ?_; rintro e w' ⟨rfl, rfl⟩
              go_wp2
              go_ret
              exact ⟨rfl, hB31⟩
            · cases vb : olB b
              · obtain rfl : m_x = 0 := by rw [← HNx.out, ← Hx.out, ojL_nil (.inr vb)]; rfl
                have HVA := Lib.hid va
                have HVB := Lib.hid vb
                clear va vb
                go_wp2_with fail
                refine (sOv_is Aa cAa a _ HNa.out ho_Aa30.row (by omega) HVA.out).mono ?_; rintro e w31 ⟨rfl, hw31⟩
                have ho_Aa31 := ho_Aa30.next hw31
                have ho_Ab31 := ho_Ab30.next hw31
                have ho_X31 := ho_X30.next hw31
                have ho_H31 := ho_H30.next hw31
                have hB31 := bel_next hB30 hw31
                go_wp2_with fail
                refine (sOv_is Ab cAb b _ HNb.out ho_Ab31.row (by omega) HVB.out).mono ?_; rintro e w32 ⟨rfl, hw32⟩
                have ho_Aa32 := ho_Aa31.next hw32
                have ho_Ab32 := ho_Ab31.next hw32
                have ho_X32 := ho_X31.next hw32
                have ho_H32 := ho_H31.next hw32
                have hB32 := bel_next hB31 hw32
                go_wp2_with fail
                refine (alive_any _).mono ?_; rintro e w' ⟨rfl, rfl⟩
                go_wp2
                go_ret
                exact ⟨rfl, hB32⟩
              · have HVX : Hid (olB x = true) := by show _ = _; rw [← Hx.out]; exact ojL_ok va vb
                have Hba : Hid (ojL b a = x) := by show _ = _; rw [ojL_comm]; exact Hx.out
                have Haa : Hid (ojL a a = a) := by show _ = _; exact ojL_self va
                obtain ⟨xc, e9⟩ : ∃ l, ojL x c = l := ⟨_, rfl⟩
                have hl_xc : xc.length ≤ 41 := by rw [← e9]; exact ojL_len _ _
                have Hxc := Lib.hid e9
                clear e9
                obtain ⟨m_xc, e8⟩ : ∃ n, xc.length = n := ⟨_, rfl⟩
                rw [e8] at hl_xc
                have HNxc := Lib.hid e8
                clear e8
                obtain ⟨bc, e9⟩ : ∃ l, ojL b c = l := ⟨_, rfl⟩
                have hl_bc : bc.length ≤ 41 := by rw [← e9]; exact ojL_len _ _
                have Hbc := Lib.hid e9
                clear e9
                obtain ⟨m_bc, e8⟩ : ∃ n, bc.length = n := ⟨_, rfl⟩
                rw [e8] at hl_bc
                have HNbc := Lib.hid e8
                clear e8
                have Habc : Hid (ojL a bc = xc) := by show _ = _; rw [← Hbc.out, ← Hxc.out, ← Hx.out]; exact (ojL_assoc va vb (by rw [← Hc.out]; exact ooL_ol hs)).symm
                have HVA := Lib.hid va
                have HVB := Lib.hid vb
                clear va vb
                go_wp2_with fail
                refine (sOv_is Aa cAa a _ HNa.out ho_Aa30.row (by omega) HVA.out).mono ?_; rintro e w31 ⟨rfl, hw31⟩
                have ho_Aa31 := ho_Aa30.next hw31
                have ho_Ab31 := ho_Ab30.next hw31
                have ho_X31 := ho_X30.next hw31
                have ho_H31 := ho_H30.next hw31
                have hB31 := bel_next hB30 hw31
                go_wp2_with fail
                refine (sOv_is Ab cAb b _ HNb.out ho_Ab31.row (by omega) HVB.out).mono ?_; rintro e w32 ⟨rfl, hw32⟩
                have ho_Aa32 := ho_Aa31.next hw32
                have ho_Ab32 := ho_Ab31.next hw32
                have ho_X32 := ho_X31.next hw32
                have ho_H32 := ho_H31.next hw32
                have hB32 := bel_next hB31 hw32
                go_wp2_with fail
                refine (iOo_is (some ⟨g, 0, none⟩) cH hs _ HNhs.out ho_H32.row (by omega) Hc.out).mono ?_; rintro e w33 ⟨C, cC, rfl, ho_C33, hw33⟩
                have ho_Aa33 := ho_Aa32.next hw33
                have ho_Ab33 := ho_Ab32.next hw33
                have ho_X33 := ho_X32.next hw33
                have ho_H33 := ho_H32.next hw33
                have hB33 := bel_next hB32 hw33
                have ho_C33 := ho_C33.mono (base' := w.heap.size) hB32.size
                rw [HNc.out]
                go_wp2_with fail
                refine (iOv_is X cX x _ HNx.out ho_X33.row (by omega) HVX.out).mono ?_; rintro e w34 ⟨rfl, hw34⟩
                have ho_Aa34 := ho_Aa33.next hw34
                have ho_Ab34 := ho_Ab33.next hw34
                have ho_X34 := ho_X33.next hw34
                have ho_H34 := ho_H33.next hw34
                have ho_C34 := ho_C33.next hw34
                have hB34 := bel_next hB33 hw34
                go_wp2_with fail
                refine (iOj_is Ab cAb b Aa cAa a _ HNb.out HNa.out ho_Ab34.row ho_Aa34.row (by omega) (by omega) Hba.out).mono ?_; rintro e w35 ⟨Y, cY, rfl, ho_Y35, hw35⟩
                have ho_Aa35 := ho_Aa34.next hw35
                have ho_Ab35 := ho_Ab34.next hw35
                have ho_X35 := ho_X34.next hw35
                have ho_H35 := ho_H34.next hw35
                have ho_C35 := ho_C34.next hw35
                have hB35 := bel_next hB34 hw35
                have ho_Y35 := ho_Y35.mono (base' := w.heap.size) hB34.size
                rw [HNx.out]
                go_wp2_with fail
                refine (sameEdges_is X Y cX cY x HNx.out ho_X35.row ho_Y35.row (by omega)).mono ?_; rintro e w36 ⟨rfl, hw36⟩
                have ho_Aa36 := ho_Aa35.next hw36
                have ho_Ab36 := ho_Ab35.next hw36
                have ho_X36 := ho_X35.next hw36
                have ho_H36 := ho_H35.next hw36
                have ho_C36 := ho_C35.next hw36
                have ho_Y36 := ho_Y35.next hw36
                have hB36 := bel_next hB35 hw36
                go_wp2_with fail
                refine (iOj_is Aa cAa a Aa cAa a _ HNa.out HNa.out ho_Aa36.row ho_Aa36.row (by omega) (by omega) Haa.out).mono ?_; rintro e w37 ⟨W, cW, rfl, ho_W37, hw37⟩
                have ho_Aa37 := ho_Aa36.next hw37
                have ho_Ab37 := ho_Ab36.next hw37
                have ho_X37 := ho_X36.next hw37
                have ho_H37 := ho_H36.next hw37
                have ho_C37 := ho_C36.next hw37
                have ho_Y37 := ho_Y36.next hw37
                have hB37 := bel_next hB36 hw37
                have ho_W37 := ho_W37.mono (base' := w.heap.size) hB36.size
                rw [HNa.out]
                go_wp2_with fail
                refine (sameEdges_is W Aa cW cAa a HNa.out ho_W37.row ho_Aa37.row (by omega)).mono ?_; rintro e w38 ⟨rfl, hw38⟩
                have ho_Aa38 := ho_Aa37.next hw38
                have ho_Ab38 := ho_Ab37.next hw38
                have ho_X38 := ho_X37.next hw38
                have ho_H38 := ho_H37.next hw38
                have ho_C38 := ho_C37.next hw38
                have ho_Y38 := ho_Y37.next hw38
                have ho_W38 := ho_W37.next hw38
                have hB38 := bel_next hB37 hw38
                go_wp2_with fail
                refine (iOj_is X cX x C cC c _ HNx.out HNc.out ho_X38.row ho_C38.row (by omega) (by omega) Hxc.out).mono ?_; rintro e w39 ⟨P, cP, rfl, ho_P39, hw39⟩
                have ho_Aa39 := ho_Aa38.next hw39
                have ho_Ab39 := ho_Ab38.next hw39
                have ho_X39 := ho_X38.next hw39
                have ho_H39 := ho_H38.next hw39
                have ho_C39 := ho_C38.next hw39
                have ho_Y39 := ho_Y38.next hw39
                have ho_W39 := ho_W38.next hw39
                have hB39 := bel_next hB38 hw39
                have ho_P39 := ho_P39.mono (base' := w.heap.size) hB38.size
                rw [HNxc.out]
                go_wp2_with fail
                refine (iOj_is Ab cAb b C cC c _ HNb.out HNc.out ho_Ab39.row ho_C39.row (by omega) (by omega) Hbc.out).mono ?_; rintro e w40 ⟨Q, cQ, rfl, ho_Q40, hw40⟩
                have ho_Aa40 := ho_Aa39.next hw40
                have ho_Ab40 := ho_Ab39.next hw40
                have ho_X40 := ho_X39.next hw40
                have ho_H40 := ho_H39.next hw40
                have ho_C40 := ho_C39.next hw40
                have ho_Y40 := ho_Y39.next hw40
                have ho_W40 := ho_W39.next hw40
                have ho_P40 := ho_P39.next hw40
                have hB40 := bel_next hB39 hw40
                have ho_Q40 := ho_Q40.mono (base' := w.heap.size) hB39.size
                rw [HNbc.out]
                go_wp2_with fail
                refine (iOj_is Aa cAa a Q cQ bc _ HNa.out HNbc.out ho_Aa40.row ho_Q40.row (by omega) (by omega) Habc.out).mono ?_; rintro e w41 ⟨R, cR, rfl, ho_R41, hw41⟩
                have ho_Aa41 := ho_Aa40.next hw41
                have ho_Ab41 := ho_Ab40.next hw41
                have ho_X41 := ho_X40.next hw41
                have ho_H41 := ho_H40.next hw41
                have ho_C41 := ho_C40.next hw41
                have ho_Y41 := ho_Y40.next hw41
                have ho_W41 := ho_W40.next hw41
                have ho_P41 := ho_P40.next hw41
                have ho_Q41 := ho_Q40.next hw41
                have hB41 := bel_next hB40 hw41
                have ho_R41 := ho_R41.mono (base' := w.heap.size) hB40.size
                rw [HNxc.out]
                go_wp2_with fail
                refine (sameEdges_is P R cP cR xc HNxc.out ho_P41.row ho_R41.row (by omega)).mono ?_; rintro e w42 ⟨rfl, hw42⟩
                have ho_Aa42 := ho_Aa41.next hw42
                have ho_Ab42 := ho_Ab41.next hw42
                have ho_X42 := ho_X41.next hw42
                have ho_H42 := ho_H41.next hw42
                have ho_C42 := ho_C41.next hw42
                have ho_Y42 := ho_Y41.next hw42
                have ho_W42 := ho_W41.next hw42
                have ho_P42 := ho_P41.next hw42
                have ho_Q42 := ho_Q41.next hw42
                have ho_R42 := ho_R41.next hw42
                have hB42 := bel_next hB41 hw42
                go_wp2
                go_ret
                exact ⟨rfl, hB42⟩
        · obtain ⟨g, rfl, _, _⟩ := ho_H5.at_ (i := 0) (by rw [HNhs.out]; omega)
          have hfn : ¬ hf = cH := by omega
          have hcf : ¬ cH = hf := by omega
          have hfi : ¬ (hf : Int) = (cH : Int) := by omega
          have hfl : (hf : Int) < (cH : Int) := by omega
          go_wp2_with fail
          refine wp_region_held_drew (S := (fun w' => SOwn encEdge w' w.heap.size 48 Aa cAa a ∧ SOwn encEdge w' w.heap.size 48 Ab cAb b ∧ SOwn encEdge w' w.heap.size 48 X cX x ∧ SOwn encHouse w' w.heap.size 35 (some ⟨g, 0, none⟩) cH hs ∧ Below w.heap.size w w')) (by kernel_rfl) ⟨ho_Aa5.drew, ho_Ab5.drew, ho_X5.drew, ho_H5.drew, hB5.drew⟩ (fun hHeld => ?_)
          obtain ⟨hAa_0, hAb_0, hX_0, hH_0, hB_0⟩ := id hHeld
          refine wpAnyH_take (i := 0) (oi := _) (v := ?_) rfl (by kernel_rfl) (by kernel_rfl) (by kernel_rfl) (fun _ _ _ h => h) (Or.inl ⟨by rfl, ?_⟩) (by assumption) ?_
          (rotate_left); (focus (intro wv hSw; (obtain ⟨qAa, qAb, qX, qH, qB⟩ := hSw);  go_simp; (try with_reducible rfl)))
          try simp only [Act.put, List.getElem_toArray, List.getElem_cons_succ, List.getElem_cons_zero, List.setIfInBounds_toArray, List.set_cons_zero, List.set_cons_succ]
          refine wpAnyH_ready (rs := [1]) (by kernel_rfl) (by simp) ?_
          refine AllReadyH.cons (o := _) rfl (fun K hK => ?_) AllReadyH.nil
          go_simp
          (go_at_call 20; refine (sHs_is (some ⟨g, 0, none⟩) cH hs _ HNhs.out hH_0.row (by omega) HV.out).mono ?_; rintro e x0c ⟨rfl, hw_0c⟩)
          refine hK.out _ _ ⟨hAa_0.next hw_0c, hAb_0.next hw_0c, hX_0.next hw_0c, hH_0.next hw_0c, bel_next hB_0 hw_0c⟩ (fun hHeld => ?_)
          clear hK K
          try simp only [Act.put, List.getElem_toArray, List.getElem_cons_succ, List.getElem_cons_zero, List.setIfInBounds_toArray, List.set_cons_zero, List.set_cons_succ]
          obtain ⟨hAa_0c, hAb_0c, hX_0c, hH_0c, hB_0c⟩ := id hHeld
          refine wpAnyH_take (i := 2) (oi := _) (v := ?_) rfl (by kernel_rfl) (by kernel_rfl) (by kernel_rfl) (fun _ _ _ h => h) (Or.inl ⟨by rfl, ?_⟩) (by assumption) ?_
          (rotate_left); (focus (intro wv hSw; (obtain ⟨qAa, qAb, qX, qH, qB⟩ := hSw);  go_simp; (try with_reducible rfl)))
          try simp only [Act.put, List.getElem_toArray, List.getElem_cons_succ, List.getElem_cons_zero, List.setIfInBounds_toArray, List.set_cons_zero, List.set_cons_succ]
          refine wpAnyH_take (i := 3) (oi := _) (v := ?_) rfl (by kernel_rfl) (by kernel_rfl) (by kernel_rfl) (fun _ _ _ h => h) (Or.inl ⟨by rfl, ?_⟩) (by assumption) ?_
          (rotate_left); (focus (intro wv hSw; (obtain ⟨qAa, qAb, qX, qH, qB⟩ := hSw);  go_simp; (try with_reducible rfl)))
          try simp only [Act.put, List.getElem_toArray, List.getElem_cons_succ, List.getElem_cons_zero, List.setIfInBounds_toArray, List.set_cons_zero, List.set_cons_succ]
          refine wpAnyH_take (i := 5) (oi := _) (v := ?_) rfl (by kernel_rfl) (by kernel_rfl) (by kernel_rfl) (fun _ _ _ h => h) (Or.inl ⟨by rfl, ?_⟩) (by assumption) ?_
          (rotate_left); (focus (intro wv hSw; (obtain ⟨qAa, qAb, qX, qH, qB⟩ := hSw);  go_simp; (try with_reducible rfl)))
          try simp only [Act.put, List.getElem_toArray, List.getElem_cons_succ, List.getElem_cons_zero, List.setIfInBounds_toArray, List.set_cons_zero, List.set_cons_succ]
          refine wpAnyH_take (i := 6) (oi := _) (v := ?_) rfl (by kernel_rfl) (by kernel_rfl) (by kernel_rfl) (fun _ _ _ h => h) (Or.inl ⟨by rfl, ?_⟩) (by assumption) ?_
          (rotate_left); (focus (intro wv hSw; (obtain ⟨qAa, qAb, qX, qH, qB⟩ := hSw);  go_simp; (try with_reducible rfl)))
          try simp only [Act.put, List.getElem_toArray, List.getElem_cons_succ, List.getElem_cons_zero, List.setIfInBounds_toArray, List.set_cons_zero, List.set_cons_succ]
          refine wpAnyH_take (i := 7) (oi := _) (v := ?_) rfl (by kernel_rfl) (by kernel_rfl) (by kernel_rfl) (fun _ _ _ h => h) (Or.inl ⟨by rfl, ?_⟩) (by assumption) ?_
          (rotate_left); (focus (intro wv hSw; (obtain ⟨qAa, qAb, qX, qH, qB⟩ := hSw);  go_simp; (try with_reducible rfl)))
          try simp only [Act.put, List.getElem_toArray, List.getElem_cons_succ, List.getElem_cons_zero, List.setIfInBounds_toArray, List.set_cons_zero, List.set_cons_succ]
          refine wpAnyH_take (i := 9) (oi := _) (v := ?_) rfl (by kernel_rfl) (by kernel_rfl) (by kernel_rfl) (fun _ _ _ h => h) (Or.inl ⟨by rfl, ?_⟩) (by assumption) ?_
          (rotate_left); (focus (intro wv hSw; (obtain ⟨qAa, qAb, qX, qH, qB⟩ := hSw);  go_simp; (try with_reducible rfl)))
          try simp only [Act.put, List.getElem_toArray, List.getElem_cons_succ, List.getElem_cons_zero, List.setIfInBounds_toArray, List.set_cons_zero, List.set_cons_succ]
          refine wpAnyH_take (i := 10) (oi := _) (v := ?_) rfl (by kernel_rfl) (by kernel_rfl) (by kernel_rfl) (fun _ _ _ h => h) (Or.inl ⟨by rfl, ?_⟩) (by assumption) ?_
          (rotate_left); (focus (intro wv hSw; (obtain ⟨qAa, qAb, qX, qH, qB⟩ := hSw);  go_simp; (try with_reducible rfl)))
          try simp only [Act.put, List.getElem_toArray, List.getElem_cons_succ, List.getElem_cons_zero, List.setIfInBounds_toArray, List.set_cons_zero, List.set_cons_succ]
          refine wpAnyH_take (i := 11) (oi := _) (v := ?_) rfl (by kernel_rfl) (by kernel_rfl) (by kernel_rfl) (fun _ _ _ h => h) (Or.inl ⟨by rfl, ?_⟩) (by assumption) ?_
          (rotate_left); (focus (intro wv hSw; (obtain ⟨qAa, qAb, qX, qH, qB⟩ := hSw);  go_simp; (try with_reducible rfl)))
          try simp only [Act.put, List.getElem_toArray, List.getElem_cons_succ, List.getElem_cons_zero, List.setIfInBounds_toArray, List.set_cons_zero, List.set_cons_succ]
          refine wpAnyH_ready (rs := [4]) (by kernel_rfl) (by simp) ?_
          refine AllReadyH.cons (o := _) rfl (fun K hK => ?_) AllReadyH.nil
          go_simp
          (go_at_call 28; refine (iOo_is (some ⟨g, 0, none⟩) cH hs _ HNhs.out hH_0c.row (by omega) Hc.out).mono ?_; rintro e x0cc ⟨C1, cC1, rfl, hoC1_0cc, hw_0cc⟩; rw [HNc.out])
          refine hK.out _ _ ⟨hAa_0c.next hw_0cc, hAb_0c.next hw_0cc, hX_0c.next hw_0cc, hH_0c.next hw_0cc, bel_next hB_0c hw_0cc⟩ (fun hHeld => ?_)
          clear hK K
          try simp only [Act.put, List.getElem_toArray, List.getElem_cons_succ, List.getElem_cons_zero, List.setIfInBounds_toArray, List.set_cons_zero, List.set_cons_succ]
          obtain ⟨hAa_0cc, hAb_0cc, hX_0cc, hH_0cc, hB_0cc⟩ := id hHeld
          have hoC1_0cc := hoC1_0cc.mono (base' := w.heap.size) hB_0c.size
          refine wpAnyH_ready (rs := [8]) (by kernel_rfl) (by simp) ?_
          refine AllReadyH.cons (o := _) rfl (fun K hK => ?_) AllReadyH.nil
          go_simp
          (go_at_call 28; refine (iOo_is (some ⟨g, 0, none⟩) cH (hs.take hf) _ HTL.out (SRow.cutTo hH_0cc.row hf) (by omega) Ht.out).mono ?_; rintro e x0ccc ⟨T1, cT1, rfl, hoT1_0ccc, hw_0ccc⟩; rw [HNt.out])
          refine hK.out _ _ ⟨hAa_0cc.next hw_0ccc, hAb_0cc.next hw_0ccc, hX_0cc.next hw_0ccc, hH_0cc.next hw_0ccc, bel_next hB_0cc hw_0ccc⟩ (fun hHeld => ?_)
          clear hK K
          try simp only [Act.put, List.getElem_toArray, List.getElem_cons_succ, List.getElem_cons_zero, List.setIfInBounds_toArray, List.set_cons_zero, List.set_cons_succ]
          obtain ⟨hAa_0ccc, hAb_0ccc, hX_0ccc, hH_0ccc, hB_0ccc⟩ := id hHeld
          have hoC1_0ccc := hoC1_0cc.next hw_0ccc
          have hoT1_0ccc := hoT1_0ccc.mono (base' := w.heap.size) hB_0cc.size
          refine wpAnyH_ready (rs := [12]) (by kernel_rfl) (by simp) ?_
          refine AllReadyH.cons (o := _) rfl (fun K hK => ?_) AllReadyH.nil
          go_simp
          (go_at_call 28; refine (iOo_is (some ⟨g, hf * 3, none⟩) (cH - hf) (hs.drop hf) _ HDL.out (SOwn.dropK hH_0ccc hf) (by omega) Hd.out).mono ?_; rintro e x0cccc ⟨D1, cD1, rfl, hoD1_0cccc, hw_0cccc⟩; rw [HNd.out])
          refine hK.out _ _ ⟨hAa_0ccc.next hw_0cccc, hAb_0ccc.next hw_0cccc, hX_0ccc.next hw_0cccc, hH_0ccc.next hw_0cccc, bel_next hB_0ccc hw_0cccc⟩ (fun hHeld => ?_)
          clear hK K
          try simp only [Act.put, List.getElem_toArray, List.getElem_cons_succ, List.getElem_cons_zero, List.setIfInBounds_toArray, List.set_cons_zero, List.set_cons_succ]
          obtain ⟨hAa_0cccc, hAb_0cccc, hX_0cccc, hH_0cccc, hB_0cccc⟩ := id hHeld
          have hoC1_0cccc := hoC1_0ccc.next hw_0cccc
          have hoT1_0cccc := hoT1_0ccc.next hw_0cccc
          have hoD1_0cccc := hoD1_0cccc.mono (base' := w.heap.size) hB_0ccc.size
          refine wpAnyH_ready (rs := [13]) (by kernel_rfl) (by simp) ?_
          refine AllReadyH.cons (o := _) rfl (fun K hK => ?_) AllReadyH.nil
          go_simp
          (go_at_call 35; refine (iOj_is T1 cT1 t D1 cD1 d _ HNt.out HNd.out hoT1_0cccc.row hoD1_0cccc.row (by omega) (by omega) HJ.out).mono ?_; rintro e x0ccccc ⟨J1, cJ1, rfl, hoJ1_0ccccc, hw_0ccccc⟩; rw [HNc.out])
          refine hK.out _ _ ⟨hAa_0cccc.next hw_0ccccc, hAb_0cccc.next hw_0ccccc, hX_0cccc.next hw_0ccccc, hH_0cccc.next hw_0ccccc, bel_next hB_0cccc hw_0ccccc⟩ (fun hHeld => ?_)
          clear hK K
          try simp only [Act.put, List.getElem_toArray, List.getElem_cons_succ, List.getElem_cons_zero, List.setIfInBounds_toArray, List.set_cons_zero, List.set_cons_succ]
          obtain ⟨hAa_0ccccc, hAb_0ccccc, hX_0ccccc, hH_0ccccc, hB_0ccccc⟩ := id hHeld
          have hoC1_0ccccc := hoC1_0cccc.next hw_0ccccc
          have hoT1_0ccccc := hoT1_0cccc.next hw_0ccccc
          have hoD1_0ccccc := hoD1_0cccc.next hw_0ccccc
          have hoJ1_0ccccc := hoJ1_0ccccc.mono (base' := w.heap.size) hB_0cccc.size
          refine wpAnyH_ready (rs := [14]) (by kernel_rfl) (by simp) ?_
          refine AllReadyH.cons (o := _) rfl (fun K hK => ?_) AllReadyH.nil
          go_simp
          (go_at_call 29; refine (sameEdges_is C1 J1 cC1 cJ1 c HNc.out hoC1_0ccccc.row hoJ1_0ccccc.row (by omega)).mono ?_; rintro e x0cccccc ⟨rfl, hw_0cccccc⟩)
          refine hK.out _ _ ⟨hAa_0ccccc.next hw_0cccccc, hAb_0ccccc.next hw_0cccccc, hX_0ccccc.next hw_0cccccc, hH_0ccccc.next hw_0cccccc, bel_next hB_0ccccc hw_0cccccc⟩ (fun hHeld => ?_)
          clear hK K
          try simp only [Act.put, List.getElem_toArray, List.getElem_cons_succ, List.getElem_cons_zero, List.setIfInBounds_toArray, List.set_cons_zero, List.set_cons_succ]
          obtain ⟨hAa_0cccccc, hAb_0cccccc, hX_0cccccc, hH_0cccccc, hB_0cccccc⟩ := id hHeld
          refine wpAnyH_take (i := 15) (oi := _) (v := ?_) rfl (by kernel_rfl) (by kernel_rfl) (by kernel_rfl) (fun _ _ _ h => h) (Or.inl ⟨by rfl, ?_⟩) (by assumption) ?_
          (rotate_left); (focus (intro wv hSw; (obtain ⟨qAa, qAb, qX, qH, qB⟩ := hSw);  go_simp; (try with_reducible rfl)))
          try simp only [Act.put, List.getElem_toArray, List.getElem_cons_succ, List.getElem_cons_zero, List.setIfInBounds_toArray, List.set_cons_zero, List.set_cons_succ]
          refine wpAnyH_take (i := 16) (oi := _) (v := ?_) rfl (by kernel_rfl) (by kernel_rfl) (by kernel_rfl) (fun _ _ _ h => h) (Or.inl ⟨by rfl, ?_⟩) (by assumption) ?_
          (rotate_left); (focus (intro wv hSw; (obtain ⟨qAa, qAb, qX, qH, qB⟩ := hSw);  go_simp; (try with_reducible rfl)))
          try simp only [Act.put, List.getElem_toArray, List.getElem_cons_succ, List.getElem_cons_zero, List.setIfInBounds_toArray, List.set_cons_zero, List.set_cons_succ]
          refine wpAnyH_done (by kernel_rfl) ?_ _
          have ho_Aa30 := hAa_0cccccc
          have ho_Ab30 := hAb_0cccccc
          have ho_X30 := hX_0cccccc
          have ho_H30 := hH_0cccccc
          have hB30 := hB_0cccccc
          clear hAa_0cccccc hAb_0cccccc hX_0cccccc hH_0cccccc hB_0cccccc
          cases va : olB a
          · obtain rfl : m_x = 0 := by rw [← HNx.out, ← Hx.out, ojL_nil (.inl va)]; rfl
            have HVA := Lib.hid va
            clear va
            go_wp2_with fail
            refine (sOv_is Aa cAa a _ HNa.out ho_Aa30.row (by omega) HVA.out).mono ?_; rintro e w31 ⟨rfl, hw31⟩
            have ho_Aa31 := ho_Aa30.next hw31
            have ho_Ab31 := ho_Ab30.next hw31
            have ho_X31 := ho_X30.next hw31
            have ho_H31 := ho_H30.next hw31
            have hB31 := bel_next hB30 hw31
            go_wp2_with fail
            refine (alive_any _).mono ?_; rintro e w' ⟨rfl, rfl⟩
            go_wp2
            go_ret
            exact ⟨rfl, hB31⟩
          · cases vb : olB b
            · obtain rfl : m_x = 0 := by rw [← HNx.out, ← Hx.out, ojL_nil (.inr vb)]; rfl
              have HVA := Lib.hid va
              have HVB := Lib.hid vb
              clear va vb
              go_wp2_with fail
              refine (sOv_is Aa cAa a _ HNa.out ho_Aa30.row (by omega) HVA.out).mono ?_; rintro e w31 ⟨rfl, hw31⟩
              have ho_Aa31 := ho_Aa30.next hw31
              have ho_Ab31 := ho_Ab30.next hw31
              have ho_X31 := ho_X30.next hw31
              have ho_H31 := ho_H30.next hw31
              have hB31 := bel_next hB30 hw31
              go_wp2_with fail
              refine (sOv_is Ab cAb b _ HNb.out ho_Ab31.row (by omega) HVB.out).mono ?_; rintro e w32 ⟨rfl, hw32⟩
              have ho_Aa32 := ho_Aa31.next hw32
              have ho_Ab32 := ho_Ab31.next hw32
              have ho_X32 := ho_X31.next hw32
              have ho_H32 := ho_H31.next hw32
              have hB32 := bel_next hB31 hw32
              go_wp2_with fail
              refine (alive_any _).mono ?_; rintro e w' ⟨rfl, rfl⟩
              go_wp2
              go_ret
              exact ⟨rfl, hB32⟩
            · have HVX : Hid (olB x = true) := by show _ = _; rw [← Hx.out]; exact ojL_ok va vb
              have Hba : Hid (ojL b a = x) := by show _ = _; rw [ojL_comm]; exact Hx.out
              have Haa : Hid (ojL a a = a) := by show _ = _; exact ojL_self va
              obtain ⟨xc, e9⟩ : ∃ l, ojL x c = l := ⟨_, rfl⟩
              have hl_xc : xc.length ≤ 41 := by rw [← e9]; exact ojL_len _ _
              have Hxc := Lib.hid e9
              clear e9
              obtain ⟨m_xc, e8⟩ : ∃ n, xc.length = n := ⟨_, rfl⟩
              rw [e8] at hl_xc
              have HNxc := Lib.hid e8
              clear e8
              obtain ⟨bc, e9⟩ : ∃ l, ojL b c = l := ⟨_, rfl⟩
              have hl_bc : bc.length ≤ 41 := by rw [← e9]; exact ojL_len _ _
              have Hbc := Lib.hid e9
              clear e9
              obtain ⟨m_bc, e8⟩ : ∃ n, bc.length = n := ⟨_, rfl⟩
              rw [e8] at hl_bc
              have HNbc := Lib.hid e8
              clear e8
              have Habc : Hid (ojL a bc = xc) := by show _ = _; rw [← Hbc.out, ← Hxc.out, ← Hx.out]; exact (ojL_assoc va vb (by rw [← Hc.out]; exact ooL_ol hs)).symm
              have HVA := Lib.hid va
              have HVB := Lib.hid vb
              clear va vb
              go_wp2_with fail
              refine (sOv_is Aa cAa a _ HNa.out ho_Aa30.row (by omega) HVA.out).mono ?_; rintro e w31 ⟨rfl, hw31⟩
              have ho_Aa31 := ho_Aa30.next hw31
              have ho_Ab31 := ho_Ab30.next hw31
              have ho_X31 := ho_X30.next hw31
              have ho_H31 := ho_H30.next hw31
              have hB31 := bel_next hB30 hw31
              go_wp2_with fail
              refine (sOv_is Ab cAb b _ HNb.out ho_Ab31.row (by omega) HVB.out).mono ?_; rintro e w32 ⟨rfl, hw32⟩
              have ho_Aa32 := ho_Aa31.next hw32
              have ho_Ab32 := ho_Ab31.next hw32
              have ho_X32 := ho_X31.next hw32
              have ho_H32 := ho_H31.next hw32
              have hB32 := bel_next hB31 hw32
              go_wp2_with fail
              refine (iOo_is (some ⟨g, 0, none⟩) cH hs _ HNhs.out ho_H32.row (by omega) Hc.out).mono ?_; rintro e w33 ⟨C, cC, rfl, ho_C33, hw33⟩
              have ho_Aa33 := ho_Aa32.next hw33
              have ho_Ab33 := ho_Ab32.next hw33
              have ho_X33 := ho_X32.next hw33
              have ho_H33 := ho_H32.next hw33
              have hB33 := bel_next hB32 hw33
              have ho_C33 := ho_C33.mono (base' := w.heap.size) hB32.size
              rw [HNc.out]
              go_wp2_with fail
              refine (iOv_is X cX x _ HNx.out ho_X33.row (by omega) HVX.out).mono ?_; rintro e w34 ⟨rfl, hw34⟩
              have ho_Aa34 := ho_Aa33.next hw34
              have ho_Ab34 := ho_Ab33.next hw34
              have ho_X34 := ho_X33.next hw34
              have ho_H34 := ho_H33.next hw34
              have ho_C34 := ho_C33.next hw34
              have hB34 := bel_next hB33 hw34
              go_wp2_with fail
              refine (iOj_is Ab cAb b Aa cAa a _ HNb.out HNa.out ho_Ab34.row ho_Aa34.row (by omega) (by omega) Hba.out).mono ?_; rintro e w35 ⟨Y, cY, rfl, ho_Y35, hw35⟩
              have ho_Aa35 := ho_Aa34.next hw35
              have ho_Ab35 := ho_Ab34.next hw35
              have ho_X35 := ho_X34.next hw35
              have ho_H35 := ho_H34.next hw35
              have ho_C35 := ho_C34.next hw35
              have hB35 := bel_next hB34 hw35
              have ho_Y35 := ho_Y35.mono (base' := w.heap.size) hB34.size
              rw [HNx.out]
              go_wp2_with fail
              refine (sameEdges_is X Y cX cY x HNx.out ho_X35.row ho_Y35.row (by omega)).mono ?_; rintro e w36 ⟨rfl, hw36⟩
              have ho_Aa36 := ho_Aa35.next hw36
              have ho_Ab36 := ho_Ab35.next hw36
              have ho_X36 := ho_X35.next hw36
              have ho_H36 := ho_H35.next hw36
              have ho_C36 := ho_C35.next hw36
              have ho_Y36 := ho_Y35.next hw36
              have hB36 := bel_next hB35 hw36
              go_wp2_with fail
              refine (iOj_is Aa cAa a Aa cAa a _ HNa.out HNa.out ho_Aa36.row ho_Aa36.row (by omega) (by omega) Haa.out).mono ?_; rintro e w37 ⟨W, cW, rfl, ho_W37, hw37⟩
              have ho_Aa37 := ho_Aa36.next hw37
              have ho_Ab37 := ho_Ab36.next hw37
              have ho_X37 := ho_X36.next hw37
              have ho_H37 := ho_H36.next hw37
              have ho_C37 := ho_C36.next hw37
              have ho_Y37 := ho_Y36.next hw37
              have hB37 := bel_next hB36 hw37
              have ho_W37 := ho_W37.mono (base' := w.heap.size) hB36.size
              rw [HNa.out]
              go_wp2_with fail
              refine (sameEdges_is W Aa cW cAa a HNa.out ho_W37.row ho_Aa37.row (by omega)).mono ?_; rintro e w38 ⟨rfl, hw38⟩
              have ho_Aa38 := ho_Aa37.next hw38
              have ho_Ab38 := ho_Ab37.next hw38
              have ho_X38 := ho_X37.next hw38
              have ho_H38 := ho_H37.next hw38
              have ho_C38 := ho_C37.next hw38
              have ho_Y38 := ho_Y37.next hw38
              have ho_W38 := ho_W37.next hw38
              have hB38 := bel_next hB37 hw38
              go_wp2_with fail
              refine (iOj_is X cX x C cC c _ HNx.out HNc.out ho_X38.row ho_C38.row (by omega) (by omega) Hxc.out).mono ?_; rintro e w39 ⟨P, cP, rfl, ho_P39, hw39⟩
              have ho_Aa39 := ho_Aa38.next hw39
              have ho_Ab39 := ho_Ab38.next hw39
              have ho_X39 := ho_X38.next hw39
              have ho_H39 := ho_H38.next hw39
              have ho_C39 := ho_C38.next hw39
              have ho_Y39 := ho_Y38.next hw39
              have ho_W39 := ho_W38.next hw39
              have hB39 := bel_next hB38 hw39
              have ho_P39 := ho_P39.mono (base' := w.heap.size) hB38.size
              rw [HNxc.out]
              go_wp2_with fail
              refine (iOj_is Ab cAb b C cC c _ HNb.out HNc.out ho_Ab39.row ho_C39.row (by omega) (by omega) Hbc.out).mono ?_; rintro e w40 ⟨Q, cQ, rfl, ho_Q40, hw40⟩
              have ho_Aa40 := ho_Aa39.next hw40
              have ho_Ab40 := ho_Ab39.next hw40
              have ho_X40 := ho_X39.next hw40
              have ho_H40 := ho_H39.next hw40
              have ho_C40 := ho_C39.next hw40
              have ho_Y40 := ho_Y39.next hw40
              have ho_W40 := ho_W39.next hw40
              have ho_P40 := ho_P39.next hw40
              have hB40 := bel_next hB39 hw40
              have ho_Q40 := ho_Q40.mono (base' := w.heap.size) hB39.size
              rw [HNbc.out]
              go_wp2_with fail
              refine (iOj_is Aa cAa a Q cQ bc _ HNa.out HNbc.out ho_Aa40.row ho_Q40.row (by omega) (by omega) Habc.out).mono ?_; rintro e w41 ⟨R, cR, rfl, ho_R41, hw41⟩
              have ho_Aa41 := ho_Aa40.next hw41
              have ho_Ab41 := ho_Ab40.next hw41
              have ho_X41 := ho_X40.next hw41
              have ho_H41 := ho_H40.next hw41
              have ho_C41 := ho_C40.next hw41
              have ho_Y41 := ho_Y40.next hw41
              have ho_W41 := ho_W40.next hw41
              have ho_P41 := ho_P40.next hw41
              have ho_Q41 := ho_Q40.next hw41
              have hB41 := bel_next hB40 hw41
              have ho_R41 := ho_R41.mono (base' := w.heap.size) hB40.size
              rw [HNxc.out]
              go_wp2_with fail
              refine (sameEdges_is P R cP cR xc HNxc.out ho_P41.row ho_R41.row (by omega)).mono ?_; rintro e w42 ⟨rfl, hw42⟩
              have ho_Aa42 := ho_Aa41.next hw42
              have ho_Ab42 := ho_Ab41.next hw42
              have ho_X42 := ho_X41.next hw42
              have ho_H42 := ho_H41.next hw42
              have ho_C42 := ho_C41.next hw42
              have ho_Y42 := ho_Y41.next hw42
              have ho_W42 := ho_W41.next hw42
              have ho_P42 := ho_P41.next hw42
              have ho_Q42 := ho_Q41.next hw42
              have ho_R42 := ho_R41.next hw42
              have hB42 := bel_next hB41 hw42
              go_wp2
              go_ret
              exact ⟨rfl, hB42⟩

set_option maxRecDepth 100000 in
theorem lifted (os : Os) (started : os.Started) (H : Type) (enc : TypeId × Value → H) :
    ReturnsInHanded {} Try.checked os 9 .any (Rows.fnOutlineJoinSpec.pre6 enc Try.prog Try.f9 Rows.fnOutlineJoinRow.domain false) (Rows.fnOutlineJoinSpec.post enc Try.prog Try.f9 false true false false) := by
  refine returnsInHanded_of_change (C := Try.checked) own started (by kernel_rfl) Try.func9
    (ChangeSpec.witness6 (enc := enc) (C := Try.checked) false ⟨#[], #[.slice none 0 0, .slice none 0 0], []⟩ 8 (by kernel_rfl) (by kernel_rfl) (by kernel_rfl) (by kernel_rfl)) ?_
  intro W base args ds gs before hval0 hW hcnd _
  have hval : ∀ (j : Nat) t v, Try.f9.params[j]? = some t → args[j]? = some v → Value.okWide Try.prog W .any base t v := hval0
  have hW' := hW
  obtain ⟨p, q, hA0, hV, rfl, hfz, hnd⟩ := hW
  have hA : DataW.TrodAll enc Try.prog W 0 (fun _ => true) true Try.f9.params.toList args.toList ds p := hA0
  rw [Try.params9] at hA hval
  obtain ⟨v0, vs0, d0, ds0, p0, q0, hargs, rfl, rfl, h0, r0⟩ := trodAll_cons hA
  obtain ⟨v1, vs1, d1, ds1, p1, q1, rfl, rfl, rfl, h1, r1⟩ := trodAll_cons r0
  obtain ⟨rfl, rfl, rfl⟩ := trodAll_nil r1
  obtain rfl : args = #[v0, v1] := by cases args; simp_all
  obtain ⟨rfl, rfl⟩ := trodVars_none hV
  have k0 := h0
  have lt0 : ∀ x ∈ p0, x.block < W.heap.size := by obtain ⟨m, hm⟩ := k0; exact DataW.trod_lt m _ _ _ hm
  have k1 := h1
  have lt1 : ∀ x ∈ p1, x.block < W.heap.size := by obtain ⟨m, hm⟩ := k1; exact DataW.trod_lt m _ _ _ hm
  obtain ⟨a0, len0, cap0, rfl⟩ := okWide_slice Try.underlying22 (hval 0 22 v0 rfl rfl)
  have w0 : CodeOk W a0 len0 cap0 := by
    obtain ⟨fuel, hf⟩ := h0
    rcases open_ints Try.underlying22 Try.underlying5 (by kernel_rfl) hf with ⟨hcs, _⟩ | ⟨x, l, c, zs, hcs, _, hl, hm, hz, _, hcell, hwz⟩
    · simp [Value.cells] at hcs
      obtain ⟨rfl, rfl, rfl⟩ := hcs
      exact code_nil W
    · simp [Value.cells] at hcs
      obtain ⟨rfl, rfl, rfl⟩ := hcs
      exact code_ok hl hm (by simp at hz; omega) hcell hwz
  obtain ⟨a1, len1, cap1, rfl⟩ := okWide_slice Try.underlying22 (hval 1 22 v1 rfl rfl)
  have w1 : CodeOk W a1 len1 cap1 := by
    obtain ⟨fuel, hf⟩ := h1
    rcases open_ints Try.underlying22 Try.underlying5 (by kernel_rfl) hf with ⟨hcs, _⟩ | ⟨x, l, c, zs, hcs, _, hl, hm, hz, _, hcell, hwz⟩
    · simp [Value.cells] at hcs
      obtain ⟨rfl, rfl, rfl⟩ := hcs
      exact code_nil W
    · simp [Value.cells] at hcs
      obtain ⟨rfl, rfl, rfl⟩ := hcs
      exact code_ok hl hm (by simp at hz; omega) hcell hwz
  clear hA0 hval0
  refine (walk W a0 len0 cap0 w0 a1 len1 cap1 w1).mono fun e W' ⟨he, bel⟩ => ?_
  subst he
  exact ⟨_, rfl, _, _, _, [], _, [], hW', trodAll_mk1 (shut_bool Try.underlying4 _), (trodAll_cons_mk (Below.trod laidOut (by kernel_rfl) (of_decide_eq_true (by kernel_rfl)) k0 bel lt0) (trodAll_cons_mk (Below.trod laidOut (by kernel_rfl) (of_decide_eq_true (by kernel_rfl)) k1 bel lt1) trodAll_mk0)), rfl, bel.frame _, fun h => by cases h⟩

theorem over : Rows.fnOutlineJoinRow.holds Try.pinned (OpenSpec.ofChange Rows.fnOutlineJoinSpec) :=
  OpenClaim.holds_of_wide 9 Try.f9 rfl rfl rfl rfl rfl rfl rfl ⟨rfl, rfl, rfl, rfl, rfl⟩ rfl rfl rfl rfl rfl (by kernel_rfl) Try.func9 (by kernel_rfl)
    (of_decide_eq_true (by kernel_rfl)) (by unfold Func.isWrapper; first | (rw [if_pos (by decide +kernel)]; kernel_rfl) | (rw [if_neg (by decide +kernel)]; exact ⟨rfl, rfl⟩))
    (fun os started H enc _ => lifted os started H enc)

/-- The statement. -/
theorem proved : Rows.FnOutlineJoinSaid :=
  over
#print axioms proved
end Go.Proofs.Ytifnengegbiijab.fnOutlineJoin
