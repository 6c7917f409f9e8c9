/- FnWaysValid: whatever the input, the law returns true, and its arguments read as they did. No conditions beyond those of the statement's row. -/
import Derived.Test.YtbegajmdadkknabWv
import Derived.Test.YtbegajmdadkknabLp
namespace Go.Proofs.Ytbegajmdadkknab.fnWaysValid
open Go.Proofs.Ytbegajmdadkknab
open Go.ChangeShapes Go.WideShapes Go.ChangeAt Go.RowKit Go.Joins
set_option linter.unusedVariables false
set_option linter.unusedSimpArgs false
set_option linter.unnecessarySimpa false

theorem own : ownKnob Try.prog.godebug = none := by kernel_rfl
theorem laidOut : laidOutB Try.prog = true := by kernel_rfl

set_option maxRecDepth 100000 in
set_option maxHeartbeats 4000000 in
theorem walk (w : World) (a0 : Option Addr) (len0 cap0 : Nat) (w0 : CodeOk w a0 len0 cap0) :
    Calls Try.prog 5 #[.slice a0 len0 cap0] w fun e w' => e = .returned (.bool true) ∧ Below w.heap.size w w' := by
  by_cases hl : 1048576 < len0
  · have w0' := w0.2.1
    unfold maxLen at w0'
    clear w0
    go_enter Try.func5, Try.ntmps5
    go_wp2
    go_ret
    exact ⟨rfl, Below.refl _ _⟩
  · have w0' := w0.2.1
    unfold maxLen at w0'
    have hle := w0.1
    have HW := Lib.hid w0
    clear w0
    go_enter Try.func5, Try.ntmps5
    obtain ⟨i0, hi0, hz0, hz1, hz2⟩ := info_parts infoW
    have HI := Lib.hid (And.intro hi0 (And.intro hz0 (And.intro hz1 hz2)))
    clear hi0 hz0 hz1 hz2
    go_wp2_with fail
    refine (drWaysValid_any _ _ _ _ HW.out).mono ?_; rintro e w1 ⟨g, cap, xs, rfl, hl9, hO1, hB1⟩
    have hcap := hO1.cap
    obtain ⟨n, hn⟩ : ∃ n, xs.length = n := ⟨_, rfl⟩
    rw [hn] at hcap hl9 ⊢
    have HN := Lib.hid hn
    clear hn
    cases hv : wsB xs
    · have HV := Lib.hid hv
      clear hv
      go_wp2_with fail
      refine (iWsV_len xs HN.out hO1.row (by omega) HV.out).mono ?_; rintro e w2 ⟨rfl, hw2⟩
      have hO2 := hO1.next hw2
      have hB2 := bel_next hB1 hw2
      go_wp2_with fail
      refine (sWsV_len xs HN.out hO2.row (by omega) HV.out).mono ?_; rintro e w3 ⟨rfl, hw3⟩
      have hO3 := hO2.next hw3
      have hB3 := bel_next hB2 hw3
      have hE0 : (w3.alloc (.cells #[] 24)).ownsRow w.heap.size 24 2 (.slice (some ⟨w3.heap.size, 0, none⟩) 0 0) 0 [] := own_nil (blk_new w3 _) hB3.size
      have hOE : Own (w3.alloc (.cells #[] 24)) w.heap.size g cap xs := hO3.next (bel1 _ _)
      have hBE : Below w.heap.size w (w3.alloc (.cells #[] 24)) := hB3.alloc hB3.size _
      go_wp2_with (first | (at_builtin; refine append_own_g _ (by kernel_rfl) (.tmp 29) (.tmp 30) _ rfl w.heap.size 24 i0 _ 2 16 Try.underlying33 HI.out.1 HI.out.2.1 HI.out.2.2.1 HI.out.2.2.2 rfl (by omega) (.slice (some ⟨w3.heap.size, 0, none⟩) 0 0) 0 [] rfl hE0 ⟨g, 0, none⟩ n cap (flat xs) rfl (by have h8 := HN.out; rw [flat_len]; omega) (World.ownsRow.cells hOE (g := g) rfl) (flat_one xs) (by simp only [maxLen]; omega) (by omega) (by have := hBE.size; exact this) ?_; intro v5 w5 hown5 hgr5 hnil5) | (at_builtin; refine append_lies_g _ (by kernel_rfl) (.tmp 31) (.tmp 33) _ rfl w.heap.size 24 i0 _ 2 16 Try.underlying33 HI.out.1 HI.out.2.1 HI.out.2.2.1 HI.out.2.2.2 rfl (by omega) v5 (0 + n) ([] ++ flat xs) rfl (World.ownsRow.alloc hown5 _) ⟨_, 0, none⟩ 1 1 [.int .i64 0, .int .i64 0] rfl rfl (news2 (blk_new w5 _)) (by simp [Value.oneCell']) (by omega) (by simp only [maxLen]; omega) (by omega) (by have h1 := hBE.size; have h2 := hgr5.size; simp at h1 h2 ⊢; omega) _ rfl ?_; intro g6 cap6 w6 hown6 hgr6 hat6 hlt6) | fail)
      have hB5 : Below w.heap.size w w5 := hBE.grown hgr5 hBE.size (fun j hj => by have := hB3.size; simp [Value.ownBlock] at hj; omega)
      have hB6 : Below w.heap.size w w6 := (hB5.alloc hB5.size _).grown hgr6 (hB5.alloc hB5.size _).size (fun j hj => (World.ownsRow.lt hown5 j hj).1)
      have hO6 : Own w6 w.heap.size g6 cap6 (xs ++ [(0, 0)]) := by
        unfold Own; rw [← flat_snoc]; simpa [HN.out] using hown6
      refine (iWsV_len (xs ++ [(0, 0)]) (by simp [HN.out]) hO6.row (by omega) (ws_snoc xs)).mono ?_; rintro e w7 ⟨rfl, hw7⟩
      have hB7 := bel_next hB6 hw7
      go_wp2_with fail
      refine (iWsV_len [] rfl (.inl rfl) (by simp) ws_nil).mono ?_; rintro e w8 ⟨rfl, hw8⟩
      have hB8 := bel_next hB7 hw8
      go_wp2_with fail
      refine (alive_any _).mono ?_; rintro e w' ⟨rfl, rfl⟩
      go_wp2
      go_ret
      exact ⟨rfl, hB8⟩
    · have HV := Lib.hid hv
      clear hv
      go_wp2_with fail
      refine (iWsV_len xs HN.out hO1.row (by omega) HV.out).mono ?_; rintro e w2 ⟨rfl, hw2⟩
      have hO2 := hO1.next hw2
      have hB2 := bel_next hB1 hw2
      go_wp2_with fail
      refine (sWsV_len xs HN.out hO2.row (by omega) HV.out).mono ?_; rintro e w3 ⟨rfl, hw3⟩
      have hO3 := hO2.next hw3
      have hB3 := bel_next hB2 hw3
      by_cases h0 : n = 0
      · subst h0
        have hE0 : (w3.alloc (.cells #[] 24)).ownsRow w.heap.size 24 2 (.slice (some ⟨w3.heap.size, 0, none⟩) 0 0) 0 [] := own_nil (blk_new w3 _) hB3.size
        have hOE : Own (w3.alloc (.cells #[] 24)) w.heap.size g cap xs := hO3.next (bel1 _ _)
        have hBE : Below w.heap.size w (w3.alloc (.cells #[] 24)) := hB3.alloc hB3.size _
        go_wp2_with (first | (at_builtin; refine append_own_g _ (by kernel_rfl) (.tmp 29) (.tmp 30) _ rfl w.heap.size 24 i0 _ 2 16 Try.underlying33 HI.out.1 HI.out.2.1 HI.out.2.2.1 HI.out.2.2.2 rfl (by omega) (.slice (some ⟨w3.heap.size, 0, none⟩) 0 0) 0 [] rfl hE0 ⟨g, 0, none⟩ 0 cap (flat xs) rfl (by have h8 := HN.out; rw [flat_len]; omega) (World.ownsRow.cells hOE (g := g) rfl) (flat_one xs) (by simp only [maxLen]; omega) (by omega) (by have := hBE.size; exact this) ?_; intro v5 w5 hown5 hgr5 hnil5) | (at_builtin; refine append_lies_g _ (by kernel_rfl) (.tmp 31) (.tmp 33) _ rfl w.heap.size 24 i0 _ 2 16 Try.underlying33 HI.out.1 HI.out.2.1 HI.out.2.2.1 HI.out.2.2.2 rfl (by omega) v5 (0 + 0) ([] ++ flat xs) rfl (World.ownsRow.alloc hown5 _) ⟨_, 0, none⟩ 1 1 [.int .i64 0, .int .i64 0] rfl rfl (news2 (blk_new w5 _)) (by simp [Value.oneCell']) (by omega) (by simp only [maxLen]; omega) (by omega) (by have h1 := hBE.size; have h2 := hgr5.size; simp at h1 h2 ⊢; omega) _ rfl ?_; intro g6 cap6 w6 hown6 hgr6 hat6 hlt6) | fail)
        have hB5 : Below w.heap.size w w5 := hBE.grown hgr5 hBE.size (fun j hj => by have := hB3.size; simp [Value.ownBlock] at hj; omega)
        have hB6 : Below w.heap.size w w6 := (hB5.alloc hB5.size _).grown hgr6 (hB5.alloc hB5.size _).size (fun j hj => (World.ownsRow.lt hown5 j hj).1)
        have hO6 : Own w6 w.heap.size g6 cap6 (xs ++ [(0, 0)]) := by
          unfold Own; rw [← flat_snoc]; simpa [HN.out] using hown6
        refine (iWsV_len (xs ++ [(0, 0)]) (by simp [HN.out]) hO6.row (by omega) (ws_snoc xs)).mono ?_; rintro e w7 ⟨rfl, hw7⟩
        have hB7 := bel_next hB6 hw7
        go_wp2_with fail
        refine (iWsV_len [] rfl (.inl rfl) (by simp) ws_nil).mono ?_; rintro e w8 ⟨rfl, hw8⟩
        have hB8 := bel_next hB7 hw8
        go_wp2_with fail
        refine (alive_any _).mono ?_; rintro e w' ⟨rfl, rfl⟩
        go_wp2
        go_ret
        exact ⟨rfl, hB8⟩
      · have z0 : ((n : Int) == 0) = false := by simpa using h0
        by_cases hc : cap = 1
        · have hn1 : n = 1 := by omega
          have hnil : xs.drop 1 = [] := List.drop_eq_nil_of_le (by rw [HN.out]; omega)
          have HL := Lib.hid hnil
          subst hc
          clear hnil hn1
          have HT := Lib.hid (ws_tail HV.out)
          go_wp2_with fail
          refine (iWsV_len (xs.drop 1) (by rw [List.length_drop, HN.out]; try omega) (.inl HL.out) (by omega) HT.out).mono ?_; rintro e w4 ⟨rfl, hw4⟩
          have hO4 := hO3.next hw4
          have hB4 := bel_next hB3 hw4
          have hE0 : (w4.alloc (.cells #[] 24)).ownsRow w.heap.size 24 2 (.slice (some ⟨w4.heap.size, 0, none⟩) 0 0) 0 [] := own_nil (blk_new w4 _) hB4.size
          have hOE : Own (w4.alloc (.cells #[] 24)) w.heap.size g 1 xs := hO4.next (bel1 _ _)
          have hBE : Below w.heap.size w (w4.alloc (.cells #[] 24)) := hB4.alloc hB4.size _
          go_wp2_with (first | (at_builtin; refine append_own_g _ (by kernel_rfl) (.tmp 29) (.tmp 30) _ rfl w.heap.size 24 i0 _ 2 16 Try.underlying33 HI.out.1 HI.out.2.1 HI.out.2.2.1 HI.out.2.2.2 rfl (by omega) (.slice (some ⟨w4.heap.size, 0, none⟩) 0 0) 0 [] rfl hE0 ⟨g, 0, none⟩ n 1 (flat xs) rfl (by have h8 := HN.out; rw [flat_len]; omega) (World.ownsRow.cells hOE (g := g) rfl) (flat_one xs) (by simp only [maxLen]; omega) (by omega) (by have := hBE.size; exact this) ?_; intro v5 w5 hown5 hgr5 hnil5) | (at_builtin; refine append_lies_g _ (by kernel_rfl) (.tmp 31) (.tmp 33) _ rfl w.heap.size 24 i0 _ 2 16 Try.underlying33 HI.out.1 HI.out.2.1 HI.out.2.2.1 HI.out.2.2.2 rfl (by omega) v5 (0 + n) ([] ++ flat xs) rfl (World.ownsRow.alloc hown5 _) ⟨_, 0, none⟩ 1 1 [.int .i64 0, .int .i64 0] rfl rfl (news2 (blk_new w5 _)) (by simp [Value.oneCell']) (by omega) (by simp only [maxLen]; omega) (by omega) (by have h1 := hBE.size; have h2 := hgr5.size; simp at h1 h2 ⊢; omega) _ rfl ?_; intro g6 cap6 w6 hown6 hgr6 hat6 hlt6) | fail)
          have hB5 : Below w.heap.size w w5 := hBE.grown hgr5 hBE.size (fun j hj => by have := hB4.size; simp [Value.ownBlock] at hj; omega)
          have hB6 : Below w.heap.size w w6 := (hB5.alloc hB5.size _).grown hgr6 (hB5.alloc hB5.size _).size (fun j hj => (World.ownsRow.lt hown5 j hj).1)
          have hO6 : Own w6 w.heap.size g6 cap6 (xs ++ [(0, 0)]) := by
            unfold Own; rw [← flat_snoc]; simpa [HN.out] using hown6
          refine (iWsV_len (xs ++ [(0, 0)]) (by simp [HN.out]) hO6.row (by omega) (ws_snoc xs)).mono ?_; rintro e w7 ⟨rfl, hw7⟩
          have hB7 := bel_next hB6 hw7
          go_wp2_with fail
          refine (iWsV_len [] rfl (.inl rfl) (by simp) ws_nil).mono ?_; rintro e w8 ⟨rfl, hw8⟩
          have hB8 := bel_next hB7 hw8
          go_wp2_with fail
          refine (alive_any _).mono ?_; rintro e w' ⟨rfl, rfl⟩
          go_wp2
          go_ret
          exact ⟨rfl, hB8⟩
        · have hc' : ¬ cap = 1 := hc
          have HT := Lib.hid (ws_tail HV.out)
          go_wp2_with fail
          refine (iWsV_len (xs.drop 1) (by rw [List.length_drop, HN.out]; try omega) hO3.tail (by omega) HT.out).mono ?_; rintro e w4 ⟨rfl, hw4⟩
          have hO4 := hO3.next hw4
          have hB4 := bel_next hB3 hw4
          have hE0 : (w4.alloc (.cells #[] 24)).ownsRow w.heap.size 24 2 (.slice (some ⟨w4.heap.size, 0, none⟩) 0 0) 0 [] := own_nil (blk_new w4 _) hB4.size
          have hOE : Own (w4.alloc (.cells #[] 24)) w.heap.size g cap xs := hO4.next (bel1 _ _)
          have hBE : Below w.heap.size w (w4.alloc (.cells #[] 24)) := hB4.alloc hB4.size _
          go_wp2_with (first | (at_builtin; refine append_own_g _ (by kernel_rfl) (.tmp 29) (.tmp 30) _ rfl w.heap.size 24 i0 _ 2 16 Try.underlying33 HI.out.1 HI.out.2.1 HI.out.2.2.1 HI.out.2.2.2 rfl (by omega) (.slice (some ⟨w4.heap.size, 0, none⟩) 0 0) 0 [] rfl hE0 ⟨g, 0, none⟩ n cap (flat xs) rfl (by have h8 := HN.out; rw [flat_len]; omega) (World.ownsRow.cells hOE (g := g) rfl) (flat_one xs) (by simp only [maxLen]; omega) (by omega) (by have := hBE.size; exact this) ?_; intro v5 w5 hown5 hgr5 hnil5) | (at_builtin; refine append_lies_g _ (by kernel_rfl) (.tmp 31) (.tmp 33) _ rfl w.heap.size 24 i0 _ 2 16 Try.underlying33 HI.out.1 HI.out.2.1 HI.out.2.2.1 HI.out.2.2.2 rfl (by omega) v5 (0 + n) ([] ++ flat xs) rfl (World.ownsRow.alloc hown5 _) ⟨_, 0, none⟩ 1 1 [.int .i64 0, .int .i64 0] rfl rfl (news2 (blk_new w5 _)) (by simp [Value.oneCell']) (by omega) (by simp only [maxLen]; omega) (by omega) (by have h1 := hBE.size; have h2 := hgr5.size; simp at h1 h2 ⊢; omega) _ rfl ?_; intro g6 cap6 w6 hown6 hgr6 hat6 hlt6) | fail)
          have hB5 : Below w.heap.size w w5 := hBE.grown hgr5 hBE.size (fun j hj => by have := hB4.size; simp [Value.ownBlock] at hj; omega)
          have hB6 : Below w.heap.size w w6 := (hB5.alloc hB5.size _).grown hgr6 (hB5.alloc hB5.size _).size (fun j hj => (World.ownsRow.lt hown5 j hj).1)
          have hO6 : Own w6 w.heap.size g6 cap6 (xs ++ [(0, 0)]) := by
            unfold Own; rw [← flat_snoc]; simpa [HN.out] using hown6
          refine (iWsV_len (xs ++ [(0, 0)]) (by simp [HN.out]) hO6.row (by omega) (ws_snoc xs)).mono ?_; rintro e w7 ⟨rfl, hw7⟩
          have hB7 := bel_next hB6 hw7
          go_wp2_with fail
          refine (iWsV_len [] rfl (.inl rfl) (by simp) ws_nil).mono ?_; rintro e w8 ⟨rfl, hw8⟩
          have hB8 := bel_next hB7 hw8
          go_wp2_with fail
          refine (alive_any _).mono ?_; rintro e w' ⟨rfl, rfl⟩
          go_wp2
          go_ret
          exact ⟨rfl, hB8⟩

set_option maxRecDepth 100000 in
theorem lifted (os : Os) (started : os.Started) (H : Type) (enc : TypeId × Value → H) :
    ReturnsInHanded {} Try.checked os 5 .any (Rows.fnWaysValidSpec.pre6 enc Try.prog Try.f5 Rows.fnWaysValidRow.domain false) (Rows.fnWaysValidSpec.post enc Try.prog Try.f5 false true false false) := by
  refine returnsInHanded_of_change (C := Try.checked) own started (by kernel_rfl) Try.func5
    (ChangeSpec.witness6 (enc := enc) (C := Try.checked) false ⟨#[], #[.slice none 0 0], []⟩ 8 (by kernel_rfl) (by kernel_rfl) (by kernel_rfl) (by kernel_rfl)) ?_
  intro W base args ds gs before hval0 hW hcnd _
  have hval : ∀ (j : Nat) t v, Try.f5.params[j]? = some t → args[j]? = some v → Value.okWide Try.prog W .any base t v := hval0
  have hW' := hW
  obtain ⟨p, q, hA0, hV, rfl, hfz, hnd⟩ := hW
  have hA : DataW.TrodAll enc Try.prog W 0 (fun _ => true) true Try.f5.params.toList args.toList ds p := hA0
  rw [Try.params5] at hA hval
  obtain ⟨v0, vs0, d0, ds0, p0, q0, hargs, rfl, rfl, h0, r0⟩ := trodAll_cons hA
  obtain ⟨rfl, rfl, rfl⟩ := trodAll_nil r0
  obtain rfl : args = #[v0] := by cases args; simp_all
  obtain ⟨rfl, rfl⟩ := trodVars_none hV
  have k0 := h0
  have lt0 : ∀ x ∈ p0, x.block < W.heap.size := by obtain ⟨m, hm⟩ := k0; exact DataW.trod_lt m _ _ _ hm
  obtain ⟨a0, len0, cap0, rfl⟩ := okWide_slice Try.underlying22 (hval 0 22 v0 rfl rfl)
  have w0 : CodeOk W a0 len0 cap0 := by
    obtain ⟨fuel, hf⟩ := h0
    rcases open_ints Try.underlying22 Try.underlying5 (by kernel_rfl) hf with ⟨hcs, _⟩ | ⟨x, l, c, zs, hcs, _, hl, hm, hz, _, hcell, hwz⟩
    · simp [Value.cells] at hcs
      obtain ⟨rfl, rfl, rfl⟩ := hcs
      exact code_nil W
    · simp [Value.cells] at hcs
      obtain ⟨rfl, rfl, rfl⟩ := hcs
      exact code_ok hl hm (by simp at hz; omega) hcell hwz
  clear hA0 hval0
  refine (walk W a0 len0 cap0 w0).mono fun e W' ⟨he, bel⟩ => ?_
  subst he
  exact ⟨_, rfl, _, _, _, [], _, [], hW', trodAll_mk1 (shut_bool Try.underlying4 _), (trodAll_cons_mk (Below.trod laidOut (by kernel_rfl) (of_decide_eq_true (by kernel_rfl)) k0 bel lt0) trodAll_mk0), rfl, bel.frame _, fun h => by cases h⟩

theorem over : Rows.fnWaysValidRow.holds Try.pinned (OpenSpec.ofChange Rows.fnWaysValidSpec) :=
  OpenClaim.holds_of_wide 5 Try.f5 rfl rfl rfl rfl rfl rfl rfl ⟨rfl, rfl, rfl, rfl, rfl⟩ rfl rfl rfl rfl rfl (by kernel_rfl) Try.func5 (by kernel_rfl)
    (of_decide_eq_true (by kernel_rfl)) (by unfold Func.isWrapper; first | (rw [if_pos (by decide +kernel)]; kernel_rfl) | (rw [if_neg (by decide +kernel)]; exact ⟨rfl, rfl⟩))
    (fun os started H enc _ => lifted os started H enc)

/-- The statement. -/
theorem proved : Rows.FnWaysValidSaid :=
  over
#print axioms proved
end Go.Proofs.Ytbegajmdadkknab.fnWaysValid
