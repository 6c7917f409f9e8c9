/- FnSunAt: whatever the input, the law returns true, and its arguments read as they did. No conditions beyond those of the statement's row. -/
import Derived.Test.YtbiajaafdbbmgacSq2
import Derived.Test.YtbiajaafdbbmgacSd
import Derived.Test.YtbiajaafdbbmgacLp
namespace Go.Proofs.Ytbiajaafdbbmgac.fnSunAt
open Go.Proofs.Ytbiajaafdbbmgac
open Go.ChangeShapes Go.WideShapes Go.ChangeAt Go.RowKit Go.Joins
set_option linter.unusedVariables false
set_option linter.unusedSimpArgs false
set_option linter.unnecessarySimpa false

theorem own : ownKnob Try.prog.godebug = none := by kernel_rfl
theorem laidOut : laidOutB Try.prog = true := by kernel_rfl

set_option maxRecDepth 100000 in
set_option maxHeartbeats 4000000 in
theorem walk (w : World) (a0 : Option Addr) (len0 cap0 : Nat) (w0 : CodeOk w a0 len0 cap0) :
    Calls Try.prog 4 #[.slice a0 len0 cap0] w fun e w' => e = .returned (.bool true) ∧ Below w.heap.size w w' := by
  by_cases hl : 1048576 < len0
  · have w0' := w0.2.1
    unfold maxLen at w0'
    clear w0
    go_enter Try.func4, Try.ntmps4
    go_wp2
    go_ret
    exact ⟨rfl, Below.refl _ _⟩
  · have w0' := w0.2.1
    unfold maxLen at w0'
    have hle := w0.1
    have HW := Lib.hid w0
    clear w0
    go_enter Try.func4, Try.ntmps4
    go_wp2_with fail
    refine (drSunAt_any _ _ _ _ HW.out).mono ?_; rintro e w1 ⟨l, t, h, rfl, l0, l1, t0, t1, h0, h1, hB1⟩
    cases hs : skyB l t
    · have HS := Lib.hid hs
      clear hs
      go_wp2_with fail
      refine (iSun_f _ _ HS.out).mono ?_; rintro e' w2 ⟨rfl, hw2⟩
      have hB2 := bel_next hB1 hw2
      go_wp2_with fail
      refine (sSun_f _ _ HS.out).mono ?_; rintro e' w3 ⟨rfl, hw3⟩
      obtain ⟨hP3, hC3⟩ := ownb hw3
      have hB3 := bel_next hB2 hC3
      obtain ⟨cP3_0, cP3_1, cP3_2, fP3_0, fP3_1, fP3_2, zP3⟩ := blk3 hP3
      go_wp2_with fail
      refine (alive_any _).mono ?_; rintro e' w' ⟨rfl, rfl⟩
      go_wp2
      go_ret
      exact ⟨rfl, by first | exact hB3.alloc hB3.size _ | exact (hB3.alloc hB3.size _).drew⟩
    · obtain ⟨e, he⟩ : ∃ z : Int, eastI t h = z := ⟨_, rfl⟩
      obtain ⟨n, hn⟩ : ∃ z : Int, northI l t h = z := ⟨_, rfl⟩
      obtain ⟨u, hu⟩ : ∃ z : Int, upI l t h = z := ⟨_, rfl⟩
      have hsum := sun_sum he hn hu
      have b1 := east_bd t h
      have b2 := north_bd l t h
      have b3 := up_bd l t h
      rw [he] at b1
      rw [hn] at b2
      rw [hu] at b3
      have a1 := east_back t h
      have a2 := north_back l t h
      have a3 := up_back l t h
      rw [he] at a1
      rw [hn] at a2
      rw [hu] at a3
      have o0 := sky_neg2 l t
      have o1 := east_other t h
      have o2 := north_other l t h
      have o3 := up_other l t h
      rw [hs] at o0
      rw [he] at o1
      rw [hn] at o2
      rw [hu] at o3
      obtain ⟨⟨p0, p1⟩, ⟨p2, p3⟩, ⟨p4, p5⟩, p6, p7, p8, p9, p10⟩ := hsum
      have HS := Lib.hid hs
      have HE := Lib.hid he
      have HN := Lib.hid hn
      have HU := Lib.hid hu
      have A1 := Lib.hid a1
      have A2 := Lib.hid a2
      have A3 := Lib.hid a3
      have O0 := Lib.hid o0
      have O1 := Lib.hid o1
      have O2 := Lib.hid o2
      have O3 := Lib.hid o3
      clear hs he hn hu a1 a2 a3 o0 o1 o2 o3
      go_wp2_with fail
      refine (iSun_is _ HS.out HE.out HN.out HU.out).mono ?_; rintro e' w2 ⟨rfl, hw2⟩
      have hB2 := bel_next hB1 hw2
      go_wp2_with fail
      refine (sSun_is _ HS.out HE.out HN.out HU.out).mono ?_; rintro e' w3 ⟨rfl, hw3⟩
      obtain ⟨hP3, hC3⟩ := ownb hw3
      have hB3 := bel_next hB2 hC3
      obtain ⟨cP3_0, cP3_1, cP3_2, fP3_0, fP3_1, fP3_2, zP3⟩ := blk3 hP3
      go_wp2_with fail
      refine (iSun_is _ HS.out A1.out A2.out A3.out).mono ?_; rintro e' w4 ⟨rfl, hw4⟩
      obtain ⟨hX4, hC4⟩ := ownb hw4
      have hP4 := blk_next hP3 hC4
      have hB4 := bel_next hB3 hC4
      go_wp2_with fail
      refine (iSun_is _ O0.out O1.out O2.out O3.out).mono ?_; rintro e' w5 ⟨rfl, hw5⟩
      obtain ⟨hR5, hC5⟩ := ownb hw5
      have hP5 := blk_next hP4 hC5
      have hX5 := blk_next hX4 hC5
      have hB5 := bel_next hB4 hC5
      obtain ⟨cP5_0, cP5_1, cP5_2, fP5_0, fP5_1, fP5_2, zP5⟩ := blk3 hP5
      obtain ⟨cR5_0, cR5_1, cR5_2, fR5_0, fR5_1, fR5_2, zR5⟩ := blk3 hR5
      go_wp2_with fail
      go_ret
      exact ⟨rfl, by first | exact hB5.alloc hB5.size _ | exact (hB5.alloc hB5.size _).drew⟩

set_option maxRecDepth 100000 in
theorem lifted (os : Os) (started : os.Started) (H : Type) (enc : TypeId × Value → H) :
    ReturnsInHanded {} Try.checked os 4 .any (Rows.fnSunAtSpec.pre6 enc Try.prog Try.f4 Rows.fnSunAtRow.domain false) (Rows.fnSunAtSpec.post enc Try.prog Try.f4 false true false false) := by
  refine returnsInHanded_of_change (C := Try.checked) own started (by kernel_rfl) Try.func4
    (ChangeSpec.witness6 (enc := enc) (C := Try.checked) false ⟨#[], #[.slice none 0 0], []⟩ 8 (by kernel_rfl) (by kernel_rfl) (by kernel_rfl) (by kernel_rfl)) ?_
  intro W base args ds gs before hval0 hW hcnd _
  have hval : ∀ (j : Nat) t v, Try.f4.params[j]? = some t → args[j]? = some v → Value.okWide Try.prog W .any base t v := hval0
  have hW' := hW
  obtain ⟨p, q, hA0, hV, rfl, hfz, hnd⟩ := hW
  have hA : DataW.TrodAll enc Try.prog W 0 (fun _ => true) true Try.f4.params.toList args.toList ds p := hA0
  rw [Try.params4] at hA hval
  obtain ⟨v0, vs0, d0, ds0, p0, q0, hargs, rfl, rfl, h0, r0⟩ := trodAll_cons hA
  obtain ⟨rfl, rfl, rfl⟩ := trodAll_nil r0
  obtain rfl : args = #[v0] := by cases args; simp_all
  obtain ⟨rfl, rfl⟩ := trodVars_none hV
  have k0 := h0
  have lt0 : ∀ x ∈ p0, x.block < W.heap.size := by obtain ⟨m, hm⟩ := k0; exact DataW.trod_lt m _ _ _ hm
  obtain ⟨a0, len0, cap0, rfl⟩ := okWide_slice Try.underlying22 (hval 0 22 v0 rfl rfl)
  have w0 : CodeOk W a0 len0 cap0 := by
    obtain ⟨fuel, hf⟩ := h0
    rcases open_ints Try.underlying22 Try.underlying5 (by kernel_rfl) hf with ⟨hcs, _⟩ | ⟨x, l, c, zs, hcs, _, hl, hm, hz, _, hcell, hwz⟩
    · simp [Value.cells] at hcs
      obtain ⟨rfl, rfl, rfl⟩ := hcs
      exact code_nil W
    · simp [Value.cells] at hcs
      obtain ⟨rfl, rfl, rfl⟩ := hcs
      exact code_ok hl hm (by simp at hz; omega) hcell hwz
  clear hA0 hval0
  refine (walk W a0 len0 cap0 w0).mono fun e W' ⟨he, bel⟩ => ?_
  subst he
  exact ⟨_, rfl, _, _, _, [], _, [], hW', trodAll_mk1 (shut_bool Try.underlying4 _), (trodAll_cons_mk (Below.trod laidOut (by kernel_rfl) (of_decide_eq_true (by kernel_rfl)) k0 bel lt0) trodAll_mk0), rfl, bel.frame _, fun h => by cases h⟩

theorem over : Rows.fnSunAtRow.holds Try.pinned (OpenSpec.ofChange Rows.fnSunAtSpec) :=
  OpenClaim.holds_of_wide 4 Try.f4 rfl rfl rfl rfl rfl rfl rfl ⟨rfl, rfl, rfl, rfl, rfl⟩ rfl rfl rfl rfl rfl (by kernel_rfl) Try.func4 (by kernel_rfl)
    (of_decide_eq_true (by kernel_rfl)) (by unfold Func.isWrapper; first | (rw [if_pos (by decide +kernel)]; kernel_rfl) | (rw [if_neg (by decide +kernel)]; exact ⟨rfl, rfl⟩))
    (fun os started H enc _ => lifted os started H enc)

/-- The statement. -/
theorem proved : Rows.FnSunAtSaid :=
  over
#print axioms proved
end Go.Proofs.Ytbiajaafdbbmgac.fnSunAt
