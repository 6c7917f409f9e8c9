/- Ed: texts joined. -/
import Derived.Laws.Rows
import Derived.Laws.Tables
import Derived.Test.YtbklgpghonigjaaGreatMQL
import Derived.Test.YtbklgpghonigjaaGreatMQO
import Derived.Test.YtbklgpghonigjaaGreatMZ2
import Derived.Test.YtbklgpghonigjaaGreatMBd
namespace Go.Proofs.YtbklgpghonigjaaGreat
open Go Go.Deep Go.ChangeShapes Go.WideShapes Go.ChangeAt Go.RowKit
set_option linter.unusedSimpArgs false
set_option linter.unusedVariables false
def SiteIs (B : Nat) (u : Int) (w : World) (e : Ending) (w' : World) : Prop :=
  ∃ (la dy mi e1 n1 fe fn fu ho ha ne lo hi st : Int) (up : Bool) (xs : List VBlock) (A : Option Addr) (cap : Nat), e = .returned (.agg #[.int .i64 la, .int .i64 dy, .int .i64 mi, .slice A xs.length cap, .int .i64 e1, .int .i64 n1, .int .i64 fe, .int .i64 fn, .int .i64 fu, .int .i64 ho, .int .i64 ha, .int .i64 ne, .int .i64 lo, .int .i64 hi, .bool up, .int .i64 st]) ∧ (0 ≤ ho ∧ ho ≤ 100) ∧ xs.length ≤ 6 ∧ SOwn encBlock w' w.heap.size 40 A cap xs ∧ RdU B u w' ∧ Ext B w w'
theorem setRow_grown (w : World) (g : Nat) (cs : Array Value) : w.grownBy (w.setRow g cs) (some g) := ⟨rfl, rfl, rfl, by simp, fun k hk hne => setRow_other w g k cs (fun e => hne (by rw [e]))⟩
theorem site_ret {B : Nat} {u u' : Int} {w wn : World} (la dy mi e1 n1 fe fn fu ho ha ne lo hi st : Int) (up : Bool) (xs : List VBlock) (A : Option Addr) (cap : Nat) (hZ : wn.heap[w.heap.size]? = some (.cells #[.int .i64 0, .int .i64 0, .int .i64 0, .slice none 0 0, .int .i64 0, .int .i64 0, .int .i64 0, .int .i64 0, .int .i64 0, .int .i64 0, .int .i64 0, .int .i64 0, .int .i64 0, .int .i64 0, .bool false, .int .i64 0] 33 (0, 0))) (hO : SOwn encBlock wn w.heap.size 40 A cap xs) (hR : RdU B u wn) (hX : Ext B w wn) (hB : B < w.heap.size) (hu : u ≤ u') (h0 : 0 ≤ ho) (h1 : ho ≤ 100) (hl : xs.length ≤ 6) :
    SiteIs B u' w (.returned (.agg #[.int .i64 la, .int .i64 dy, .int .i64 mi, .slice A xs.length cap, .int .i64 e1, .int .i64 n1, .int .i64 fe, .int .i64 fn, .int .i64 fu, .int .i64 ho, .int .i64 ha, .int .i64 ne, .int .i64 lo, .int .i64 hi, .bool up, .int .i64 st])) (wn.setRow w.heap.size #[.int .i64 la, .int .i64 dy, .int .i64 mi, .slice A xs.length cap, .int .i64 e1, .int .i64 n1, .int .i64 fe, .int .i64 fn, .int .i64 fu, .int .i64 ho, .int .i64 ha, .int .i64 ne, .int .i64 lo, .int .i64 hi, .bool up, .int .i64 st]) ∧ (wn.setRow w.heap.size #[.int .i64 la, .int .i64 dy, .int .i64 mi, .slice A xs.length cap, .int .i64 e1, .int .i64 n1, .int .i64 fe, .int .i64 fn, .int .i64 fu, .int .i64 ho, .int .i64 ha, .int .i64 ne, .int .i64 lo, .int .i64 hi, .bool up, .int .i64 st]).heap[w.heap.size]? = some (.cells #[.int .i64 la, .int .i64 dy, .int .i64 mi, .slice A xs.length cap, .int .i64 e1, .int .i64 n1, .int .i64 fe, .int .i64 fn, .int .i64 fu, .int .i64 ho, .int .i64 ha, .int .i64 ne, .int .i64 lo, .int .i64 hi, .bool up, .int .i64 st] 33 (0, 0)) := by
  refine ⟨⟨la, dy, mi, e1, n1, fe, fn, fu, ho, ha, ne, lo, hi, st, up, xs, A, cap, rfl, ⟨h0, h1⟩, hl, ?_, ?_, ?_⟩, setRow_heap _ _ _ _ _ _ hZ⟩
  · exact hO.grown_far (setRow_grown _ _ _) (fun g hg e => by
      have := SOwn.ne_typeE (n := 0) hO hZ (by decide)
      rw [hg] at this; simp [Value.ownBlock] at this e; exact this e.symm)
  · exact (hR.mono hu).far (setRow_grown _ _ _) (fun k hk => by cases hk; exact hB)
  · exact hX.far_grown (setRow_grown _ _ _) (fun k hk => by cases hk; exact Nat.le_refl _)
set_option maxRecDepth 100000 in
set_option maxHeartbeats 40000000 in
theorem site_any (B : Nat) (u n : Int) (w : World) (h : RdU B u w) (hu : u ≤ 500000) (hn : 0 ≤ n) (hn1 : n ≤ 1000000) : Calls Tryz.prog 43 #[.pointer (some ⟨B, 0, none⟩), .int .i64 n] w (SiteIs B (u + 100) w) := by
  have hBw := h.lt
  have hZ0 := blk_new w (.cells #[.int .i64 0, .int .i64 0, .int .i64 0, .slice none 0 0, .int .i64 0, .int .i64 0, .int .i64 0, .int .i64 0, .int .i64 0, .int .i64 0, .int .i64 0, .int .i64 0, .int .i64 0, .int .i64 0, .bool false, .int .i64 0] 33 (0, 0))
  have hR0 := h.alloc (.cells #[.int .i64 0, .int .i64 0, .int .i64 0, .slice none 0 0, .int .i64 0, .int .i64 0, .int .i64 0, .int .i64 0, .int .i64 0, .int .i64 0, .int .i64 0, .int .i64 0, .int .i64 0, .int .i64 0, .bool false, .int .i64 0] 33 (0, 0))
  have hX0 := (Ext.refl B w).alloc (.cells #[.int .i64 0, .int .i64 0, .int .i64 0, .slice none 0 0, .int .i64 0, .int .i64 0, .int .i64 0, .int .i64 0, .int .i64 0, .int .i64 0, .int .i64 0, .int .i64 0, .int .i64 0, .int .i64 0, .bool false, .int .i64 0] 33 (0, 0))
  go_enter Tryz.func43, Tryz.ntmps43
  go_wp2_with fail
  refine (pick_any B u 181 _ hR0 (by omega) (by omega) (by omega)).mono ?_; rintro e w1 ⟨a1, rfl, a10, a11, hR1, hx1⟩
  have hZ1 := blk_ext hZ0 hx1 (by omega)
  have hX1 := hX0.trans hx1
  have hR1 := hR1.mono (u' := u + 1) (by omega)
  clear hx1 hZ0 hX0 hR0
  go_wp2_with fail
  refine (pick_any B (u + 1) 73 _ hR1 (by omega) (by omega) (by omega)).mono ?_; rintro e w2 ⟨a2, rfl, a20, a21, hR2, hx2⟩
  have hZ2 := blk_ext hZ1 hx2 (by omega)
  have hX2 := hX1.trans hx2
  have hR2 := hR2.mono (u' := u + 2) (by omega)
  clear hx2 hZ1 hX1 hR1
  go_wp2_with fail
  refine (pick_any B (u + 2) 5 _ hR2 (by omega) (by omega) (by omega)).mono ?_; rintro e w3 ⟨a3, rfl, a30, a31, hR3, hx3⟩
  have hZ3 := blk_ext hZ2 hx3 (by omega)
  have hX3 := hX2.trans hx3
  have hR3 := hR3.mono (u' := u + 3) (by omega)
  clear hx3 hZ2 hX2 hR2
  go_wp2_with fail
  refine (pick_any B (u + 3) 96 _ hR3 (by omega) (by omega) (by omega)).mono ?_; rintro e w4 ⟨a4, rfl, a40, a41, hR4, hx4⟩
  have hZ4 := blk_ext hZ3 hx4 (by omega)
  have hX4 := hX3.trans hx4
  have hR4 := hR4.mono (u' := u + 4) (by omega)
  clear hx4 hZ3 hX3 hR3
  go_wp2_with fail
  refine (blocks_any B (u + 4) 0 _ hR4 (by omega) (by omega) (by omega)).mono ?_; rintro e w5 ⟨xs, A, cap, rfl, hxl, hOO, hR5, hx5⟩
  have hZ5 := blk_ext hZ4 hx5 (by omega)
  have hX5 := hX4.trans hx5
  have hR5 := hR5.mono (u' := u + 55) (by omega)
  have hO5 := SOwn.mono (base' := w.heap.size) hOO hX4.size
  clear hx5 hZ4 hX4 hR4
  go_wp2_with fail
  refine (place_any B (u + 55) 0 _ hR5 (by omega) (by omega) (by omega)).mono ?_; rintro e w6 ⟨e1, n1, rfl, p0, p1, hR6, hx6⟩
  have hZ6 := blk_ext hZ5 hx6 (by omega)
  have hO6 := hO5.extK hx6 (by omega)
  have hX6 := hX5.trans hx6
  have hR6 := hR6.mono (u' := u + 59) (by omega)
  clear hx6 hZ5 hX5 hR5 hO5
  go_wp2_with fail
  refine (face_any B (u + 59) 0 _ hR6 (by omega) (by omega) (by omega)).mono ?_; rintro e w7 ⟨fe, fn, fu, rfl, q0, q1, q2, hR7, hx7⟩
  have hZ7 := blk_ext hZ6 hx7 (by omega)
  have hO7 := hO6.extK hx7 (by omega)
  have hX7 := hX6.trans hx7
  have hR7 := hR7.mono (u' := u + 65) (by omega)
  clear hx7 hZ6 hX6 hR6 hO6
  go_wp2_with fail
  refine (pick_any B (u + 65) 90 _ hR7 (by omega) (by omega) (by omega)).mono ?_; rintro e w8 ⟨ho, rfl, ho0, ho1, hR8, hx8⟩
  have hZ8 := blk_ext hZ7 hx8 (by omega)
  have hO8 := hO7.extK hx8 (by omega)
  have hX8 := hX7.trans hx8
  have hR8 := hR8.mono (u' := u + 66) (by omega)
  clear hx8 hZ7 hX7 hR7 hO7
  go_wp2_with fail
  refine (pick_any B (u + 66) 6 _ hR8 (by omega) (by omega) (by omega)).mono ?_; rintro e w9 ⟨ne, rfl, ne0, ne1, hR9, hx9⟩
  have hZ9 := blk_ext hZ8 hx9 (by omega)
  have hO9 := hO8.extK hx9 (by omega)
  have hX9 := hX8.trans hx9
  have hR9 := hR9.mono (u' := u + 67) (by omega)
  clear hx9 hZ8 hX8 hR8 hO8
  go_wp2_with fail
  refine (band_any B (u + 67) 0 _ hR9 (by omega) (by omega) (by omega)).mono ?_; rintro e w10 ⟨lo, hi, rfl, b0, b1, hR10, hx10⟩
  have hZ10 := blk_ext hZ9 hx10 (by omega)
  have hO10 := hO9.extK hx10 (by omega)
  have hX10 := hX9.trans hx10
  have hR10 := hR10.mono (u' := u + 71) (by omega)
  clear hx10 hZ9 hX9 hR9 hO9
  go_wp2_with fail
  refine (blind_any B (u + 71) 0 _ hR10 (by omega) (by omega) (by omega)).mono ?_; rintro e w11 ⟨up, st, rfl, s0, hR11, hx11⟩
  have hZ11 := blk_ext hZ10 hx11 (by omega)
  have hO11 := hO10.extK hx11 (by omega)
  have hX11 := hX10.trans hx11
  have hR11 := hR11.mono (u' := u + 76) (by omega)
  clear hx11 hZ10 hX10 hR10 hO10
  go_wp2_with fail
  have hC12 := blk_new w11 (.cells #[.int .i64 (a1 - 90), .int .i64 (1 + a2 * 5 + a3), .int .i64 (15 * a4), .slice A xs.length cap, .int .i64 e1, .int .i64 n1, .int .i64 fe, .int .i64 fn, .int .i64 fu, .int .i64 ho, .int .i64 0, .int .i64 ne, .int .i64 lo, .int .i64 hi, .bool up, .int .i64 st] 33 (0, 0))
  have hZ12 := blk_old hZ11 (.cells #[.int .i64 (a1 - 90), .int .i64 (1 + a2 * 5 + a3), .int .i64 (15 * a4), .slice A xs.length cap, .int .i64 e1, .int .i64 n1, .int .i64 fe, .int .i64 fn, .int .i64 fu, .int .i64 ho, .int .i64 0, .int .i64 ne, .int .i64 lo, .int .i64 hi, .bool up, .int .i64 st] 33 (0, 0))
  have hO12 := hO11.alloc (.cells #[.int .i64 (a1 - 90), .int .i64 (1 + a2 * 5 + a3), .int .i64 (15 * a4), .slice A xs.length cap, .int .i64 e1, .int .i64 n1, .int .i64 fe, .int .i64 fn, .int .i64 fu, .int .i64 ho, .int .i64 0, .int .i64 ne, .int .i64 lo, .int .i64 hi, .bool up, .int .i64 st] 33 (0, 0))
  have hR12 := hR11.alloc (.cells #[.int .i64 (a1 - 90), .int .i64 (1 + a2 * 5 + a3), .int .i64 (15 * a4), .slice A xs.length cap, .int .i64 e1, .int .i64 n1, .int .i64 fe, .int .i64 fn, .int .i64 fu, .int .i64 ho, .int .i64 0, .int .i64 ne, .int .i64 lo, .int .i64 hi, .bool up, .int .i64 st] 33 (0, 0))
  have hX12 := hX11.alloc (.cells #[.int .i64 (a1 - 90), .int .i64 (1 + a2 * 5 + a3), .int .i64 (15 * a4), .slice A xs.length cap, .int .i64 e1, .int .i64 n1, .int .i64 fe, .int .i64 fn, .int .i64 fu, .int .i64 ho, .int .i64 0, .int .i64 ne, .int .i64 lo, .int .i64 hi, .bool up, .int .i64 st] 33 (0, 0))
  have hZC := blk_lt hZ11
  have hBC := hR11.lt
  clear hZ11 hO11 hR11 hX11
  obtain ⟨la, hla⟩ : ∃ v, a1 - 90 = v := ⟨_, rfl⟩
  obtain ⟨dy, hdy⟩ : ∃ v, 1 + a2 * 5 + a3 = v := ⟨_, rfl⟩
  obtain ⟨mi, hmi⟩ : ∃ v, 15 * a4 = v := ⟨_, rfl⟩
  have mi0 : 0 ≤ mi := by omega
  have mi1 : mi ≤ 1425 := by omega
  generalize hwb : w11.alloc (.cells #[.int .i64 (a1 - 90), .int .i64 (1 + a2 * 5 + a3), .int .i64 (15 * a4), .slice A xs.length cap, .int .i64 e1, .int .i64 n1, .int .i64 fe, .int .i64 fn, .int .i64 fu, .int .i64 ho, .int .i64 0, .int .i64 ne, .int .i64 lo, .int .i64 hi, .bool up, .int .i64 st] 33 (0, 0)) = w12 at hC12 hZ12 hO12 hR12 hX12 ⊢
  generalize hC : w11.heap.size = C at hC12 hZC hBC ⊢
  rw [hla, hdy, hmi] at hC12
  clear hwb hC
  have hwC : w.heap.size ≤ C := by omega
  have hCB : C ≠ B := by omega
  have hZC : w.heap.size ≠ C := by omega
  refine (pick_any B (u + 76) 2 _ hR12 (by omega) (by omega) (by omega)).mono ?_; rintro e w13 ⟨bb, rfl, bb0, bb1, hR13, hx13⟩
  have hZ13 := blk_ext hZ12 hx13 (by omega)
  have hC13 := blk_ext hC12 hx13 hCB
  have hO13 := hO12.extK hx13 (by omega)
  have hX13 := hX12.trans hx13
  have hR13 := hR13.mono (u' := u + 77) (by omega)
  clear hx13 hZ12 hX12 hR12 hC12 hO12
  by_cases hb : bb = 0
  · subst hb
    go_wp2_with fail
    refine (pick_any B (u + 77) 50 _ hR13 (by omega) (by omega) (by omega)).mono ?_; rintro e w14 ⟨p50, rfl, p500, p501, hR14, hx14⟩
    have hZ14 := blk_ext hZ13 hx14 (by omega)
    have hC14 := blk_ext hC13 hx14 hCB
    have hO14 := hO13.extK hx14 (by omega)
    have hX14 := hX13.trans hx14
    have hR14 := hR14.mono (u' := u + 78) (by omega)
    clear hx14 hZ13 hX13 hR13 hC13 hO13
    obtain ⟨cC0, cC1, cC2, cC3, cC4, cC5, cC6, cC7, cC8, cC9, cC10, cC11, cC12, cC13, cC14, cC15, fC0, fC1, fC2, fC3, fC4, fC5, fC6, fC7, fC8, fC9, fC10, fC11, fC12, fC13, fC14, fC15, zC14⟩ := blk16 hC14
    go_wp2_with fail
    have hZ15 := blk_setOther (i := 0) hZ14 hZC (.int .i64 (20 + p50))
    have hO15 := SOwn.boxE (i := 0) hO14 hC14 (by decide) (.int .i64 (20 + p50))
    have hR15 := hR14.setOther (C := C) (i := 0) hBC (.int .i64 (20 + p50))
    have hX15 := hX14.setNew (C := C) hwC 0 (.int .i64 (20 + p50))
    have hC15 := blk16_at0 (v := .int .i64 (20 + p50)) hC14
    clear hC14 hZ14 hO14 hR14 hX14 cC0 fC0 cC1 fC1 cC2 fC2 cC3 fC3 cC4 fC4 cC5 fC5 cC6 fC6 cC7 fC7 cC8 fC8 cC9 fC9 cC10 fC10 cC11 fC11 cC12 fC12 cC13 fC13 cC14 fC14 cC15 fC15
    generalize (World.setCell w14 ⟨C, 0, none⟩ (.int .i64 (20 + p50))) = w15 at hC15 hZ15 hO15 hR15 hX15 ⊢
    refine (pick_any B (u + 78) 48 _ hR15 (by omega) (by omega) (by omega)).mono ?_; rintro e w16 ⟨p48, rfl, p480, p481, hR16, hx16⟩
    have hZ16 := blk_ext hZ15 hx16 (by omega)
    have hC16 := blk_ext hC15 hx16 hCB
    have hO16 := hO15.extK hx16 (by omega)
    have hX16 := hX15.trans hx16
    have hR16 := hR16.mono (u' := u + 79) (by omega)
    clear hx16 hZ15 hX15 hR15 hC15 hO15
    obtain ⟨cC0, cC1, cC2, cC3, cC4, cC5, cC6, cC7, cC8, cC9, cC10, cC11, cC12, cC13, cC14, cC15, fC0, fC1, fC2, fC3, fC4, fC5, fC6, fC7, fC8, fC9, fC10, fC11, fC12, fC13, fC14, fC15, zC16⟩ := blk16 hC16
    go_wp2_with fail
    have hZ17 := blk_setOther (i := 2) hZ16 hZC (.int .i64 (360 + 15 * p48))
    have hO17 := SOwn.boxE (i := 2) hO16 hC16 (by decide) (.int .i64 (360 + 15 * p48))
    have hR17 := hR16.setOther (C := C) (i := 2) hBC (.int .i64 (360 + 15 * p48))
    have hX17 := hX16.setNew (C := C) hwC 2 (.int .i64 (360 + 15 * p48))
    have hC17 := blk16_at2 (v := .int .i64 (360 + 15 * p48)) hC16
    clear hC16 hZ16 hO16 hR16 hX16 cC0 fC0 cC1 fC1 cC2 fC2 cC3 fC3 cC4 fC4 cC5 fC5 cC6 fC6 cC7 fC7 cC8 fC8 cC9 fC9 cC10 fC10 cC11 fC11 cC12 fC12 cC13 fC13 cC14 fC14 cC15 fC15
    generalize (World.setCell w16 ⟨C, 2, none⟩ (.int .i64 (360 + 15 * p48))) = w17 at hC17 hZ17 hO17 hR17 hX17 ⊢
    obtain ⟨la2, hla2⟩ : ∃ v, 20 + p50 = v := ⟨_, rfl⟩
    obtain ⟨mi2, hmi2⟩ : ∃ v, 360 + 15 * p48 = v := ⟨_, rfl⟩
    rw [hla2, hmi2] at hC17
    have mi20 : 0 ≤ mi2 := by omega
    have mi21 : mi2 ≤ 1425 := by omega
    refine (pick_any B (u + 79) (ho + 1) _ hR17 (by omega) (by omega) (by omega)).mono ?_; rintro e w18 ⟨ha, rfl, ha0, ha1, hR18, hx18⟩
    have hZ18 := blk_ext hZ17 hx18 (by omega)
    have hC18 := blk_ext hC17 hx18 hCB
    have hO18 := hO17.extK hx18 (by omega)
    have hX18 := hX17.trans hx18
    have hR18 := hR18.mono (u' := u + 80) (by omega)
    clear hx18 hZ17 hX17 hR17 hC17 hO17
    obtain ⟨cC0, cC1, cC2, cC3, cC4, cC5, cC6, cC7, cC8, cC9, cC10, cC11, cC12, cC13, cC14, cC15, fC0, fC1, fC2, fC3, fC4, fC5, fC6, fC7, fC8, fC9, fC10, fC11, fC12, fC13, fC14, fC15, zC18⟩ := blk16 hC18
    go_wp2_with fail
    have hZ19 := blk_setOther (i := 10) hZ18 hZC (.int .i64 ha)
    have hO19 := SOwn.boxE (i := 10) hO18 hC18 (by decide) (.int .i64 ha)
    have hR19 := hR18.setOther (C := C) (i := 10) hBC (.int .i64 ha)
    have hX19 := hX18.setNew (C := C) hwC 10 (.int .i64 ha)
    have hC19 := blk16_at10 (v := .int .i64 ha) hC18
    clear hC18 hZ18 hO18 hR18 hX18 cC0 fC0 cC1 fC1 cC2 fC2 cC3 fC3 cC4 fC4 cC5 fC5 cC6 fC6 cC7 fC7 cC8 fC8 cC9 fC9 cC10 fC10 cC11 fC11 cC12 fC12 cC13 fC13 cC14 fC14 cC15 fC15
    generalize (World.setCell w18 ⟨C, 10, none⟩ (.int .i64 ha)) = w19 at hC19 hZ19 hO19 hR19 hX19 ⊢
    refine (odd0_any B (u + 80) n _ hR19 (by omega) hn hn1).mono ?_; rintro e w20 ⟨bd, rfl, hR20, hx20⟩
    have hZ20 := blk_ext hZ19 hx20 (by omega)
    have hC20 := blk_ext hC19 hx20 hCB
    have hO20 := hO19.extK hx20 (by omega)
    have hX20 := hX19.trans hx20
    have hR20 := hR20.mono (u' := u + 81) (by omega)
    clear hx20 hZ19 hX19 hR19 hC19 hO19
    cases bd
    · obtain ⟨hS9, hZ9⟩ := site_ret (u' := u + 100) (la2) (dy) (mi2) (e1) (n1) (fe) (fn) (fu) (ho) (ha) (ne) (lo) (hi) (st) up xs A cap hZ20 hO20 hR20 hX20 hBw (by omega) (by omega) (by omega) hxl
      go_wp2_with (first | (refine wpList_load_row rfl 33 _ rfl _ rfl _ _ (0, 0) _ hC20 Tryz.underlying33 rfl (by kernel_rfl) ?_) | (refine wpList_store_row rfl 33 (.tmp 4) (.tmp 82) rfl w.heap.size _ rfl rfl 33 _ hZ20 (by kernel_rfl) (by kernel_rfl) (by kernel_rfl) ?_))
      exact bodyPost_ret (v := .agg #[.int .i64 la2, .int .i64 dy, .int .i64 mi2, .slice A xs.length cap, .int .i64 e1, .int .i64 n1, .int .i64 fe, .int .i64 fn, .int .i64 fu, .int .i64 ho, .int .i64 ha, .int .i64 ne, .int .i64 lo, .int .i64 hi, .bool up, .int .i64 st]) (results_cell_row Tryz.results43 _ _ _ _ _ (0, 0) _ rfl hZ9 Tryz.underlying33 rfl (by kernel_rfl)) rfl hS9
    · go_wp2_with fail
      refine (pick_any B (u + 81) 5 _ hR20 (by omega) (by omega) (by omega)).mono ?_; rintro e w21 ⟨j, rfl, j0, j1, hR21, hx21⟩
      have hZ21 := blk_ext hZ20 hx21 (by omega)
      have hC21 := blk_ext hC20 hx21 hCB
      have hO21 := hO20.extK hx21 (by omega)
      have hX21 := hX20.trans hx21
      have hR21 := hR21.mono (u' := u + 82) (by omega)
      clear hx21 hZ20 hX20 hR20 hC20 hO20
      by_cases c0 : j = 0
      · subst c0
        go_wp2_with fail
        have hL21 := blk_new w21 (.cells #[.int .i64 0, .int .i64 366] 3 (0, 0))
        have hC22 := blk_old hC21 (.cells #[.int .i64 0, .int .i64 366] 3 (0, 0))
        have hZ22 := blk_old hZ21 (.cells #[.int .i64 0, .int .i64 366] 3 (0, 0))
        have hO22 := hO21.alloc (.cells #[.int .i64 0, .int .i64 366] 3 (0, 0))
        have hX22 := hX21.alloc (.cells #[.int .i64 0, .int .i64 366] 3 (0, 0))
        have hBL := hR21.lt
        have hR22 := hR21.alloc (.cells #[.int .i64 0, .int .i64 366] 3 (0, 0))
        clear hC21 hZ21 hO21 hX21 hR21
        generalize hD : w21.heap.size = D at hL21 hBL ⊢
        generalize w21.alloc (.cells #[.int .i64 0, .int .i64 366] 3 (0, 0)) = w22 at hL21 hC22 hZ22 hO22 hX22 hR22 ⊢
        clear hD
        refine (pick_any B (u + 82) 2 _ hR22 (by omega) (by omega) (by omega)).mono ?_; rintro e w23 ⟨j2, rfl, j20, j21, hR23, hx23⟩
        have hZ23 := blk_ext hZ22 hx23 (by omega)
        have hC23 := blk_ext hC22 hx23 hCB
        have hO23 := hO22.extK hx23 (by omega)
        have hX23 := hX22.trans hx23
        have hR23 := hR23.mono (u' := u + 83) (by omega)
        have hL9 := blk_ext hL21 hx23 (by omega)
        clear hx23 hZ22 hX22 hR22 hC22 hO22
        obtain ⟨l0, l1, _, _, _⟩ := blk2 hL9
        by_cases c9 : j2 = 0
        · subst c9
          obtain ⟨cC0, cC1, cC2, cC3, cC4, cC5, cC6, cC7, cC8, cC9, cC10, cC11, cC12, cC13, cC14, cC15, fC0, fC1, fC2, fC3, fC4, fC5, fC6, fC7, fC8, fC9, fC10, fC11, fC12, fC13, fC14, fC15, zC23⟩ := blk16 hC23
          have hZ24 := blk_setOther (i := 1) hZ23 hZC (.int .i64 0)
          have hO24 := SOwn.boxE (i := 1) hO23 hC23 (by decide) (.int .i64 0)
          have hR24 := hR23.setOther (C := C) (i := 1) hBC (.int .i64 0)
          have hX24 := hX23.setNew (C := C) hwC 1 (.int .i64 0)
          have hC24 := blk16_at1 (v := .int .i64 0) hC23
          obtain ⟨hS9, hZ9⟩ := site_ret (u' := u + 100) (la2) (0) (mi2) (e1) (n1) (fe) (fn) (fu) (ho) (ha) (ne) (lo) (hi) (st) up xs A cap hZ24 hO24 hR24 hX24 hBw (by omega) (by omega) (by omega) hxl
          go_wp2_with (first | (refine wpList_load_row rfl 33 _ rfl _ rfl _ _ (0, 0) _ hC24 Tryz.underlying33 rfl (by kernel_rfl) ?_) | (refine wpList_store_row rfl 33 (.tmp 4) (.tmp 82) rfl w.heap.size _ rfl rfl 33 _ hZ24 (by kernel_rfl) (by kernel_rfl) (by kernel_rfl) ?_))
          exact bodyPost_ret (v := .agg #[.int .i64 la2, .int .i64 0, .int .i64 mi2, .slice A xs.length cap, .int .i64 e1, .int .i64 n1, .int .i64 fe, .int .i64 fn, .int .i64 fu, .int .i64 ho, .int .i64 ha, .int .i64 ne, .int .i64 lo, .int .i64 hi, .bool up, .int .i64 st]) (results_cell_row Tryz.results43 _ _ _ _ _ (0, 0) _ rfl hZ9 Tryz.underlying33 rfl (by kernel_rfl)) rfl hS9
        · obtain rfl : j2 = 1 := by omega
          clear c9
          obtain ⟨cC0, cC1, cC2, cC3, cC4, cC5, cC6, cC7, cC8, cC9, cC10, cC11, cC12, cC13, cC14, cC15, fC0, fC1, fC2, fC3, fC4, fC5, fC6, fC7, fC8, fC9, fC10, fC11, fC12, fC13, fC14, fC15, zC23⟩ := blk16 hC23
          have hZ24 := blk_setOther (i := 1) hZ23 hZC (.int .i64 366)
          have hO24 := SOwn.boxE (i := 1) hO23 hC23 (by decide) (.int .i64 366)
          have hR24 := hR23.setOther (C := C) (i := 1) hBC (.int .i64 366)
          have hX24 := hX23.setNew (C := C) hwC 1 (.int .i64 366)
          have hC24 := blk16_at1 (v := .int .i64 366) hC23
          obtain ⟨hS9, hZ9⟩ := site_ret (u' := u + 100) (la2) (366) (mi2) (e1) (n1) (fe) (fn) (fu) (ho) (ha) (ne) (lo) (hi) (st) up xs A cap hZ24 hO24 hR24 hX24 hBw (by omega) (by omega) (by omega) hxl
          go_wp2_with (first | (refine wpList_load_row rfl 33 _ rfl _ rfl _ _ (0, 0) _ hC24 Tryz.underlying33 rfl (by kernel_rfl) ?_) | (refine wpList_store_row rfl 33 (.tmp 4) (.tmp 82) rfl w.heap.size _ rfl rfl 33 _ hZ24 (by kernel_rfl) (by kernel_rfl) (by kernel_rfl) ?_))
          exact bodyPost_ret (v := .agg #[.int .i64 la2, .int .i64 366, .int .i64 mi2, .slice A xs.length cap, .int .i64 e1, .int .i64 n1, .int .i64 fe, .int .i64 fn, .int .i64 fu, .int .i64 ho, .int .i64 ha, .int .i64 ne, .int .i64 lo, .int .i64 hi, .bool up, .int .i64 st]) (results_cell_row Tryz.results43 _ _ _ _ _ (0, 0) _ rfl hZ9 Tryz.underlying33 rfl (by kernel_rfl)) rfl hS9
      · by_cases c1 : j = 1
        · subst c1
          obtain ⟨cC0, cC1, cC2, cC3, cC4, cC5, cC6, cC7, cC8, cC9, cC10, cC11, cC12, cC13, cC14, cC15, fC0, fC1, fC2, fC3, fC4, fC5, fC6, fC7, fC8, fC9, fC10, fC11, fC12, fC13, fC14, fC15, zC21⟩ := blk16 hC21
          have hZ22 := blk_setOther (i := 2) hZ21 hZC (.int .i64 (mi2 + 7))
          have hO22 := SOwn.boxE (i := 2) hO21 hC21 (by decide) (.int .i64 (mi2 + 7))
          have hR22 := hR21.setOther (C := C) (i := 2) hBC (.int .i64 (mi2 + 7))
          have hX22 := hX21.setNew (C := C) hwC 2 (.int .i64 (mi2 + 7))
          have hC22 := blk16_at2 (v := .int .i64 (mi2 + 7)) hC21
          obtain ⟨hS9, hZ9⟩ := site_ret (u' := u + 100) (la2) (dy) ((mi2 + 7)) (e1) (n1) (fe) (fn) (fu) (ho) (ha) (ne) (lo) (hi) (st) up xs A cap hZ22 hO22 hR22 hX22 hBw (by omega) (by omega) (by omega) hxl
          go_wp2_with (first | (refine wpList_load_row rfl 33 _ rfl _ rfl _ _ (0, 0) _ hC22 Tryz.underlying33 rfl (by kernel_rfl) ?_) | (refine wpList_store_row rfl 33 (.tmp 4) (.tmp 82) rfl w.heap.size _ rfl rfl 33 _ hZ22 (by kernel_rfl) (by kernel_rfl) (by kernel_rfl) ?_))
          exact bodyPost_ret (v := .agg #[.int .i64 la2, .int .i64 dy, .int .i64 (mi2 + 7), .slice A xs.length cap, .int .i64 e1, .int .i64 n1, .int .i64 fe, .int .i64 fn, .int .i64 fu, .int .i64 ho, .int .i64 ha, .int .i64 ne, .int .i64 lo, .int .i64 hi, .bool up, .int .i64 st]) (results_cell_row Tryz.results43 _ _ _ _ _ (0, 0) _ rfl hZ9 Tryz.underlying33 rfl (by kernel_rfl)) rfl hS9
        · by_cases c2 : j = 2
          · subst c2
            obtain ⟨cC0, cC1, cC2, cC3, cC4, cC5, cC6, cC7, cC8, cC9, cC10, cC11, cC12, cC13, cC14, cC15, fC0, fC1, fC2, fC3, fC4, fC5, fC6, fC7, fC8, fC9, fC10, fC11, fC12, fC13, fC14, fC15, zC21⟩ := blk16 hC21
            have hZ22 := blk_setOther (i := 10) hZ21 hZC (.int .i64 (ho + 1))
            have hO22 := SOwn.boxE (i := 10) hO21 hC21 (by decide) (.int .i64 (ho + 1))
            have hR22 := hR21.setOther (C := C) (i := 10) hBC (.int .i64 (ho + 1))
            have hX22 := hX21.setNew (C := C) hwC 10 (.int .i64 (ho + 1))
            have hC22 := blk16_at10 (v := .int .i64 (ho + 1)) hC21
            obtain ⟨hS9, hZ9⟩ := site_ret (u' := u + 100) (la2) (dy) (mi2) (e1) (n1) (fe) (fn) (fu) (ho) ((ho + 1)) (ne) (lo) (hi) (st) up xs A cap hZ22 hO22 hR22 hX22 hBw (by omega) (by omega) (by omega) hxl
            go_wp2_with (first | (refine wpList_load_row rfl 33 _ rfl _ rfl _ _ (0, 0) _ hC22 Tryz.underlying33 rfl (by kernel_rfl) ?_) | (refine wpList_store_row rfl 33 (.tmp 4) (.tmp 82) rfl w.heap.size _ rfl rfl 33 _ hZ22 (by kernel_rfl) (by kernel_rfl) (by kernel_rfl) ?_))
            exact bodyPost_ret (v := .agg #[.int .i64 la2, .int .i64 dy, .int .i64 mi2, .slice A xs.length cap, .int .i64 e1, .int .i64 n1, .int .i64 fe, .int .i64 fn, .int .i64 fu, .int .i64 ho, .int .i64 (ho + 1), .int .i64 ne, .int .i64 lo, .int .i64 hi, .bool up, .int .i64 st]) (results_cell_row Tryz.results43 _ _ _ _ _ (0, 0) _ rfl hZ9 Tryz.underlying33 rfl (by kernel_rfl)) rfl hS9
          · by_cases c3 : j = 3
            · subst c3
              obtain ⟨cC0, cC1, cC2, cC3, cC4, cC5, cC6, cC7, cC8, cC9, cC10, cC11, cC12, cC13, cC14, cC15, fC0, fC1, fC2, fC3, fC4, fC5, fC6, fC7, fC8, fC9, fC10, fC11, fC12, fC13, fC14, fC15, zC21⟩ := blk16 hC21
              have tZ0 := blk_setOther (i := 6) hZ21 hZC (.int .i64 0)
              have tO0 := SOwn.boxE (i := 6) hO21 hC21 (by decide) (.int .i64 0)
              have tR0 := hR21.setOther (C := C) (i := 6) hBC (.int .i64 0)
              have tX0 := hX21.setNew (C := C) hwC 6 (.int .i64 0)
              have tC0 := blk16_at6 (v := .int .i64 0) hC21
              have tZ1 := blk_setOther (i := 7) tZ0 hZC (.int .i64 0)
              have tO1 := SOwn.boxE (i := 7) tO0 tC0 (by decide) (.int .i64 0)
              have tR1 := tR0.setOther (C := C) (i := 7) hBC (.int .i64 0)
              have tX1 := tX0.setNew (C := C) hwC 7 (.int .i64 0)
              have tC1 := blk16_at7 (v := .int .i64 0) tC0
              have hZ22 := blk_setOther (i := 8) tZ1 hZC (.int .i64 0)
              have hO22 := SOwn.boxE (i := 8) tO1 tC1 (by decide) (.int .i64 0)
              have hR22 := tR1.setOther (C := C) (i := 8) hBC (.int .i64 0)
              have hX22 := tX1.setNew (C := C) hwC 8 (.int .i64 0)
              have hC22 := blk16_at8 (v := .int .i64 0) tC1
              obtain ⟨hS9, hZ9⟩ := site_ret (u' := u + 100) (la2) (dy) (mi2) (e1) (n1) (0) (0) (0) (ho) (ha) (ne) (lo) (hi) (st) up xs A cap hZ22 hO22 hR22 hX22 hBw (by omega) (by omega) (by omega) hxl
              go_wp2_with (first | (refine wpList_load_row rfl 33 _ rfl _ rfl _ _ (0, 0) _ hC22 Tryz.underlying33 rfl (by kernel_rfl) ?_) | (refine wpList_store_row rfl 33 (.tmp 4) (.tmp 82) rfl w.heap.size _ rfl rfl 33 _ hZ22 (by kernel_rfl) (by kernel_rfl) (by kernel_rfl) ?_))
              exact bodyPost_ret (v := .agg #[.int .i64 la2, .int .i64 dy, .int .i64 mi2, .slice A xs.length cap, .int .i64 e1, .int .i64 n1, .int .i64 0, .int .i64 0, .int .i64 0, .int .i64 ho, .int .i64 ha, .int .i64 ne, .int .i64 lo, .int .i64 hi, .bool up, .int .i64 st]) (results_cell_row Tryz.results43 _ _ _ _ _ (0, 0) _ rfl hZ9 Tryz.underlying33 rfl (by kernel_rfl)) rfl hS9
            · have ej0 : (j == 0) = false := by rw [beq_eq_false_iff_ne]; exact c0
              have ej1 : (j == 1) = false := by rw [beq_eq_false_iff_ne]; exact c1
              have ej2 : (j == 2) = false := by rw [beq_eq_false_iff_ne]; exact c2
              have ej3 : (j == 3) = false := by rw [beq_eq_false_iff_ne]; exact c3
              obtain ⟨cC0, cC1, cC2, cC3, cC4, cC5, cC6, cC7, cC8, cC9, cC10, cC11, cC12, cC13, cC14, cC15, fC0, fC1, fC2, fC3, fC4, fC5, fC6, fC7, fC8, fC9, fC10, fC11, fC12, fC13, fC14, fC15, zC21⟩ := blk16 hC21
              have hZ22 := blk_setOther (i := 0) hZ21 hZC (.int .i64 91)
              have hO22 := SOwn.boxE (i := 0) hO21 hC21 (by decide) (.int .i64 91)
              have hR22 := hR21.setOther (C := C) (i := 0) hBC (.int .i64 91)
              have hX22 := hX21.setNew (C := C) hwC 0 (.int .i64 91)
              have hC22 := blk16_at0 (v := .int .i64 91) hC21
              obtain ⟨hS9, hZ9⟩ := site_ret (u' := u + 100) (91) (dy) (mi2) (e1) (n1) (fe) (fn) (fu) (ho) (ha) (ne) (lo) (hi) (st) up xs A cap hZ22 hO22 hR22 hX22 hBw (by omega) (by omega) (by omega) hxl
              go_wp2_with (first | (refine wpList_load_row rfl 33 _ rfl _ rfl _ _ (0, 0) _ hC22 Tryz.underlying33 rfl (by kernel_rfl) ?_) | (refine wpList_store_row rfl 33 (.tmp 4) (.tmp 82) rfl w.heap.size _ rfl rfl 33 _ hZ22 (by kernel_rfl) (by kernel_rfl) (by kernel_rfl) ?_))
              exact bodyPost_ret (v := .agg #[.int .i64 91, .int .i64 dy, .int .i64 mi2, .slice A xs.length cap, .int .i64 e1, .int .i64 n1, .int .i64 fe, .int .i64 fn, .int .i64 fu, .int .i64 ho, .int .i64 ha, .int .i64 ne, .int .i64 lo, .int .i64 hi, .bool up, .int .i64 st]) (results_cell_row Tryz.results43 _ _ _ _ _ (0, 0) _ rfl hZ9 Tryz.underlying33 rfl (by kernel_rfl)) rfl hS9
  · have hbb : (bb == 0) = false := by rw [beq_eq_false_iff_ne]; exact hb
    obtain ⟨cD0, cD1, cD2, cD3, cD4, cD5, cD6, cD7, cD8, cD9, cD10, cD11, cD12, cD13, cD14, cD15, _⟩ := blk16 hC13
    go_wp2_with fail
    refine (pick_any B (u + 77) (ho + 1) _ hR13 (by omega) (by omega) (by omega)).mono ?_; rintro e w14 ⟨ha, rfl, ha0, ha1, hR14, hx14⟩
    have hZ14 := blk_ext hZ13 hx14 (by omega)
    have hC14 := blk_ext hC13 hx14 hCB
    have hO14 := hO13.extK hx14 (by omega)
    have hX14 := hX13.trans hx14
    have hR14 := hR14.mono (u' := u + 78) (by omega)
    clear hx14 hZ13 hX13 hR13 hC13 hO13
    obtain ⟨cC0, cC1, cC2, cC3, cC4, cC5, cC6, cC7, cC8, cC9, cC10, cC11, cC12, cC13, cC14, cC15, fC0, fC1, fC2, fC3, fC4, fC5, fC6, fC7, fC8, fC9, fC10, fC11, fC12, fC13, fC14, fC15, zC14⟩ := blk16 hC14
    go_wp2_with fail
    have hZ15 := blk_setOther (i := 10) hZ14 hZC (.int .i64 ha)
    have hO15 := SOwn.boxE (i := 10) hO14 hC14 (by decide) (.int .i64 ha)
    have hR15 := hR14.setOther (C := C) (i := 10) hBC (.int .i64 ha)
    have hX15 := hX14.setNew (C := C) hwC 10 (.int .i64 ha)
    have hC15 := blk16_at10 (v := .int .i64 ha) hC14
    clear hC14 hZ14 hO14 hR14 hX14 cC0 fC0 cC1 fC1 cC2 fC2 cC3 fC3 cC4 fC4 cC5 fC5 cC6 fC6 cC7 fC7 cC8 fC8 cC9 fC9 cC10 fC10 cC11 fC11 cC12 fC12 cC13 fC13 cC14 fC14 cC15 fC15
    generalize (World.setCell w14 ⟨C, 10, none⟩ (.int .i64 ha)) = w15 at hC15 hZ15 hO15 hR15 hX15 ⊢
    refine (odd0_any B (u + 78) n _ hR15 (by omega) hn hn1).mono ?_; rintro e w16 ⟨bd, rfl, hR16, hx16⟩
    have hZ16 := blk_ext hZ15 hx16 (by omega)
    have hC16 := blk_ext hC15 hx16 hCB
    have hO16 := hO15.extK hx16 (by omega)
    have hX16 := hX15.trans hx16
    have hR16 := hR16.mono (u' := u + 79) (by omega)
    clear hx16 hZ15 hX15 hR15 hC15 hO15
    cases bd
    · obtain ⟨hS9, hZ9⟩ := site_ret (u' := u + 100) (la) (dy) (mi) (e1) (n1) (fe) (fn) (fu) (ho) (ha) (ne) (lo) (hi) (st) up xs A cap hZ16 hO16 hR16 hX16 hBw (by omega) (by omega) (by omega) hxl
      go_wp2_with (first | (refine wpList_load_row rfl 33 _ rfl _ rfl _ _ (0, 0) _ hC16 Tryz.underlying33 rfl (by kernel_rfl) ?_) | (refine wpList_store_row rfl 33 (.tmp 4) (.tmp 82) rfl w.heap.size _ rfl rfl 33 _ hZ16 (by kernel_rfl) (by kernel_rfl) (by kernel_rfl) ?_))
      exact bodyPost_ret (v := .agg #[.int .i64 la, .int .i64 dy, .int .i64 mi, .slice A xs.length cap, .int .i64 e1, .int .i64 n1, .int .i64 fe, .int .i64 fn, .int .i64 fu, .int .i64 ho, .int .i64 ha, .int .i64 ne, .int .i64 lo, .int .i64 hi, .bool up, .int .i64 st]) (results_cell_row Tryz.results43 _ _ _ _ _ (0, 0) _ rfl hZ9 Tryz.underlying33 rfl (by kernel_rfl)) rfl hS9
    · go_wp2_with fail
      refine (pick_any B (u + 79) 5 _ hR16 (by omega) (by omega) (by omega)).mono ?_; rintro e w17 ⟨j, rfl, j0, j1, hR17, hx17⟩
      have hZ17 := blk_ext hZ16 hx17 (by omega)
      have hC17 := blk_ext hC16 hx17 hCB
      have hO17 := hO16.extK hx17 (by omega)
      have hX17 := hX16.trans hx17
      have hR17 := hR17.mono (u' := u + 80) (by omega)
      clear hx17 hZ16 hX16 hR16 hC16 hO16
      by_cases c0 : j = 0
      · subst c0
        go_wp2_with fail
        have hL17 := blk_new w17 (.cells #[.int .i64 0, .int .i64 366] 3 (0, 0))
        have hC18 := blk_old hC17 (.cells #[.int .i64 0, .int .i64 366] 3 (0, 0))
        have hZ18 := blk_old hZ17 (.cells #[.int .i64 0, .int .i64 366] 3 (0, 0))
        have hO18 := hO17.alloc (.cells #[.int .i64 0, .int .i64 366] 3 (0, 0))
        have hX18 := hX17.alloc (.cells #[.int .i64 0, .int .i64 366] 3 (0, 0))
        have hBL := hR17.lt
        have hR18 := hR17.alloc (.cells #[.int .i64 0, .int .i64 366] 3 (0, 0))
        clear hC17 hZ17 hO17 hX17 hR17
        generalize hD : w17.heap.size = D at hL17 hBL ⊢
        generalize w17.alloc (.cells #[.int .i64 0, .int .i64 366] 3 (0, 0)) = w18 at hL17 hC18 hZ18 hO18 hX18 hR18 ⊢
        clear hD
        refine (pick_any B (u + 80) 2 _ hR18 (by omega) (by omega) (by omega)).mono ?_; rintro e w19 ⟨j2, rfl, j20, j21, hR19, hx19⟩
        have hZ19 := blk_ext hZ18 hx19 (by omega)
        have hC19 := blk_ext hC18 hx19 hCB
        have hO19 := hO18.extK hx19 (by omega)
        have hX19 := hX18.trans hx19
        have hR19 := hR19.mono (u' := u + 81) (by omega)
        have hL9 := blk_ext hL17 hx19 (by omega)
        clear hx19 hZ18 hX18 hR18 hC18 hO18
        obtain ⟨l0, l1, _, _, _⟩ := blk2 hL9
        by_cases c9 : j2 = 0
        · subst c9
          obtain ⟨cC0, cC1, cC2, cC3, cC4, cC5, cC6, cC7, cC8, cC9, cC10, cC11, cC12, cC13, cC14, cC15, fC0, fC1, fC2, fC3, fC4, fC5, fC6, fC7, fC8, fC9, fC10, fC11, fC12, fC13, fC14, fC15, zC19⟩ := blk16 hC19
          have hZ20 := blk_setOther (i := 1) hZ19 hZC (.int .i64 0)
          have hO20 := SOwn.boxE (i := 1) hO19 hC19 (by decide) (.int .i64 0)
          have hR20 := hR19.setOther (C := C) (i := 1) hBC (.int .i64 0)
          have hX20 := hX19.setNew (C := C) hwC 1 (.int .i64 0)
          have hC20 := blk16_at1 (v := .int .i64 0) hC19
          obtain ⟨hS9, hZ9⟩ := site_ret (u' := u + 100) (la) (0) (mi) (e1) (n1) (fe) (fn) (fu) (ho) (ha) (ne) (lo) (hi) (st) up xs A cap hZ20 hO20 hR20 hX20 hBw (by omega) (by omega) (by omega) hxl
          go_wp2_with (first | (refine wpList_load_row rfl 33 _ rfl _ rfl _ _ (0, 0) _ hC20 Tryz.underlying33 rfl (by kernel_rfl) ?_) | (refine wpList_store_row rfl 33 (.tmp 4) (.tmp 82) rfl w.heap.size _ rfl rfl 33 _ hZ20 (by kernel_rfl) (by kernel_rfl) (by kernel_rfl) ?_))
          exact bodyPost_ret (v := .agg #[.int .i64 la, .int .i64 0, .int .i64 mi, .slice A xs.length cap, .int .i64 e1, .int .i64 n1, .int .i64 fe, .int .i64 fn, .int .i64 fu, .int .i64 ho, .int .i64 ha, .int .i64 ne, .int .i64 lo, .int .i64 hi, .bool up, .int .i64 st]) (results_cell_row Tryz.results43 _ _ _ _ _ (0, 0) _ rfl hZ9 Tryz.underlying33 rfl (by kernel_rfl)) rfl hS9
        · obtain rfl : j2 = 1 := by omega
          clear c9
          obtain ⟨cC0, cC1, cC2, cC3, cC4, cC5, cC6, cC7, cC8, cC9, cC10, cC11, cC12, cC13, cC14, cC15, fC0, fC1, fC2, fC3, fC4, fC5, fC6, fC7, fC8, fC9, fC10, fC11, fC12, fC13, fC14, fC15, zC19⟩ := blk16 hC19
          have hZ20 := blk_setOther (i := 1) hZ19 hZC (.int .i64 366)
          have hO20 := SOwn.boxE (i := 1) hO19 hC19 (by decide) (.int .i64 366)
          have hR20 := hR19.setOther (C := C) (i := 1) hBC (.int .i64 366)
          have hX20 := hX19.setNew (C := C) hwC 1 (.int .i64 366)
          have hC20 := blk16_at1 (v := .int .i64 366) hC19
          obtain ⟨hS9, hZ9⟩ := site_ret (u' := u + 100) (la) (366) (mi) (e1) (n1) (fe) (fn) (fu) (ho) (ha) (ne) (lo) (hi) (st) up xs A cap hZ20 hO20 hR20 hX20 hBw (by omega) (by omega) (by omega) hxl
          go_wp2_with (first | (refine wpList_load_row rfl 33 _ rfl _ rfl _ _ (0, 0) _ hC20 Tryz.underlying33 rfl (by kernel_rfl) ?_) | (refine wpList_store_row rfl 33 (.tmp 4) (.tmp 82) rfl w.heap.size _ rfl rfl 33 _ hZ20 (by kernel_rfl) (by kernel_rfl) (by kernel_rfl) ?_))
          exact bodyPost_ret (v := .agg #[.int .i64 la, .int .i64 366, .int .i64 mi, .slice A xs.length cap, .int .i64 e1, .int .i64 n1, .int .i64 fe, .int .i64 fn, .int .i64 fu, .int .i64 ho, .int .i64 ha, .int .i64 ne, .int .i64 lo, .int .i64 hi, .bool up, .int .i64 st]) (results_cell_row Tryz.results43 _ _ _ _ _ (0, 0) _ rfl hZ9 Tryz.underlying33 rfl (by kernel_rfl)) rfl hS9
      · by_cases c1 : j = 1
        · subst c1
          obtain ⟨cC0, cC1, cC2, cC3, cC4, cC5, cC6, cC7, cC8, cC9, cC10, cC11, cC12, cC13, cC14, cC15, fC0, fC1, fC2, fC3, fC4, fC5, fC6, fC7, fC8, fC9, fC10, fC11, fC12, fC13, fC14, fC15, zC17⟩ := blk16 hC17
          have hZ18 := blk_setOther (i := 2) hZ17 hZC (.int .i64 (mi + 7))
          have hO18 := SOwn.boxE (i := 2) hO17 hC17 (by decide) (.int .i64 (mi + 7))
          have hR18 := hR17.setOther (C := C) (i := 2) hBC (.int .i64 (mi + 7))
          have hX18 := hX17.setNew (C := C) hwC 2 (.int .i64 (mi + 7))
          have hC18 := blk16_at2 (v := .int .i64 (mi + 7)) hC17
          obtain ⟨hS9, hZ9⟩ := site_ret (u' := u + 100) (la) (dy) ((mi + 7)) (e1) (n1) (fe) (fn) (fu) (ho) (ha) (ne) (lo) (hi) (st) up xs A cap hZ18 hO18 hR18 hX18 hBw (by omega) (by omega) (by omega) hxl
          go_wp2_with (first | (refine wpList_load_row rfl 33 _ rfl _ rfl _ _ (0, 0) _ hC18 Tryz.underlying33 rfl (by kernel_rfl) ?_) | (refine wpList_store_row rfl 33 (.tmp 4) (.tmp 82) rfl w.heap.size _ rfl rfl 33 _ hZ18 (by kernel_rfl) (by kernel_rfl) (by kernel_rfl) ?_))
          exact bodyPost_ret (v := .agg #[.int .i64 la, .int .i64 dy, .int .i64 (mi + 7), .slice A xs.length cap, .int .i64 e1, .int .i64 n1, .int .i64 fe, .int .i64 fn, .int .i64 fu, .int .i64 ho, .int .i64 ha, .int .i64 ne, .int .i64 lo, .int .i64 hi, .bool up, .int .i64 st]) (results_cell_row Tryz.results43 _ _ _ _ _ (0, 0) _ rfl hZ9 Tryz.underlying33 rfl (by kernel_rfl)) rfl hS9
        · by_cases c2 : j = 2
          · subst c2
            obtain ⟨cC0, cC1, cC2, cC3, cC4, cC5, cC6, cC7, cC8, cC9, cC10, cC11, cC12, cC13, cC14, cC15, fC0, fC1, fC2, fC3, fC4, fC5, fC6, fC7, fC8, fC9, fC10, fC11, fC12, fC13, fC14, fC15, zC17⟩ := blk16 hC17
            have hZ18 := blk_setOther (i := 10) hZ17 hZC (.int .i64 (ho + 1))
            have hO18 := SOwn.boxE (i := 10) hO17 hC17 (by decide) (.int .i64 (ho + 1))
            have hR18 := hR17.setOther (C := C) (i := 10) hBC (.int .i64 (ho + 1))
            have hX18 := hX17.setNew (C := C) hwC 10 (.int .i64 (ho + 1))
            have hC18 := blk16_at10 (v := .int .i64 (ho + 1)) hC17
            obtain ⟨hS9, hZ9⟩ := site_ret (u' := u + 100) (la) (dy) (mi) (e1) (n1) (fe) (fn) (fu) (ho) ((ho + 1)) (ne) (lo) (hi) (st) up xs A cap hZ18 hO18 hR18 hX18 hBw (by omega) (by omega) (by omega) hxl
            go_wp2_with (first | (refine wpList_load_row rfl 33 _ rfl _ rfl _ _ (0, 0) _ hC18 Tryz.underlying33 rfl (by kernel_rfl) ?_) | (refine wpList_store_row rfl 33 (.tmp 4) (.tmp 82) rfl w.heap.size _ rfl rfl 33 _ hZ18 (by kernel_rfl) (by kernel_rfl) (by kernel_rfl) ?_))
            exact bodyPost_ret (v := .agg #[.int .i64 la, .int .i64 dy, .int .i64 mi, .slice A xs.length cap, .int .i64 e1, .int .i64 n1, .int .i64 fe, .int .i64 fn, .int .i64 fu, .int .i64 ho, .int .i64 (ho + 1), .int .i64 ne, .int .i64 lo, .int .i64 hi, .bool up, .int .i64 st]) (results_cell_row Tryz.results43 _ _ _ _ _ (0, 0) _ rfl hZ9 Tryz.underlying33 rfl (by kernel_rfl)) rfl hS9
          · by_cases c3 : j = 3
            · subst c3
              obtain ⟨cC0, cC1, cC2, cC3, cC4, cC5, cC6, cC7, cC8, cC9, cC10, cC11, cC12, cC13, cC14, cC15, fC0, fC1, fC2, fC3, fC4, fC5, fC6, fC7, fC8, fC9, fC10, fC11, fC12, fC13, fC14, fC15, zC17⟩ := blk16 hC17
              have tZ0 := blk_setOther (i := 6) hZ17 hZC (.int .i64 0)
              have tO0 := SOwn.boxE (i := 6) hO17 hC17 (by decide) (.int .i64 0)
              have tR0 := hR17.setOther (C := C) (i := 6) hBC (.int .i64 0)
              have tX0 := hX17.setNew (C := C) hwC 6 (.int .i64 0)
              have tC0 := blk16_at6 (v := .int .i64 0) hC17
              have tZ1 := blk_setOther (i := 7) tZ0 hZC (.int .i64 0)
              have tO1 := SOwn.boxE (i := 7) tO0 tC0 (by decide) (.int .i64 0)
              have tR1 := tR0.setOther (C := C) (i := 7) hBC (.int .i64 0)
              have tX1 := tX0.setNew (C := C) hwC 7 (.int .i64 0)
              have tC1 := blk16_at7 (v := .int .i64 0) tC0
              have hZ18 := blk_setOther (i := 8) tZ1 hZC (.int .i64 0)
              have hO18 := SOwn.boxE (i := 8) tO1 tC1 (by decide) (.int .i64 0)
              have hR18 := tR1.setOther (C := C) (i := 8) hBC (.int .i64 0)
              have hX18 := tX1.setNew (C := C) hwC 8 (.int .i64 0)
              have hC18 := blk16_at8 (v := .int .i64 0) tC1
              obtain ⟨hS9, hZ9⟩ := site_ret (u' := u + 100) (la) (dy) (mi) (e1) (n1) (0) (0) (0) (ho) (ha) (ne) (lo) (hi) (st) up xs A cap hZ18 hO18 hR18 hX18 hBw (by omega) (by omega) (by omega) hxl
              go_wp2_with (first | (refine wpList_load_row rfl 33 _ rfl _ rfl _ _ (0, 0) _ hC18 Tryz.underlying33 rfl (by kernel_rfl) ?_) | (refine wpList_store_row rfl 33 (.tmp 4) (.tmp 82) rfl w.heap.size _ rfl rfl 33 _ hZ18 (by kernel_rfl) (by kernel_rfl) (by kernel_rfl) ?_))
              exact bodyPost_ret (v := .agg #[.int .i64 la, .int .i64 dy, .int .i64 mi, .slice A xs.length cap, .int .i64 e1, .int .i64 n1, .int .i64 0, .int .i64 0, .int .i64 0, .int .i64 ho, .int .i64 ha, .int .i64 ne, .int .i64 lo, .int .i64 hi, .bool up, .int .i64 st]) (results_cell_row Tryz.results43 _ _ _ _ _ (0, 0) _ rfl hZ9 Tryz.underlying33 rfl (by kernel_rfl)) rfl hS9
            · have ej0 : (j == 0) = false := by rw [beq_eq_false_iff_ne]; exact c0
              have ej1 : (j == 1) = false := by rw [beq_eq_false_iff_ne]; exact c1
              have ej2 : (j == 2) = false := by rw [beq_eq_false_iff_ne]; exact c2
              have ej3 : (j == 3) = false := by rw [beq_eq_false_iff_ne]; exact c3
              obtain ⟨cC0, cC1, cC2, cC3, cC4, cC5, cC6, cC7, cC8, cC9, cC10, cC11, cC12, cC13, cC14, cC15, fC0, fC1, fC2, fC3, fC4, fC5, fC6, fC7, fC8, fC9, fC10, fC11, fC12, fC13, fC14, fC15, zC17⟩ := blk16 hC17
              have hZ18 := blk_setOther (i := 0) hZ17 hZC (.int .i64 91)
              have hO18 := SOwn.boxE (i := 0) hO17 hC17 (by decide) (.int .i64 91)
              have hR18 := hR17.setOther (C := C) (i := 0) hBC (.int .i64 91)
              have hX18 := hX17.setNew (C := C) hwC 0 (.int .i64 91)
              have hC18 := blk16_at0 (v := .int .i64 91) hC17
              obtain ⟨hS9, hZ9⟩ := site_ret (u' := u + 100) (91) (dy) (mi) (e1) (n1) (fe) (fn) (fu) (ho) (ha) (ne) (lo) (hi) (st) up xs A cap hZ18 hO18 hR18 hX18 hBw (by omega) (by omega) (by omega) hxl
              go_wp2_with (first | (refine wpList_load_row rfl 33 _ rfl _ rfl _ _ (0, 0) _ hC18 Tryz.underlying33 rfl (by kernel_rfl) ?_) | (refine wpList_store_row rfl 33 (.tmp 4) (.tmp 82) rfl w.heap.size _ rfl rfl 33 _ hZ18 (by kernel_rfl) (by kernel_rfl) (by kernel_rfl) ?_))
              exact bodyPost_ret (v := .agg #[.int .i64 91, .int .i64 dy, .int .i64 mi, .slice A xs.length cap, .int .i64 e1, .int .i64 n1, .int .i64 fe, .int .i64 fn, .int .i64 fu, .int .i64 ho, .int .i64 ha, .int .i64 ne, .int .i64 lo, .int .i64 hi, .bool up, .int .i64 st]) (results_cell_row Tryz.results43 _ _ _ _ _ (0, 0) _ rfl hZ9 Tryz.underlying33 rfl (by kernel_rfl)) rfl hS9
def DrewSite (w : World) (e : Ending) (w' : World) : Prop :=
  ∃ (la dy mi e1 n1 fe fn fu ho ha ne lo hi st : Int) (up : Bool) (xs : List VBlock) (A : Option Addr) (cap : Nat), e = .returned (.agg #[.int .i64 la, .int .i64 dy, .int .i64 mi, .slice A xs.length cap, .int .i64 e1, .int .i64 n1, .int .i64 fe, .int .i64 fn, .int .i64 fu, .int .i64 ho, .int .i64 ha, .int .i64 ne, .int .i64 lo, .int .i64 hi, .bool up, .int .i64 st]) ∧ (0 ≤ ho ∧ ho ≤ 100) ∧ xs.length ≤ 6 ∧ SOwn encBlock w' w.heap.size 40 A cap xs ∧ Below w.heap.size w w'
end Go.Proofs.YtbklgpghonigjaaGreat
