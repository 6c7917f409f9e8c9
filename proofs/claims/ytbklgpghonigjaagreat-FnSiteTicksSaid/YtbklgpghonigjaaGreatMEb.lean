/- Eb: texts joined. -/
import Derived.Test.YtbklgpghonigjaaGreatMQH
import Derived.Test.YtbklgpghonigjaaGreatMQD
import Derived.Test.YtbklgpghonigjaaGreatMQE
import Derived.Test.YtbklgpghonigjaaGreatMQG
import Derived.Test.YtbklgpghonigjaaGreatMBp
import Derived.Test.YtbklgpghonigjaaGreatMQB
namespace Go.Proofs.YtbklgpghonigjaaGreat
open Go Go.ChangeShapes Go.WideShapes Go.ChangeAt Go.RowKit Go.Deep
set_option linter.unusedSimpArgs false
set_option linter.unusedVariables false
set_option linter.unnecessarySimpa false
/-- The time of a site. -/
def tvB (la dy mi : Int) : Bool := inV la (-90) 90 && inV dy 1 365 && inV mi 0 1425 && decide (mi.tmod 15 = 0)
/-- The panel and the store of a site. -/
def svB (fe fn fu ho ha ne : Int) : Bool := fcB fe fn fu && inV ho 0 200 && inV ha 0 ho && inV ne 0 20
/-- A valid site. -/
def siB (la dy mi e1 n1 fe fn fu ho ha ne lo hi st : Int) (xs : List VBlock) : Bool := tvB la dy mi && bsB xs && plB e1 n1 && svB fe fn fu ho ha ne && bdB lo hi && inV st 0 20
theorem tvB_sky {la dy mi : Int} : tvB la dy mi = (skyB la 0 && inV dy 1 365 && inV mi 0 1439 && decide (mi.tmod 15 = 0)) := by
  have key : (0 ≤ mi ∧ mi ≤ 1439 ∧ mi.tmod 15 = 0) → mi ≤ 1425 := by
    rintro ⟨h0, h1, h2⟩
    rw [Int.tmod_eq_emod_of_nonneg h0] at h2; omega
  rw [Bool.eq_iff_iff]
  simp only [tvB, skyB, inV, Bool.and_eq_true, decide_eq_true_eq]
  constructor
  · rintro ⟨⟨⟨a, b⟩, c⟩, d⟩; exact ⟨⟨⟨by omega, b⟩, by omega⟩, d⟩
  · rintro ⟨⟨⟨a, b⟩, c⟩, d⟩; exact ⟨⟨⟨by omega, b⟩, c.1, key ⟨c.1, c.2, d⟩⟩, d⟩
theorem siB_false {la dy mi e1 n1 fe fn fu ho ha ne lo hi st : Int} {xs : List VBlock} (h : tvB la dy mi = false ∨ bsB xs = false ∨ plB e1 n1 = false ∨ svB fe fn fu ho ha ne = false ∨ bdB lo hi = false ∨ inV st 0 20 = false) : siB la dy mi e1 n1 fe fn fu ho ha ne lo hi st xs = false := by
  unfold siB
  rcases h with h | h | h | h | h | h <;> rw [h] <;> simp
set_option maxRecDepth 100000 in
set_option maxHeartbeats 4000000 in
theorem iMv10_any (m : Int) (w : World) :
    Calls Tryz.prog 120 #[.int .i64 m] w fun E w' => E = .returned (.bool (inV m 0 1439)) ∧ w = w' := by
  go_enter Tryz.func120, Tryz.ntmps120
  go_wp2_with (go_at_call 99; refine (iIn7 _ _ _ _).mono ?_; rintro E w' ⟨rfl, rfl⟩)
  go_ret
  exact ⟨rfl, rfl⟩
theorem iMv10_is {m : Int} {r : Bool} (w : World) (h_ : inV m 0 1439 = r) : Calls Tryz.prog 120 #[.int .i64 m] w fun E w' => E = .returned (.bool r) ∧ w = w' := by subst h_; exact iMv10_any m w
set_option maxRecDepth 100000 in
set_option maxHeartbeats 4000000 in
theorem partsOf_any (la dy mi e1 n1 fe fn fu ho ha ne lo hi st : Int) (up : Bool) (A : Option Addr) (n cap : Nat) (w : World) : Calls Tryz.prog 45 #[.agg #[.int .i64 la, .int .i64 dy, .int .i64 mi, .slice A n cap, .int .i64 e1, .int .i64 n1, .int .i64 fe, .int .i64 fn, .int .i64 fu, .int .i64 ho, .int .i64 ha, .int .i64 ne, .int .i64 lo, .int .i64 hi, .bool up, .int .i64 st]] w fun E w' => E = .returned (.agg #[.int .i64 la, .int .i64 dy, .int .i64 mi, .int .i64 fe, .int .i64 fn, .int .i64 fu, .int .i64 ho, .int .i64 ha, .int .i64 ne, .slice A n cap, .int .i64 e1, .int .i64 n1, .int .i64 lo, .int .i64 hi, .bool up, .int .i64 st]) ∧ Below w.heap.size w w' := by
  go_enter Tryz.func45, Tryz.ntmps45
  go_wp2
  exact bodyPost_ret (v := .agg #[.int .i64 la, .int .i64 dy, .int .i64 mi, .int .i64 fe, .int .i64 fn, .int .i64 fu, .int .i64 ho, .int .i64 ha, .int .i64 ne, .slice A n cap, .int .i64 e1, .int .i64 n1, .int .i64 lo, .int .i64 hi, .bool up, .int .i64 st]) (by simp [results, Tryz.results45, go_sem]) rfl ⟨rfl, bel2 _ _ _⟩
set_option maxRecDepth 100000 in
set_option maxHeartbeats 4000000 in
theorem iTV_is {la dy mi : Int} {r : Bool} (w : World) (hr : tvB la dy mi = r) : Calls Tryz.prog 72 #[.agg #[.int .i64 la, .int .i64 dy, .int .i64 mi]] w fun E w' => E = .returned (.bool r) ∧ Below w.heap.size w w' := by
  rw [tvB_sky] at hr
  have HR := Lib.hid hr
  clear hr
  obtain ⟨b0, hb0⟩ : ∃ b, skyB la 0 = b := ⟨_, rfl⟩
  have H0 := Lib.hid hb0
  clear hb0
  obtain ⟨b1, hb1⟩ : ∃ b, inV dy 1 365 = b := ⟨_, rfl⟩
  have H1 := Lib.hid hb1
  clear hb1
  obtain ⟨b2, hb2⟩ : ∃ b, inV mi 0 1439 = b := ⟨_, rfl⟩
  have H2 := Lib.hid hb2
  clear hb2
  go_enter Tryz.func72, Tryz.ntmps72
  go_wp2_with fail
  refine (iSky_is _ H0.out).mono ?_; rintro E w1000 ⟨rfl, rfl⟩
  cases b0
  · go_wp2; go_ret; exact ⟨ret_bool (by rw [← HR.out]; simp [H0.out]), bel1 _ _⟩
  go_wp2_with fail
  refine (iIn7_is _ H1.out).mono ?_; rintro E w1001 ⟨rfl, rfl⟩
  cases b1
  · go_wp2; go_ret; exact ⟨ret_bool (by rw [← HR.out]; simp [H0.out, H1.out]), bel1 _ _⟩
  go_wp2_with fail
  refine (iMv10_is _ H2.out).mono ?_; rintro E w1002 ⟨rfl, rfl⟩
  cases b2
  · go_wp2; go_ret; exact ⟨ret_bool (by rw [← HR.out]; simp [H0.out, H1.out, H2.out]), bel1 _ _⟩
  go_wp2_with fail
  by_cases hm : mi.tmod 15 = 0
  rotate_left
  · have HM := Lib.hid hm; go_wp2; go_ret; exact ⟨ret_bool (by rw [← HR.out]; simp [H0.out, H1.out, H2.out, HM.out]), bel1 _ _⟩
  skip
  go_wp2
  go_ret
  exact ⟨ret_bool (by rw [← HR.out]; simp [H0.out, H1.out, H2.out, hm]), bel1 _ _⟩
set_option maxRecDepth 100000 in
set_option maxHeartbeats 4000000 in
theorem iSV10_is {fe fn fu ho ha ne : Int} {r : Bool} (w : World) (hr : svB fe fn fu ho ha ne = r) : Calls Tryz.prog 73 #[.agg #[.int .i64 fe, .int .i64 fn, .int .i64 fu, .int .i64 ho, .int .i64 ha, .int .i64 ne]] w fun E w' => E = .returned (.bool r) ∧ Below w.heap.size w w' := by
  have HR := Lib.hid hr
  clear hr
  obtain ⟨b0, hb0⟩ : ∃ b, fcB fe fn fu = b := ⟨_, rfl⟩
  have H0 := Lib.hid hb0
  clear hb0
  obtain ⟨b1, hb1⟩ : ∃ b, inV ho 0 200 = b := ⟨_, rfl⟩
  have H1 := Lib.hid hb1
  clear hb1
  obtain ⟨b2, hb2⟩ : ∃ b, inV ha 0 ho = b := ⟨_, rfl⟩
  have H2 := Lib.hid hb2
  clear hb2
  obtain ⟨b3, hb3⟩ : ∃ b, inV ne 0 20 = b := ⟨_, rfl⟩
  have H3 := Lib.hid hb3
  clear hb3
  go_enter Tryz.func73, Tryz.ntmps73
  go_wp2_with fail
  refine (iFC_is _ H0.out).mono ?_; rintro E w1 ⟨rfl, hw1⟩
  obtain ⟨hP1, hB1⟩ := ownb hw1
  obtain ⟨cP1_0, cP1_1, cP1_2, cP1_3, cP1_4, cP1_5, fP1_0, fP1_1, fP1_2, fP1_3, fP1_4, fP1_5, zP1⟩ := blk6 hP1
  cases b0
  · go_wp2; go_ret; exact ⟨ret_bool (by rw [← HR.out]; simp [svB, H0.out]), hB1⟩
  go_wp2_with fail
  refine (iIn7_is _ H1.out).mono ?_; rintro E w1001 ⟨rfl, rfl⟩
  cases b1
  · go_wp2; go_ret; exact ⟨ret_bool (by rw [← HR.out]; simp [svB, H0.out, H1.out]), hB1⟩
  go_wp2_with fail
  refine (iIn7_is _ H2.out).mono ?_; rintro E w1002 ⟨rfl, rfl⟩
  cases b2
  · go_wp2; go_ret; exact ⟨ret_bool (by rw [← HR.out]; simp [svB, H0.out, H1.out, H2.out]), hB1⟩
  go_wp2_with fail
  refine (iIn7_is _ H3.out).mono ?_; rintro E w1003 ⟨rfl, rfl⟩
  cases b3
  · go_wp2; go_ret; exact ⟨ret_bool (by rw [← HR.out]; simp [svB, H0.out, H1.out, H2.out, H3.out]), hB1⟩
  go_wp2
  go_ret
  exact ⟨ret_bool (by rw [← HR.out]; simp [svB, H0.out, H1.out, H2.out, H3.out]), hB1⟩
set_option maxRecDepth 100000 in
set_option maxHeartbeats 4000000 in
theorem sSV10_is (la dy mi e1 n1 fe fn fu ho ha ne lo hi st : Int) (up : Bool) (A : Option Addr) (cap : Nat) (xs : List VBlock) {r : Bool} {n : Nat} (w : World) (hn : xs.length = n) (h : SRow encBlock w A xs) (hl : n ≤ 2000000) (hr : siB la dy mi e1 n1 fe fn fu ho ha ne lo hi st xs = r) : Calls Tryz.prog 24 #[.agg #[.int .i64 la, .int .i64 dy, .int .i64 mi, .slice A n cap, .int .i64 e1, .int .i64 n1, .int .i64 fe, .int .i64 fn, .int .i64 fu, .int .i64 ho, .int .i64 ha, .int .i64 ne, .int .i64 lo, .int .i64 hi, .bool up, .int .i64 st]] w fun E w' => E = .returned (.bool r) ∧ Below w.heap.size w w' := by
  have HN := Lib.hid hn
  clear hn
  have HR := Lib.hid hr
  clear hr
  obtain ⟨b0, hb0⟩ : ∃ b, inV la (-90) 90 = b := ⟨_, rfl⟩
  have H0 := Lib.hid hb0
  clear hb0
  obtain ⟨b1, hb1⟩ : ∃ b, inV dy 1 365 = b := ⟨_, rfl⟩
  have H1 := Lib.hid hb1
  clear hb1
  obtain ⟨b2, hb2⟩ : ∃ b, inV mi 0 1425 = b := ⟨_, rfl⟩
  have H2 := Lib.hid hb2
  clear hb2
  obtain ⟨b3, hb3⟩ : ∃ b, bsB xs = b := ⟨_, rfl⟩
  have H3 := Lib.hid hb3
  clear hb3
  obtain ⟨b4, hb4⟩ : ∃ b, plB e1 n1 = b := ⟨_, rfl⟩
  have H4 := Lib.hid hb4
  clear hb4
  obtain ⟨b5, hb5⟩ : ∃ b, fcB fe fn fu = b := ⟨_, rfl⟩
  have H5 := Lib.hid hb5
  clear hb5
  obtain ⟨b6, hb6⟩ : ∃ b, inV ho 0 200 = b := ⟨_, rfl⟩
  have H6 := Lib.hid hb6
  clear hb6
  obtain ⟨b7, hb7⟩ : ∃ b, inV ha 0 ho = b := ⟨_, rfl⟩
  have H7 := Lib.hid hb7
  clear hb7
  obtain ⟨b8, hb8⟩ : ∃ b, inV ne 0 20 = b := ⟨_, rfl⟩
  have H8 := Lib.hid hb8
  clear hb8
  obtain ⟨b9, hb9⟩ : ∃ b, bdB lo hi = b := ⟨_, rfl⟩
  have H9 := Lib.hid hb9
  clear hb9
  obtain ⟨b10, hb10⟩ : ∃ b, inV st 0 20 = b := ⟨_, rfl⟩
  have H10 := Lib.hid hb10
  clear hb10
  go_enter Tryz.func24, Tryz.ntmps24
  go_wp2_with fail
  refine (sIn7_is _ H0.out).mono ?_; rintro E w1000 ⟨rfl, rfl⟩
  cases b0
  · go_wp2; go_ret; exact ⟨ret_bool (by rw [← HR.out]; simp [siB, tvB, svB, H0.out]), bel1 _ _⟩
  go_wp2_with fail
  refine (sIn7_is _ H1.out).mono ?_; rintro E w1001 ⟨rfl, rfl⟩
  cases b1
  · go_wp2; go_ret; exact ⟨ret_bool (by rw [← HR.out]; simp [siB, tvB, svB, H1.out]), bel1 _ _⟩
  go_wp2_with fail
  refine (sIn7_is _ H2.out).mono ?_; rintro E w1002 ⟨rfl, rfl⟩
  cases b2
  · go_wp2; go_ret; exact ⟨ret_bool (by rw [← HR.out]; simp [siB, tvB, svB, H2.out]), bel1 _ _⟩
  by_cases hm : mi.tmod 15 = 0
  rotate_left
  · have HM := Lib.hid hm; go_wp2; go_ret; exact ⟨ret_bool (by rw [← HR.out]; simp [siB, tvB, svB, HM.out]), bel1 _ _⟩
  go_wp2_with fail
  refine (sBs_is A cap xs _ HN.out (h.next (bel1 w _)) hl H3.out).mono ?_; rintro E w1 ⟨rfl, hw1⟩
  obtain ⟨hP1, hB1⟩ := ownb hw1
  obtain ⟨cP1_0, cP1_1, cP1_2, cP1_3, cP1_4, cP1_5, cP1_6, cP1_7, cP1_8, cP1_9, cP1_10, cP1_11, cP1_12, cP1_13, cP1_14, cP1_15, fP1_0, fP1_1, fP1_2, fP1_3, fP1_4, fP1_5, fP1_6, fP1_7, fP1_8, fP1_9, fP1_10, fP1_11, fP1_12, fP1_13, fP1_14, fP1_15, zP1⟩ := blk16 hP1
  cases b3
  · go_wp2; go_ret; exact ⟨ret_bool (by rw [← HR.out]; simp [siB, tvB, svB, H3.out]), hB1⟩
  go_wp2_with fail
  refine (sPV_is _ H4.out).mono ?_; rintro E w2 ⟨rfl, hw2⟩
  have hP2 := blk_next hP1 hw2
  have hB2 := bel_next hB1 hw2
  clear cP1_0 fP1_0 cP1_1 fP1_1 cP1_2 fP1_2 cP1_3 fP1_3 cP1_4 fP1_4 cP1_5 fP1_5 cP1_6 fP1_6 cP1_7 fP1_7 cP1_8 fP1_8 cP1_9 fP1_9 cP1_10 fP1_10 cP1_11 fP1_11 cP1_12 fP1_12 cP1_13 fP1_13 cP1_14 fP1_14 cP1_15 fP1_15
  obtain ⟨cP2_0, cP2_1, cP2_2, cP2_3, cP2_4, cP2_5, cP2_6, cP2_7, cP2_8, cP2_9, cP2_10, cP2_11, cP2_12, cP2_13, cP2_14, cP2_15, fP2_0, fP2_1, fP2_2, fP2_3, fP2_4, fP2_5, fP2_6, fP2_7, fP2_8, fP2_9, fP2_10, fP2_11, fP2_12, fP2_13, fP2_14, fP2_15, zP2⟩ := blk16 hP2
  cases b4
  · go_wp2; go_ret; exact ⟨ret_bool (by rw [← HR.out]; simp [siB, tvB, svB, H4.out]), hB2⟩
  go_wp2_with fail
  refine (sFC_is _ H5.out).mono ?_; rintro E w3 ⟨rfl, hw3⟩
  have hP3 := blk_next hP2 hw3
  have hB3 := bel_next hB2 hw3
  clear cP2_0 fP2_0 cP2_1 fP2_1 cP2_2 fP2_2 cP2_3 fP2_3 cP2_4 fP2_4 cP2_5 fP2_5 cP2_6 fP2_6 cP2_7 fP2_7 cP2_8 fP2_8 cP2_9 fP2_9 cP2_10 fP2_10 cP2_11 fP2_11 cP2_12 fP2_12 cP2_13 fP2_13 cP2_14 fP2_14 cP2_15 fP2_15
  obtain ⟨cP3_0, cP3_1, cP3_2, cP3_3, cP3_4, cP3_5, cP3_6, cP3_7, cP3_8, cP3_9, cP3_10, cP3_11, cP3_12, cP3_13, cP3_14, cP3_15, fP3_0, fP3_1, fP3_2, fP3_3, fP3_4, fP3_5, fP3_6, fP3_7, fP3_8, fP3_9, fP3_10, fP3_11, fP3_12, fP3_13, fP3_14, fP3_15, zP3⟩ := blk16 hP3
  cases b5
  · go_wp2; go_ret; exact ⟨ret_bool (by rw [← HR.out]; simp [siB, tvB, svB, H5.out]), hB3⟩
  go_wp2_with fail
  refine (sIn7_is _ H6.out).mono ?_; rintro E w1007 ⟨rfl, rfl⟩
  cases b6
  · go_wp2; go_ret; exact ⟨ret_bool (by rw [← HR.out]; simp [siB, tvB, svB, H6.out]), hB3⟩
  go_wp2_with fail
  refine (sIn7_is _ H7.out).mono ?_; rintro E w1008 ⟨rfl, rfl⟩
  cases b7
  · go_wp2; go_ret; exact ⟨ret_bool (by rw [← HR.out]; simp [siB, tvB, svB, H7.out]), hB3⟩
  go_wp2_with fail
  refine (sIn7_is _ H8.out).mono ?_; rintro E w1009 ⟨rfl, rfl⟩
  cases b8
  · go_wp2; go_ret; exact ⟨ret_bool (by rw [← HR.out]; simp [siB, tvB, svB, H8.out]), hB3⟩
  go_wp2_with fail
  refine (sBd_is _ H9.out).mono ?_; rintro E w4 ⟨rfl, hw4⟩
  have hP4 := blk_next hP3 hw4
  have hB4 := bel_next hB3 hw4
  clear cP3_0 fP3_0 cP3_1 fP3_1 cP3_2 fP3_2 cP3_3 fP3_3 cP3_4 fP3_4 cP3_5 fP3_5 cP3_6 fP3_6 cP3_7 fP3_7 cP3_8 fP3_8 cP3_9 fP3_9 cP3_10 fP3_10 cP3_11 fP3_11 cP3_12 fP3_12 cP3_13 fP3_13 cP3_14 fP3_14 cP3_15 fP3_15
  obtain ⟨cP4_0, cP4_1, cP4_2, cP4_3, cP4_4, cP4_5, cP4_6, cP4_7, cP4_8, cP4_9, cP4_10, cP4_11, cP4_12, cP4_13, cP4_14, cP4_15, fP4_0, fP4_1, fP4_2, fP4_3, fP4_4, fP4_5, fP4_6, fP4_7, fP4_8, fP4_9, fP4_10, fP4_11, fP4_12, fP4_13, fP4_14, fP4_15, zP4⟩ := blk16 hP4
  cases b9
  · go_wp2; go_ret; exact ⟨ret_bool (by rw [← HR.out]; simp [siB, tvB, svB, H9.out]), hB4⟩
  go_wp2_with fail
  refine (sBl_is _ H10.out).mono ?_; rintro E w5 ⟨rfl, hw5⟩
  have hP5 := blk_next hP4 hw5
  have hB5 := bel_next hB4 hw5
  clear cP4_0 fP4_0 cP4_1 fP4_1 cP4_2 fP4_2 cP4_3 fP4_3 cP4_4 fP4_4 cP4_5 fP4_5 cP4_6 fP4_6 cP4_7 fP4_7 cP4_8 fP4_8 cP4_9 fP4_9 cP4_10 fP4_10 cP4_11 fP4_11 cP4_12 fP4_12 cP4_13 fP4_13 cP4_14 fP4_14 cP4_15 fP4_15
  obtain ⟨cP5_0, cP5_1, cP5_2, cP5_3, cP5_4, cP5_5, cP5_6, cP5_7, cP5_8, cP5_9, cP5_10, cP5_11, cP5_12, cP5_13, cP5_14, cP5_15, fP5_0, fP5_1, fP5_2, fP5_3, fP5_4, fP5_5, fP5_6, fP5_7, fP5_8, fP5_9, fP5_10, fP5_11, fP5_12, fP5_13, fP5_14, fP5_15, zP5⟩ := blk16 hP5
  cases b10
  · go_wp2; go_ret; exact ⟨ret_bool (by rw [← HR.out]; simp [siB, tvB, svB, H10.out]), hB5⟩
  go_wp2
  go_ret
  exact ⟨ret_bool (by rw [← HR.out]; simp [siB, tvB, svB, hm, H0.out, H1.out, H2.out, H3.out, H4.out, H5.out, H6.out, H7.out, H8.out, H9.out, H10.out]), hB5⟩
set_option maxRecDepth 100000 in
set_option maxHeartbeats 4000000 in
theorem iSV_is (la dy mi e1 n1 fe fn fu ho ha ne lo hi st : Int) (up : Bool) (A : Option Addr) (cap : Nat) (xs : List VBlock) {r : Bool} {n : Nat} (w : World) (hn : xs.length = n) (h : SRow encBlock w A xs) (hl : n ≤ 2000000) (hr : siB la dy mi e1 n1 fe fn fu ho ha ne lo hi st xs = r) : Calls Tryz.prog 27 #[.agg #[.int .i64 la, .int .i64 dy, .int .i64 mi, .slice A n cap, .int .i64 e1, .int .i64 n1, .int .i64 fe, .int .i64 fn, .int .i64 fu, .int .i64 ho, .int .i64 ha, .int .i64 ne, .int .i64 lo, .int .i64 hi, .bool up, .int .i64 st]] w fun E w' => E = .returned (.bool r) ∧ Below w.heap.size w w' := by
  have HN := Lib.hid hn
  clear hn
  have HR := Lib.hid hr
  clear hr
  obtain ⟨b0, hb0⟩ : ∃ b, tvB la dy mi = b := ⟨_, rfl⟩
  have H0 := Lib.hid hb0
  clear hb0
  obtain ⟨b1, hb1⟩ : ∃ b, svB fe fn fu ho ha ne = b := ⟨_, rfl⟩
  have H1 := Lib.hid hb1
  clear hb1
  obtain ⟨b2, hb2⟩ : ∃ b, bsB xs = b := ⟨_, rfl⟩
  have H2 := Lib.hid hb2
  clear hb2
  obtain ⟨b3, hb3⟩ : ∃ b, plB e1 n1 = b := ⟨_, rfl⟩
  have H3 := Lib.hid hb3
  clear hb3
  obtain ⟨b4, hb4⟩ : ∃ b, bdB lo hi = b := ⟨_, rfl⟩
  have H4 := Lib.hid hb4
  clear hb4
  obtain ⟨b5, hb5⟩ : ∃ b, inV st 0 20 = b := ⟨_, rfl⟩
  have H5 := Lib.hid hb5
  clear hb5
  go_enter Tryz.func27, Tryz.ntmps27
  go_wp2_with fail
  refine (partsOf_any la dy mi e1 n1 fe fn fu ho ha ne lo hi st up A n cap _).mono ?_; rintro E w1 ⟨rfl, hw1⟩
  obtain ⟨hP1, hB1⟩ := ownb hw1
  obtain ⟨cP1_0, cP1_1, cP1_2, cP1_3, cP1_4, cP1_5, cP1_6, cP1_7, cP1_8, cP1_9, cP1_10, cP1_11, cP1_12, cP1_13, cP1_14, cP1_15, fP1_0, fP1_1, fP1_2, fP1_3, fP1_4, fP1_5, fP1_6, fP1_7, fP1_8, fP1_9, fP1_10, fP1_11, fP1_12, fP1_13, fP1_14, fP1_15, zP1⟩ := blk16 hP1
  have hzP : w.heap.size < w1.heap.size := blk_lt hP1
  obtain ⟨zQ, hzQ⟩ : ∃ z, w1.heap.size = z := ⟨_, rfl⟩
  have hQ1 := blk_new w1 (.cells #[.int .i64 la, .int .i64 dy, .int .i64 mi, .int .i64 fe, .int .i64 fn, .int .i64 fu, .int .i64 ho, .int .i64 ha, .int .i64 ne, .slice A n cap, .int .i64 e1, .int .i64 n1, .int .i64 lo, .int .i64 hi, .bool up, .int .i64 st] 77 (0, 0))
  have hP2 := blk_old hP1 (.cells #[.int .i64 la, .int .i64 dy, .int .i64 mi, .int .i64 fe, .int .i64 fn, .int .i64 fu, .int .i64 ho, .int .i64 ha, .int .i64 ne, .slice A n cap, .int .i64 e1, .int .i64 n1, .int .i64 lo, .int .i64 hi, .bool up, .int .i64 st] 77 (0, 0))
  have hB2 := hB1.alloc (by omega) (.cells #[.int .i64 la, .int .i64 dy, .int .i64 mi, .int .i64 fe, .int .i64 fn, .int .i64 fu, .int .i64 ho, .int .i64 ha, .int .i64 ne, .slice A n cap, .int .i64 e1, .int .i64 n1, .int .i64 lo, .int .i64 hi, .bool up, .int .i64 st] 77 (0, 0))
  rw [hzQ] at hQ1
  have HZQ := Lib.hid hzQ
  go_wp2_with fail
  refine (iTV_is _ H0.out).mono ?_; rintro E w3 ⟨rfl, hw3⟩
  have hP3 := blk_next hP2 hw3
  have hQ3 := blk_next hQ1 hw3
  have hB3 := bel_next hB2 hw3
  obtain ⟨cP3_0, cP3_1, cP3_2, cP3_3, cP3_4, cP3_5, cP3_6, cP3_7, cP3_8, cP3_9, cP3_10, cP3_11, cP3_12, cP3_13, cP3_14, cP3_15, fP3_0, fP3_1, fP3_2, fP3_3, fP3_4, fP3_5, fP3_6, fP3_7, fP3_8, fP3_9, fP3_10, fP3_11, fP3_12, fP3_13, fP3_14, fP3_15, zP3⟩ := blk16 hP3
  obtain ⟨cQ3_0, cQ3_1, cQ3_2, cQ3_3, cQ3_4, cQ3_5, cQ3_6, cQ3_7, cQ3_8, cQ3_9, cQ3_10, cQ3_11, cQ3_12, cQ3_13, cQ3_14, cQ3_15, fQ3_0, fQ3_1, fQ3_2, fQ3_3, fQ3_4, fQ3_5, fQ3_6, fQ3_7, fQ3_8, fQ3_9, fQ3_10, fQ3_11, fQ3_12, fQ3_13, fQ3_14, fQ3_15, zQ3⟩ := blk16 hQ3
  cases b0
  · go_wp2; go_ret; exact ⟨ret_bool (by rw [← HR.out]; exact (siB_false (by simp [H0.out])).symm), hB3⟩
  go_wp2_with fail
  refine (iSV10_is _ H1.out).mono ?_; rintro E w4 ⟨rfl, hw4⟩
  have hP4 := blk_next hP3 hw4
  have hQ4 := blk_next hQ3 hw4
  have hB4 := bel_next hB3 hw4
  obtain ⟨cP4_0, cP4_1, cP4_2, cP4_3, cP4_4, cP4_5, cP4_6, cP4_7, cP4_8, cP4_9, cP4_10, cP4_11, cP4_12, cP4_13, cP4_14, cP4_15, fP4_0, fP4_1, fP4_2, fP4_3, fP4_4, fP4_5, fP4_6, fP4_7, fP4_8, fP4_9, fP4_10, fP4_11, fP4_12, fP4_13, fP4_14, fP4_15, zP4⟩ := blk16 hP4
  obtain ⟨cQ4_0, cQ4_1, cQ4_2, cQ4_3, cQ4_4, cQ4_5, cQ4_6, cQ4_7, cQ4_8, cQ4_9, cQ4_10, cQ4_11, cQ4_12, cQ4_13, cQ4_14, cQ4_15, fQ4_0, fQ4_1, fQ4_2, fQ4_3, fQ4_4, fQ4_5, fQ4_6, fQ4_7, fQ4_8, fQ4_9, fQ4_10, fQ4_11, fQ4_12, fQ4_13, fQ4_14, fQ4_15, zQ4⟩ := blk16 hQ4
  cases b1
  · go_wp2; go_ret; exact ⟨ret_bool (by rw [← HR.out]; exact (siB_false (by simp [H1.out])).symm), hB4⟩
  go_wp2_with fail
  refine (iBs_is A cap xs _ HN.out (h.next hB4) hl H2.out).mono ?_; rintro E w5 ⟨rfl, hw5⟩
  have hP5 := blk_next hP4 hw5
  have hQ5 := blk_next hQ4 hw5
  have hB5 := bel_next hB4 hw5
  obtain ⟨cP5_0, cP5_1, cP5_2, cP5_3, cP5_4, cP5_5, cP5_6, cP5_7, cP5_8, cP5_9, cP5_10, cP5_11, cP5_12, cP5_13, cP5_14, cP5_15, fP5_0, fP5_1, fP5_2, fP5_3, fP5_4, fP5_5, fP5_6, fP5_7, fP5_8, fP5_9, fP5_10, fP5_11, fP5_12, fP5_13, fP5_14, fP5_15, zP5⟩ := blk16 hP5
  obtain ⟨cQ5_0, cQ5_1, cQ5_2, cQ5_3, cQ5_4, cQ5_5, cQ5_6, cQ5_7, cQ5_8, cQ5_9, cQ5_10, cQ5_11, cQ5_12, cQ5_13, cQ5_14, cQ5_15, fQ5_0, fQ5_1, fQ5_2, fQ5_3, fQ5_4, fQ5_5, fQ5_6, fQ5_7, fQ5_8, fQ5_9, fQ5_10, fQ5_11, fQ5_12, fQ5_13, fQ5_14, fQ5_15, zQ5⟩ := blk16 hQ5
  cases b2
  · go_wp2; go_ret; exact ⟨ret_bool (by rw [← HR.out]; exact (siB_false (by simp [H2.out])).symm), hB5⟩
  go_wp2_with fail
  refine (iPV_is _ H3.out).mono ?_; rintro E w6 ⟨rfl, hw6⟩
  have hP6 := blk_next hP5 hw6
  have hQ6 := blk_next hQ5 hw6
  have hB6 := bel_next hB5 hw6
  obtain ⟨cP6_0, cP6_1, cP6_2, cP6_3, cP6_4, cP6_5, cP6_6, cP6_7, cP6_8, cP6_9, cP6_10, cP6_11, cP6_12, cP6_13, cP6_14, cP6_15, fP6_0, fP6_1, fP6_2, fP6_3, fP6_4, fP6_5, fP6_6, fP6_7, fP6_8, fP6_9, fP6_10, fP6_11, fP6_12, fP6_13, fP6_14, fP6_15, zP6⟩ := blk16 hP6
  obtain ⟨cQ6_0, cQ6_1, cQ6_2, cQ6_3, cQ6_4, cQ6_5, cQ6_6, cQ6_7, cQ6_8, cQ6_9, cQ6_10, cQ6_11, cQ6_12, cQ6_13, cQ6_14, cQ6_15, fQ6_0, fQ6_1, fQ6_2, fQ6_3, fQ6_4, fQ6_5, fQ6_6, fQ6_7, fQ6_8, fQ6_9, fQ6_10, fQ6_11, fQ6_12, fQ6_13, fQ6_14, fQ6_15, zQ6⟩ := blk16 hQ6
  cases b3
  · go_wp2; go_ret; exact ⟨ret_bool (by rw [← HR.out]; exact (siB_false (by simp [H3.out])).symm), hB6⟩
  go_wp2_with fail
  refine (iBd_is _ H4.out).mono ?_; rintro E w7 ⟨rfl, hw7⟩
  have hP7 := blk_next hP6 hw7
  have hQ7 := blk_next hQ6 hw7
  have hB7 := bel_next hB6 hw7
  obtain ⟨cP7_0, cP7_1, cP7_2, cP7_3, cP7_4, cP7_5, cP7_6, cP7_7, cP7_8, cP7_9, cP7_10, cP7_11, cP7_12, cP7_13, cP7_14, cP7_15, fP7_0, fP7_1, fP7_2, fP7_3, fP7_4, fP7_5, fP7_6, fP7_7, fP7_8, fP7_9, fP7_10, fP7_11, fP7_12, fP7_13, fP7_14, fP7_15, zP7⟩ := blk16 hP7
  obtain ⟨cQ7_0, cQ7_1, cQ7_2, cQ7_3, cQ7_4, cQ7_5, cQ7_6, cQ7_7, cQ7_8, cQ7_9, cQ7_10, cQ7_11, cQ7_12, cQ7_13, cQ7_14, cQ7_15, fQ7_0, fQ7_1, fQ7_2, fQ7_3, fQ7_4, fQ7_5, fQ7_6, fQ7_7, fQ7_8, fQ7_9, fQ7_10, fQ7_11, fQ7_12, fQ7_13, fQ7_14, fQ7_15, zQ7⟩ := blk16 hQ7
  cases b4
  · go_wp2; go_ret; exact ⟨ret_bool (by rw [← HR.out]; exact (siB_false (by simp [H4.out])).symm), hB7⟩
  go_wp2_with fail
  refine (iBl_is _ H5.out).mono ?_; rintro E w8 ⟨rfl, hw8⟩
  have hP8 := blk_next hP7 hw8
  have hQ8 := blk_next hQ7 hw8
  have hB8 := bel_next hB7 hw8
  obtain ⟨cP8_0, cP8_1, cP8_2, cP8_3, cP8_4, cP8_5, cP8_6, cP8_7, cP8_8, cP8_9, cP8_10, cP8_11, cP8_12, cP8_13, cP8_14, cP8_15, fP8_0, fP8_1, fP8_2, fP8_3, fP8_4, fP8_5, fP8_6, fP8_7, fP8_8, fP8_9, fP8_10, fP8_11, fP8_12, fP8_13, fP8_14, fP8_15, zP8⟩ := blk16 hP8
  obtain ⟨cQ8_0, cQ8_1, cQ8_2, cQ8_3, cQ8_4, cQ8_5, cQ8_6, cQ8_7, cQ8_8, cQ8_9, cQ8_10, cQ8_11, cQ8_12, cQ8_13, cQ8_14, cQ8_15, fQ8_0, fQ8_1, fQ8_2, fQ8_3, fQ8_4, fQ8_5, fQ8_6, fQ8_7, fQ8_8, fQ8_9, fQ8_10, fQ8_11, fQ8_12, fQ8_13, fQ8_14, fQ8_15, zQ8⟩ := blk16 hQ8
  cases b5
  · go_wp2; go_ret; exact ⟨ret_bool (by rw [← HR.out]; exact (siB_false (by simp [H5.out])).symm), hB8⟩
  go_wp2
  go_ret
  exact ⟨ret_bool (by rw [← HR.out]; simp [siB, H0.out, H1.out, H2.out, H3.out, H4.out, H5.out]), hB8⟩
end Go.Proofs.YtbklgpghonigjaaGreat
