/- QK: texts joined. -/
import Derived.Test.YtbklgpghonigjaaGreatMQJ
import Derived.Test.YtbklgpghonigjaaGreatMQG
import Derived.Test.YtbklgpghonigjaaGreatMQE
import Derived.Test.YtbklgpghonigjaaGreatMQH
import Derived.Test.YtbklgpghonigjaaGreatMQF
namespace Go.Proofs.YtbklgpghonigjaaGreat
set_option linter.unusedVariables false
set_option linter.unusedSimpArgs false
/-- The minute, and the day, a quarter of an hour later. -/
def tkM (mi : Int) : Int := (mi + 15).tmod 1440
def tkD (dy mi : Int) : Int := if tkM mi = 0 then dy.tmod 365 + 1 else dy
theorem tkM_end {mi : Int} (h : mi + 15 = 1440) : tkM mi = 0 := by unfold tkM; rw [h]; decide
theorem tkM_mid {mi : Int} (h0 : 0 ≤ mi) (h1 : mi ≤ 1425) (h : ¬ mi + 15 = 1440) : tkM mi = mi + 15 ∧ ¬ tkM mi = 0 := by
  have e : tkM mi = mi + 15 := by unfold tkM; rw [Int.tmod_eq_emod_of_nonneg (by omega)]; omega
  rw [e]; omega
theorem tkD_end {dy mi : Int} (h : mi + 15 = 1440) : tkD dy mi = dy.tmod 365 + 1 := if_pos (tkM_end h)
theorem tkD_endE {dy mi : Int} (h : mi + 15 = 1440) (h0 : 1 ≤ dy) : tkD dy mi = dy % 365 + 1 := by rw [tkD_end h, Int.tmod_eq_emod_of_nonneg (by omega)]
theorem tkD_mid {dy mi : Int} (h0 : 0 ≤ mi) (h1 : mi ≤ 1425) (h : ¬ mi + 15 = 1440) : tkD dy mi = dy := if_neg (tkM_mid h0 h1 h).2
theorem tkM_bd {mi : Int} (h0 : 0 ≤ mi) (h1 : mi ≤ 1425) (h2 : mi.tmod 15 = 0) : 0 ≤ tkM mi ∧ tkM mi ≤ 1425 ∧ (tkM mi).tmod 15 = 0 := by
  rw [Int.tmod_eq_emod_of_nonneg h0] at h2
  by_cases h : mi + 15 = 1440
  · rw [tkM_end h]; decide
  · rw [(tkM_mid h0 h1 h).1, Int.tmod_eq_emod_of_nonneg (by omega)]; omega
theorem tkD_bd {dy mi : Int} (h0 : 1 ≤ dy) (h1 : dy ≤ 365) : 1 ≤ tkD dy mi ∧ tkD dy mi ≤ 365 := by
  unfold tkD
  split
  · rw [Int.tmod_eq_emod_of_nonneg (by omega)]; omega
  · omega
/-- What the panel gains, and the light, at a time. -/
def gxI (la e1 n1 fe fn fu : Int) (xs : List VBlock) (dy mi : Int) : Int := if liB e1 n1 xs (ryE la dy mi) (ryN la dy mi) (ryU la dy mi) = true then goI (fgI fe fn fu (ryE la dy mi) (ryN la dy mi) (ryU la dy mi)) else 0
def lxI (la e1 n1 : Int) (xs : List VBlock) (dy mi : Int) : Int := if liB e1 n1 xs (ryE la dy mi) (ryN la dy mi) (ryU la dy mi) = true then 5 * ryU la dy mi else ryU la dy mi
theorem goI_bd {fe fn fu x y z : Int} : 0 ≤ goI (fgI fe fn fu x y z) ∧ goI (fgI fe fn fu x y z) ≤ 20 := by
  have := go_td (fe := fe) (fn := fn) (fu := fu) (x := x) (y := y) (z := z) rfl
  unfold goI; omega
theorem gxI_bd (la e1 n1 fe fn fu : Int) (xs : List VBlock) (dy mi : Int) : 0 ≤ gxI la e1 n1 fe fn fu xs dy mi ∧ gxI la e1 n1 fe fn fu xs dy mi ≤ 20 := by
  unfold gxI
  split
  · exact goI_bd
  · omega
/-- What changes with time: the day, the minute, what the store has, the blind. -/
abbrev TkS := Int × Int × Int × Bool × Int
def tk1 (la e1 n1 fe fn fu ho ne lo hi : Int) (xs : List VBlock) (s : TkS) : TkS :=
  let d := tkD s.1 s.2.1
  let m := tkM s.2.1
  (d, m, stS ho s.2.2.1 (gxI la e1 n1 fe fn fu xs d m, ne), psS s.2.2.2.1 s.2.2.2.2 lo hi 2 (lxI la e1 n1 xs d m), psT s.2.2.2.1 s.2.2.2.2 lo hi 2 (lxI la e1 n1 xs d m))
def tkN (la e1 n1 fe fn fu ho ne lo hi : Int) (xs : List VBlock) : Nat → TkS → TkS
  | 0, s => s
  | k + 1, s => tk1 la e1 n1 fe fn fu ho ne lo hi xs (tkN la e1 n1 fe fn fu ho ne lo hi xs k s)
/-- A valid site stays one. -/
theorem stS_bd10 {ho ha : Int} {h : Int × Int} (h0 : 0 ≤ ho) : 0 ≤ stS ho ha h ∧ stS ho ha h ≤ ho := by unfold stS; omega
theorem siB_iff {la dy mi e1 n1 fe fn fu ho ha ne lo hi st : Int} {xs : List VBlock} : siB la dy mi e1 n1 fe fn fu ho ha ne lo hi st xs = true ↔ (-90 ≤ la ∧ la ≤ 90) ∧ (1 ≤ dy ∧ dy ≤ 365) ∧ (0 ≤ mi ∧ mi ≤ 1425) ∧ mi.tmod 15 = 0 ∧ bsB xs = true ∧ plB e1 n1 = true ∧ fcB fe fn fu = true ∧ (0 ≤ ho ∧ ho ≤ 200) ∧ (0 ≤ ha ∧ ha ≤ ho) ∧ (0 ≤ ne ∧ ne ≤ 20) ∧ bdB lo hi = true ∧ (0 ≤ st ∧ st ≤ 20) := by
  unfold siB tvB svB inV
  simp only [Bool.and_eq_true, decide_eq_true_eq, and_assoc]
theorem siB_tick {la dy mi e1 n1 fe fn fu ho ha ne lo hi st : Int} {up : Bool} {xs : List VBlock} (h : siB la dy mi e1 n1 fe fn fu ho ha ne lo hi st xs = true) {s : TkS} (hs : tk1 la e1 n1 fe fn fu ho ne lo hi xs (dy, mi, ha, up, st) = s) :
    siB la s.1 s.2.1 e1 n1 fe fn fu ho s.2.2.1 ne lo hi s.2.2.2.2 xs = true := by
  rw [siB_iff] at h ⊢
  obtain ⟨h1, h2, h3, h4, h5, h6, h7, h8, h9, h10, h11, h12⟩ := h
  obtain ⟨m0, m1, m2⟩ := tkM_bd h3.1 h3.2 h4
  subst hs
  exact ⟨h1, tkD_bd h2.1 h2.2, ⟨m0, m1⟩, m2, h5, h6, h7, h8, stS_bd10 h8.1, h10, h11, psT_bd h12.1⟩
/-- Whether a site's numbers that change are valid. -/
def tkV (la e1 n1 fe fn fu ho ne lo hi : Int) (xs : List VBlock) (s : TkS) : Prop := siB la s.1 s.2.1 e1 n1 fe fn fu ho s.2.2.1 ne lo hi s.2.2.2.2 xs = true
theorem tkV_one {la e1 n1 fe fn fu ho ne lo hi : Int} {xs : List VBlock} {s : TkS} (h : tkV la e1 n1 fe fn fu ho ne lo hi xs s) : tkV la e1 n1 fe fn fu ho ne lo hi xs (tk1 la e1 n1 fe fn fu ho ne lo hi xs s) := by
  obtain ⟨d, m, a, u, t⟩ := s
  exact siB_tick (up := u) h rfl
theorem tkV_all {la e1 n1 fe fn fu ho ne lo hi : Int} {xs : List VBlock} {s : TkS} (h : tkV la e1 n1 fe fn fu ho ne lo hi xs s) : ∀ k, tkV la e1 n1 fe fn fu ho ne lo hi xs (tkN la e1 n1 fe fn fu ho ne lo hi xs k s)
  | 0 => h
  | k + 1 => tkV_one (tkV_all h k)
end Go.Proofs.YtbklgpghonigjaaGreat
namespace Go.Proofs.YtbklgpghonigjaaGreat
open Go Go.ChangeShapes Go.WideShapes Go.ChangeAt Go.RowKit
set_option linter.unusedSimpArgs false
set_option linter.unusedVariables false
/-- From w to w' only block b is written into: whatever stands new blocks, calls that keep what is there, and stores into b. -/
def Keeps (w : World) (b : Nat) (w' : World) : Prop := ∀ R : World → Prop, (∀ u, R u → R u.drew) → (∀ u o, R u → R (u.alloc o)) → (∀ u v, Below u.heap.size u v → R u → R v) → (∀ u i x, R u → R (u.setCell ⟨b, i, none⟩ x)) → R w → R w'
theorem Keeps.refl (w : World) (b : Nat) : Keeps w b w := fun _ _ _ _ _ h => h
theorem Keeps.drew {w w' : World} {b : Nat} (h : Keeps w b w') : Keeps w b w'.drew := fun R h1 h2 h3 h4 h5 => h1 _ (h R h1 h2 h3 h4 h5)
theorem Keeps.alloc {w w' : World} {b : Nat} (h : Keeps w b w') (o : Obj) : Keeps w b (w'.alloc o) := fun R h1 h2 h3 h4 h5 => h2 _ o (h R h1 h2 h3 h4 h5)
theorem Keeps.call {w w' w2 : World} {b : Nat} (h : Keeps w b w') (hw : Below w'.heap.size w' w2) : Keeps w b w2 := fun R h1 h2 h3 h4 h5 => h3 _ _ hw (h R h1 h2 h3 h4 h5)
theorem Keeps.cell {w w' : World} {b : Nat} (h : Keeps w b w') (i : Nat) (v : Value) : Keeps w b (w'.setCell ⟨b, i, none⟩ v) := fun R h1 h2 h3 h4 h5 => h4 _ i v (h R h1 h2 h3 h4 h5)
theorem Keeps.trans {w w1 w2 : World} {b : Nat} (h : Keeps w b w1) (h2 : Keeps w1 b w2) : Keeps w b w2 := fun R k1 k2 k3 k4 k5 => h2 R k1 k2 k3 k4 (h R k1 k2 k3 k4 k5)
theorem Keeps.below {w w' : World} {b : Nat} (h : Keeps w b w') {w0 : World} (h0 : w0.heap.size ≤ b) (hB : Below w0.heap.size w0 w) : Below w0.heap.size w0 w' :=
  h (fun u => Below w0.heap.size w0 u) (fun u k => k.drew) (fun u o k => k.alloc k.size o) (fun u v hv k => bel_next k hv) (fun u i x k => k.setCell (p := ⟨b, i, none⟩) h0 x) hB
/-- A call that writes into block b alone, and leaves it as o. -/
def InBox (w : World) (b : Nat) (o : Obj) (E : Ending) (w' : World) : Prop :=
  E = .returned (.tuple #[]) ∧ w'.heap[b]? = some o ∧ Keeps w b w'
set_option maxRecDepth 100000 in
set_option maxHeartbeats 4000000 in
theorem iPass_mid (la dy mi e1 n1 fe fn fu ho ha ne lo hi st : Int) (up : Bool) (A : Option Addr) (n cap b : Nat) (w : World) (hP : w.heap[b]? = some (.cells #[.int .i64 la, .int .i64 dy, .int .i64 mi, .int .i64 fe, .int .i64 fn, .int .i64 fu, .int .i64 ho, .int .i64 ha, .int .i64 ne, .slice A n cap, .int .i64 e1, .int .i64 n1, .int .i64 lo, .int .i64 hi, .bool up, .int .i64 st] 77 (0, 0))) (h0 : 0 ≤ mi) (h1 : mi ≤ 1425) (hm : ¬ mi + 15 = 1440) :
    Calls Tryz.prog 124 #[.pointer (some ⟨b, 0, none⟩)] w (InBox w b (.cells #[.int .i64 la, .int .i64 dy, .int .i64 (mi + 15), .int .i64 fe, .int .i64 fn, .int .i64 fu, .int .i64 ho, .int .i64 ha, .int .i64 ne, .slice A n cap, .int .i64 e1, .int .i64 n1, .int .i64 lo, .int .i64 hi, .bool up, .int .i64 st] 77 (0, 0))) := by
  go_enter Tryz.func124, Tryz.ntmps124
  obtain ⟨cP0, cP1, cP2, cP3, cP4, cP5, cP6, cP7, cP8, cP9, cP10, cP11, cP12, cP13, cP14, cP15, fP0, fP1, fP2, fP3, fP4, fP5, fP6, fP7, fP8, fP9, fP10, fP11, fP12, fP13, fP14, fP15, zP⟩ := blk16 hP
  have hQ := blk16_at2 (v := .int .i64 (mi + 15)) hP
  obtain ⟨cQ0, cQ1, cQ2, cQ3, cQ4, cQ5, cQ6, cQ7, cQ8, cQ9, cQ10, cQ11, cQ12, cQ13, cQ14, cQ15, fQ0, fQ1, fQ2, fQ3, fQ4, fQ5, fQ6, fQ7, fQ8, fQ9, fQ10, fQ11, fQ12, fQ13, fQ14, fQ15, zQ⟩ := blk16 hQ
  go_wp2
  go_end0
  exact ⟨rfl, hQ, (Keeps.refl w b).cell 2 _⟩
set_option maxRecDepth 100000 in
set_option maxHeartbeats 4000000 in
theorem iPass_end (la dy mi e1 n1 fe fn fu ho ha ne lo hi st : Int) (up : Bool) (A : Option Addr) (n cap b : Nat) (w : World) (hP : w.heap[b]? = some (.cells #[.int .i64 la, .int .i64 dy, .int .i64 mi, .int .i64 fe, .int .i64 fn, .int .i64 fu, .int .i64 ho, .int .i64 ha, .int .i64 ne, .slice A n cap, .int .i64 e1, .int .i64 n1, .int .i64 lo, .int .i64 hi, .bool up, .int .i64 st] 77 (0, 0))) (h0 : 0 ≤ mi) (h1 : mi ≤ 1425) (hm : mi + 15 = 1440) (d0 : 1 ≤ dy) (d1 : dy ≤ 365) :
    Calls Tryz.prog 124 #[.pointer (some ⟨b, 0, none⟩)] w (InBox w b (.cells #[.int .i64 la, .int .i64 (dy % 365 + 1), .int .i64 0, .int .i64 fe, .int .i64 fn, .int .i64 fu, .int .i64 ho, .int .i64 ha, .int .i64 ne, .slice A n cap, .int .i64 e1, .int .i64 n1, .int .i64 lo, .int .i64 hi, .bool up, .int .i64 st] 77 (0, 0))) := by
  go_enter Tryz.func124, Tryz.ntmps124
  obtain ⟨cP0, cP1, cP2, cP3, cP4, cP5, cP6, cP7, cP8, cP9, cP10, cP11, cP12, cP13, cP14, cP15, fP0, fP1, fP2, fP3, fP4, fP5, fP6, fP7, fP8, fP9, fP10, fP11, fP12, fP13, fP14, fP15, zP⟩ := blk16 hP
  have e9 : mi = 1425 := by omega
  subst e9
  have hdm : 0 ≤ dy % 365 ∧ dy % 365 ≤ 364 := by omega
  have hR := blk16_at2 (v := .int .i64 1440) hP
  obtain ⟨cR0, cR1, cR2, cR3, cR4, cR5, cR6, cR7, cR8, cR9, cR10, cR11, cR12, cR13, cR14, cR15, fR0, fR1, fR2, fR3, fR4, fR5, fR6, fR7, fR8, fR9, fR10, fR11, fR12, fR13, fR14, fR15, zR⟩ := blk16 hR
  have hS := blk16_at2 (v := .int .i64 0) hR
  obtain ⟨cS0, cS1, cS2, cS3, cS4, cS5, cS6, cS7, cS8, cS9, cS10, cS11, cS12, cS13, cS14, cS15, fS0, fS1, fS2, fS3, fS4, fS5, fS6, fS7, fS8, fS9, fS10, fS11, fS12, fS13, fS14, fS15, zS⟩ := blk16 hS
  have hQ := blk16_at1 (v := .int .i64 (dy % 365 + 1)) hS
  obtain ⟨cQ0, cQ1, cQ2, cQ3, cQ4, cQ5, cQ6, cQ7, cQ8, cQ9, cQ10, cQ11, cQ12, cQ13, cQ14, cQ15, fQ0, fQ1, fQ2, fQ3, fQ4, fQ5, fQ6, fQ7, fQ8, fQ9, fQ10, fQ11, fQ12, fQ13, fQ14, fQ15, zQ⟩ := blk16 hQ
  go_wp2
  go_end0
  exact ⟨rfl, hQ, (((Keeps.refl w b).cell 2 _).cell 2 _).cell 1 _⟩
end Go.Proofs.YtbklgpghonigjaaGreat
namespace Go.Proofs.YtbklgpghonigjaaGreat
open Go Go.ChangeShapes Go.WideShapes Go.ChangeAt Go.RowKit
set_option linter.unusedSimpArgs false
set_option linter.unusedVariables false
/-- The store of one hour. -/
theorem st_one {ho ha g ne : Int} (h0 : 0 ≤ ho) (h1 : ho ≤ 200) (h2 : 0 ≤ ha) (h3 : ha ≤ ho) (g0 : 0 ≤ g) (g1 : g ≤ 20) (n0 : 0 ≤ ne) (n1 : ne ≤ 20) : stL [(g, ne)] ho ha = [stS ho ha (g, ne)] := by
  have hb : stB [(g, ne)] ho ha = true := by
    rw [stB_iff, hrB_iff]
    refine ⟨⟨by simp, fun x hx => ?_⟩, h0, h1, h2, h3⟩
    simp at hx; subst hx
    exact hrV_iff.2 ⟨g0, g1, n0, n1⟩
  unfold stL; rw [hb]; rfl
theorem blk_drw {w : World} {k : Nat} {o : Obj} (h : w.heap[k]? = some o) : w.drew.heap[k]? = some o := h
set_option maxRecDepth 100000 in
set_option maxHeartbeats 4000000 in
theorem iFill_is (la dy mi e1 n1 fe fn fu ho ha ne lo hi st : Int) (up : Bool) (A : Option Addr) (n cap b : Nat) {g r : Int} (w : World) (hP : w.heap[b]? = some (.cells #[.int .i64 la, .int .i64 dy, .int .i64 mi, .int .i64 fe, .int .i64 fn, .int .i64 fu, .int .i64 ho, .int .i64 ha, .int .i64 ne, .slice A n cap, .int .i64 e1, .int .i64 n1, .int .i64 lo, .int .i64 hi, .bool up, .int .i64 st] 77 (0, 0))) (h0 : 0 ≤ ho) (h1 : ho ≤ 200) (h2 : 0 ≤ ha) (h3 : ha ≤ ho) (g0 : 0 ≤ g) (g1 : g ≤ 20) (k0 : 0 ≤ ne) (k1 : ne ≤ 20) (hr : stS ho ha (g, ne) = r) :
    Calls Tryz.prog 125 #[.pointer (some ⟨b, 3, none⟩), .int .i64 g] w (InBox w b (.cells #[.int .i64 la, .int .i64 dy, .int .i64 mi, .int .i64 fe, .int .i64 fn, .int .i64 fu, .int .i64 ho, .int .i64 r, .int .i64 ne, .slice A n cap, .int .i64 e1, .int .i64 n1, .int .i64 lo, .int .i64 hi, .bool up, .int .i64 st] 77 (0, 0))) := by
  have HST := Lib.hid (st_one h0 h1 h2 h3 g0 g1 k0 k1)
  rw [hr] at HST
  go_enter Tryz.func125, Tryz.ntmps125
  have hP9 := hP
  clear hP
  go_wp2_with fail
  refine wp_region_held_drew (S := (Keeps w b)) (by kernel_rfl) (Keeps.refl w b).drew (fun hHeld => ?_)
  have hB_x := id hHeld
  have hP_x := hP9
  clear hP9
  refine wpAnyH_take (i := 0) (oi := _) (v := ?_) rfl (by kernel_rfl) (by kernel_rfl) (by kernel_rfl) (fun _ _ _ h => h) (Or.inl ⟨by rfl, ?_⟩) (by assumption) ?_
  (rotate_left); (focus (intro wv hSw; go_simp; (try with_reducible rfl)))
  try simp only [Act.put, List.getElem_toArray, List.getElem_cons_succ, List.getElem_cons_zero, List.setIfInBounds_toArray, List.set_cons_zero, List.set_cons_succ]
  refine wpAnyH_take (i := 1) (oi := _) (v := ?_) rfl (by kernel_rfl) (by kernel_rfl) (by kernel_rfl) (fun _ _ _ h => h) (Or.inl ⟨by rfl, ?_⟩) (by assumption) ?_
  (rotate_left); (focus (intro wv hSw; go_simp; (try with_reducible rfl)))
  try simp only [Act.put, List.getElem_toArray, List.getElem_cons_succ, List.getElem_cons_zero, List.setIfInBounds_toArray, List.set_cons_zero, List.set_cons_succ]
  refine wpAnyH_take (i := 2) (oi := _) (v := ?_) rfl (by kernel_rfl) (by kernel_rfl) (by kernel_rfl) (fun _ _ _ h => h) (Or.inl ⟨by rfl, ?_⟩) (by assumption) ?_
  (rotate_left); (focus (intro wv hSw; go_simp; (try with_reducible rfl)))
  try simp only [Act.put, List.getElem_toArray, List.getElem_cons_succ, List.getElem_cons_zero, List.setIfInBounds_toArray, List.set_cons_zero, List.set_cons_succ]
  refine wpAnyH_take (i := 3) (oi := _) (v := ?_) rfl (by kernel_rfl) (by kernel_rfl) (by kernel_rfl) (fun _ _ _ h => h) (Or.inl ⟨by rfl, ?_⟩) (by assumption) ?_
  (rotate_left); (focus (intro wv hSw; go_simp; (try with_reducible rfl)))
  try simp only [Act.put, List.getElem_toArray, List.getElem_cons_succ, List.getElem_cons_zero, List.setIfInBounds_toArray, List.set_cons_zero, List.set_cons_succ]
  refine wpAnyH_take (i := 4) (oi := _) (v := ?_) rfl (by kernel_rfl) (by kernel_rfl) (by kernel_rfl) (fun _ _ _ h => h) (Or.inl ⟨by rfl, ?_⟩) (by assumption) ?_
  (rotate_left); (focus (intro wv hSw; go_simp; (try with_reducible rfl)))
  try simp only [Act.put, List.getElem_toArray, List.getElem_cons_succ, List.getElem_cons_zero, List.setIfInBounds_toArray, List.set_cons_zero, List.set_cons_succ]
  refine wpAnyH_take (i := 8) (oi := _) (v := ?_) rfl (by kernel_rfl) (by kernel_rfl) (by kernel_rfl) (fun _ _ _ h => h) (Or.inl ⟨by rfl, ?_⟩) (by assumption) ?_
  (rotate_left); (focus (intro wv hSw; go_simp; (try with_reducible rfl)))
  try simp only [Act.put, List.getElem_toArray, List.getElem_cons_succ, List.getElem_cons_zero, List.setIfInBounds_toArray, List.set_cons_zero, List.set_cons_succ]
  refine wpAnyH_take (i := 9) (oi := _) (v := ?_) rfl (by kernel_rfl) (by kernel_rfl) (by kernel_rfl) (fun _ _ _ h => h) (Or.inl ⟨by rfl, ?_⟩) (by assumption) ?_
  (rotate_left); (focus (intro wv hSw; go_simp; (try with_reducible rfl)))
  try simp only [Act.put, List.getElem_toArray, List.getElem_cons_succ, List.getElem_cons_zero, List.setIfInBounds_toArray, List.set_cons_zero, List.set_cons_succ]
  refine wpAnyH_take (i := 10) (oi := _) (v := ?_) rfl (by kernel_rfl) (by kernel_rfl) (by kernel_rfl) (fun _ _ _ h => h) (Or.inl ⟨by rfl, ?_⟩) (by assumption) ?_
  (rotate_left); (focus (intro wv hSw; go_simp; (try with_reducible rfl)))
  try simp only [Act.put, List.getElem_toArray, List.getElem_cons_succ, List.getElem_cons_zero, List.setIfInBounds_toArray, List.set_cons_zero, List.set_cons_succ]
  refine wpAnyH_take (i := 12) (oi := _) (v := ?_) rfl (by kernel_rfl) (by kernel_rfl) (by kernel_rfl) (fun _ _ _ h => h) (Or.inl ⟨by rfl, ?_⟩) (by assumption) ?_
  (rotate_left); (focus (intro wv hSw; go_simp; (try with_reducible rfl)))
  try simp only [Act.put, List.getElem_toArray, List.getElem_cons_succ, List.getElem_cons_zero, List.setIfInBounds_toArray, List.set_cons_zero, List.set_cons_succ]
  refine wpAnyH_take (i := 13) (oi := _) (v := ?_) rfl (by kernel_rfl) (by kernel_rfl) (by kernel_rfl) (fun _ _ _ h => h) (Or.inl ⟨by rfl, ?_⟩) (by assumption) ?_
  (rotate_left); (focus (intro wv hSw; go_simp; (try with_reducible rfl)))
  try simp only [Act.put, List.getElem_toArray, List.getElem_cons_succ, List.getElem_cons_zero, List.setIfInBounds_toArray, List.set_cons_zero, List.set_cons_succ]
  refine wpAnyH_take (i := 14) (oi := _) (v := ?_) rfl (by kernel_rfl) (by kernel_rfl) (by kernel_rfl) (fun _ _ _ h => h) (Or.inl ⟨by rfl, ?_⟩) (by assumption) ?_
  (rotate_left); (focus (intro wv hSw; go_simp; (try with_reducible rfl)))
  try simp only [Act.put, List.getElem_toArray, List.getElem_cons_succ, List.getElem_cons_zero, List.setIfInBounds_toArray, List.set_cons_zero, List.set_cons_succ]
  refine wpAnyH_ready (rs := [5, 11, 15]) (by kernel_rfl) (by simp) ?_
  refine AllReadyH.cons (o := _) rfl (fun K hK => ?_) (AllReadyH.cons (o := _) rfl (fun K hK => ?_) (AllReadyH.cons (o := _) rfl (fun K hK => ?_) (AllReadyH.nil)))
  · obtain ⟨cX0, cX1, cX2, cX3, cX4, cX5, cX6, cX7, cX8, cX9, cX10, cX11, cX12, cX13, cX14, cX15, fX0, fX1, fX2, fX3, fX4, fX5, fX6, fX7, fX8, fX9, fX10, fX11, fX12, fX13, fX14, fX15, zX⟩ := blk16 hP_x
    go_simp
    refine hK.out _ _ hB_x (fun hHeld => ?_)
    clear hK K
    try simp only [Act.put, List.getElem_toArray, List.getElem_cons_succ, List.getElem_cons_zero, List.setIfInBounds_toArray, List.set_cons_zero, List.set_cons_succ]
    have hB_xa := id hHeld
    have hP_xa := hP_x
    clear cX0 fX0 cX1 fX1 cX2 fX2 cX3 fX3 cX4 fX4 cX5 fX5 cX6 fX6 cX7 fX7 cX8 fX8 cX9 fX9 cX10 fX10 cX11 fX11 cX12 fX12 cX13 fX13 cX14 fX14 cX15 fX15 zX
    refine wpAnyH_take (i := 6) (oi := _) (v := ?_) rfl (by kernel_rfl) (by kernel_rfl) (by kernel_rfl) (fun _ _ _ h => h) (Or.inl ⟨by rfl, ?_⟩) (by assumption) ?_
    (rotate_left); (focus (intro wv hSw; go_simp; (try with_reducible rfl)))
    try simp only [Act.put, List.getElem_toArray, List.getElem_cons_succ, List.getElem_cons_zero, List.setIfInBounds_toArray, List.set_cons_zero, List.set_cons_succ]
    refine wpAnyH_ready (rs := [7, 11, 15]) (by kernel_rfl) (by simp) ?_
    refine AllReadyH.cons (o := _) rfl (fun K hK => ?_) (AllReadyH.cons (o := _) rfl (fun K hK => ?_) (AllReadyH.cons (o := _) rfl (fun K hK => ?_) (AllReadyH.nil)))
    · go_simp
      refine hK.out _ _ (hB_xa.alloc _) (fun hHeld => ?_)
      clear hK K
      try simp only [Act.put, List.getElem_toArray, List.getElem_cons_succ, List.getElem_cons_zero, List.setIfInBounds_toArray, List.set_cons_zero, List.set_cons_succ]
      have hB_xaa := id hHeld
      have hP_xaa := blk_old hP_xa (.cells #[.int .i64 g, .int .i64 ne] 54 (0, 0))
      have hG : SBlk encHour (w.alloc (.cells #[.int .i64 g, .int .i64 ne] 54 (0, 0))).drew w.heap.size 54 [(g, ne)] := blk_new w (.cells #[.int .i64 g, .int .i64 ne] 54 (0, 0))
      refine wpAnyH_ready (rs := [11, 15]) (by kernel_rfl) (by simp) ?_
      refine AllReadyH.cons (o := _) rfl (fun K hK => ?_) (AllReadyH.cons (o := _) rfl (fun K hK => ?_) (AllReadyH.nil))
      · obtain ⟨cX0, cX1, cX2, cX3, cX4, cX5, cX6, cX7, cX8, cX9, cX10, cX11, cX12, cX13, cX14, cX15, fX0, fX1, fX2, fX3, fX4, fX5, fX6, fX7, fX8, fX9, fX10, fX11, fX12, fX13, fX14, fX15, zX⟩ := blk16 hP_xaa
        go_simp
        refine hK.out _ _ hB_xaa (fun hHeld => ?_)
        clear hK K
        try simp only [Act.put, List.getElem_toArray, List.getElem_cons_succ, List.getElem_cons_zero, List.setIfInBounds_toArray, List.set_cons_zero, List.set_cons_succ]
        have hB_xaaa := id hHeld
        have hP_xaaa := hP_xaa
        clear cX0 fX0 cX1 fX1 cX2 fX2 cX3 fX3 cX4 fX4 cX5 fX5 cX6 fX6 cX7 fX7 cX8 fX8 cX9 fX9 cX10 fX10 cX11 fX11 cX12 fX12 cX13 fX13 cX14 fX14 cX15 fX15 zX
        refine wpAnyH_ready (rs := [15]) (by kernel_rfl) (by simp) ?_
        refine AllReadyH.cons (o := _) rfl (fun K hK => ?_) (AllReadyH.nil)
        obtain ⟨cX0, cX1, cX2, cX3, cX4, cX5, cX6, cX7, cX8, cX9, cX10, cX11, cX12, cX13, cX14, cX15, fX0, fX1, fX2, fX3, fX4, fX5, fX6, fX7, fX8, fX9, fX10, fX11, fX12, fX13, fX14, fX15, zX⟩ := blk16 hP_xaaa
        go_simp
        refine hK.out _ _ hB_xaaa (fun hHeld => ?_)
        clear hK K
        try simp only [Act.put, List.getElem_toArray, List.getElem_cons_succ, List.getElem_cons_zero, List.setIfInBounds_toArray, List.set_cons_zero, List.set_cons_succ]
        have hB_xaaaa := id hHeld
        have hP_xaaaa := hP_xaaa
        clear cX0 fX0 cX1 fX1 cX2 fX2 cX3 fX3 cX4 fX4 cX5 fX5 cX6 fX6 cX7 fX7 cX8 fX8 cX9 fX9 cX10 fX10 cX11 fX11 cX12 fX12 cX13 fX13 cX14 fX14 cX15 fX15 zX
        have hP_0 := blk_drw hP_xaaaa
        have hB_0 := hB_xaaaa
        have hG_0 := hG
        refine wpAnyH_ready (rs := [16]) (by kernel_rfl) (by simp) ?_
        refine AllReadyH.cons (o := _) rfl (fun K hK => ?_) AllReadyH.nil
        go_simp
        (go_at_call 26; refine (iSr_is (some ⟨w.heap.size, 0, none⟩) 1 [(g, ne)] _ rfl hG_0.row (by simp) HST.out).mono ?_; rintro e x0c ⟨V, cv, rfl, hO9, hw_0c⟩)
        refine hK.out _ _ (hB_0.call hw_0c) (fun hHeld => ?_)
        clear hK K
        try simp only [Act.put, List.getElem_toArray, List.getElem_cons_succ, List.getElem_cons_zero, List.setIfInBounds_toArray, List.set_cons_zero, List.set_cons_succ]
        have hB_0c := id hHeld
        have hP_0c := blk_next hP_0 hw_0c
        obtain ⟨vb, vo, rfl, hvl, hvc⟩ := rowNum hO9.row (i := 0) (by simp)
        simp at hvc
        have hvi : ([r].length : Int) = 1 := rfl
        refine wpAnyH_take (i := 17) (oi := _) (v := ?_) rfl (by kernel_rfl) (by kernel_rfl) (by kernel_rfl) (fun _ _ _ h => h) (Or.inl ⟨by rfl, ?_⟩) (by assumption) ?_
        (rotate_left); (focus (intro wv hSw; (have qB := hSw);  go_simp; (try with_reducible rfl)))
        try simp only [Act.put, List.getElem_toArray, List.getElem_cons_succ, List.getElem_cons_zero, List.setIfInBounds_toArray, List.set_cons_zero, List.set_cons_succ]
        refine wpAnyH_ready (rs := [18]) (by kernel_rfl) (by simp) ?_
        refine AllReadyH.cons (o := _) rfl (fun K hK => ?_) AllReadyH.nil
        go_simp
        refine hK.out _ _ (hB_0c) (fun hHeld => ?_)
        clear hK K
        try simp only [Act.put, List.getElem_toArray, List.getElem_cons_succ, List.getElem_cons_zero, List.setIfInBounds_toArray, List.set_cons_zero, List.set_cons_succ]
        have hB_0cl := id hHeld
        refine wpAnyH_take (i := 19) (oi := _) (v := ?_) rfl (by kernel_rfl) (by kernel_rfl) (by kernel_rfl) (fun _ _ _ h => h) (Or.inl ⟨by rfl, ?_⟩) (by assumption) ?_
        (rotate_left); (focus (intro wv hSw; (have qB := hSw);  go_simp; (try with_reducible rfl)))
        try simp only [Act.put, List.getElem_toArray, List.getElem_cons_succ, List.getElem_cons_zero, List.setIfInBounds_toArray, List.set_cons_zero, List.set_cons_succ]
        refine wpAnyH_take (i := 20) (oi := _) (v := ?_) rfl (by kernel_rfl) (by kernel_rfl) (by kernel_rfl) (fun _ _ _ h => h) (Or.inl ⟨by rfl, ?_⟩) (by assumption) ?_
        (rotate_left); (focus (intro wv hSw; (have qB := hSw);  go_simp; (try with_reducible rfl)))
        try simp only [Act.put, List.getElem_toArray, List.getElem_cons_succ, List.getElem_cons_zero, List.setIfInBounds_toArray, List.set_cons_zero, List.set_cons_succ]
        obtain ⟨cP0, cP1, cP2, cP3, cP4, cP5, cP6, cP7, cP8, cP9, cP10, cP11, cP12, cP13, cP14, cP15, fP0, fP1, fP2, fP3, fP4, fP5, fP6, fP7, fP8, fP9, fP10, fP11, fP12, fP13, fP14, fP15, zP⟩ := blk16 hP_0c
        refine wpAnyH_ready (rs := [21]) (by kernel_rfl) (by simp) ?_
        refine AllReadyH.cons (o := _) rfl (fun K hK => ?_) AllReadyH.nil
        go_simp
        refine hK.out _ _ (hB_0cl.cell 7 _) (fun hHeld => ?_)
        clear hK K
        try simp only [Act.put, List.getElem_toArray, List.getElem_cons_succ, List.getElem_cons_zero, List.setIfInBounds_toArray, List.set_cons_zero, List.set_cons_succ]
        have hB_0clw := id hHeld
        have hQ := blk16_at7 (v := .int .i64 r) hP_0c
        refine wpAnyH_done (by kernel_rfl) ?_ _
        go_wp2
        go_end0
        exact ⟨rfl, hQ, hB_0clw⟩
      · obtain ⟨cX0, cX1, cX2, cX3, cX4, cX5, cX6, cX7, cX8, cX9, cX10, cX11, cX12, cX13, cX14, cX15, fX0, fX1, fX2, fX3, fX4, fX5, fX6, fX7, fX8, fX9, fX10, fX11, fX12, fX13, fX14, fX15, zX⟩ := blk16 hP_xaa
        go_simp
        refine hK.out _ _ hB_xaa (fun hHeld => ?_)
        clear hK K
        try simp only [Act.put, List.getElem_toArray, List.getElem_cons_succ, List.getElem_cons_zero, List.setIfInBounds_toArray, List.set_cons_zero, List.set_cons_succ]
        have hB_xaab := id hHeld
        have hP_xaab := hP_xaa
        clear cX0 fX0 cX1 fX1 cX2 fX2 cX3 fX3 cX4 fX4 cX5 fX5 cX6 fX6 cX7 fX7 cX8 fX8 cX9 fX9 cX10 fX10 cX11 fX11 cX12 fX12 cX13 fX13 cX14 fX14 cX15 fX15 zX
        refine wpAnyH_ready (rs := [11]) (by kernel_rfl) (by simp) ?_
        refine AllReadyH.cons (o := _) rfl (fun K hK => ?_) (AllReadyH.nil)
        obtain ⟨cX0, cX1, cX2, cX3, cX4, cX5, cX6, cX7, cX8, cX9, cX10, cX11, cX12, cX13, cX14, cX15, fX0, fX1, fX2, fX3, fX4, fX5, fX6, fX7, fX8, fX9, fX10, fX11, fX12, fX13, fX14, fX15, zX⟩ := blk16 hP_xaab
        go_simp
        refine hK.out _ _ hB_xaab (fun hHeld => ?_)
        clear hK K
        try simp only [Act.put, List.getElem_toArray, List.getElem_cons_succ, List.getElem_cons_zero, List.setIfInBounds_toArray, List.set_cons_zero, List.set_cons_succ]
        have hB_xaaba := id hHeld
        have hP_xaaba := hP_xaab
        clear cX0 fX0 cX1 fX1 cX2 fX2 cX3 fX3 cX4 fX4 cX5 fX5 cX6 fX6 cX7 fX7 cX8 fX8 cX9 fX9 cX10 fX10 cX11 fX11 cX12 fX12 cX13 fX13 cX14 fX14 cX15 fX15 zX
        have hP_0 := blk_drw hP_xaaba
        have hB_0 := hB_xaaba
        have hG_0 := hG
        refine wpAnyH_ready (rs := [16]) (by kernel_rfl) (by simp) ?_
        refine AllReadyH.cons (o := _) rfl (fun K hK => ?_) AllReadyH.nil
        go_simp
        (go_at_call 26; refine (iSr_is (some ⟨w.heap.size, 0, none⟩) 1 [(g, ne)] _ rfl hG_0.row (by simp) HST.out).mono ?_; rintro e x0c ⟨V, cv, rfl, hO9, hw_0c⟩)
        refine hK.out _ _ (hB_0.call hw_0c) (fun hHeld => ?_)
        clear hK K
        try simp only [Act.put, List.getElem_toArray, List.getElem_cons_succ, List.getElem_cons_zero, List.setIfInBounds_toArray, List.set_cons_zero, List.set_cons_succ]
        have hB_0c := id hHeld
        have hP_0c := blk_next hP_0 hw_0c
        obtain ⟨vb, vo, rfl, hvl, hvc⟩ := rowNum hO9.row (i := 0) (by simp)
        simp at hvc
        have hvi : ([r].length : Int) = 1 := rfl
        refine wpAnyH_take (i := 17) (oi := _) (v := ?_) rfl (by kernel_rfl) (by kernel_rfl) (by kernel_rfl) (fun _ _ _ h => h) (Or.inl ⟨by rfl, ?_⟩) (by assumption) ?_
        (rotate_left); (focus (intro wv hSw; (have qB := hSw);  go_simp; (try with_reducible rfl)))
        try simp only [Act.put, List.getElem_toArray, List.getElem_cons_succ, List.getElem_cons_zero, List.setIfInBounds_toArray, List.set_cons_zero, List.set_cons_succ]
        refine wpAnyH_ready (rs := [18]) (by kernel_rfl) (by simp) ?_
        refine AllReadyH.cons (o := _) rfl (fun K hK => ?_) AllReadyH.nil
        go_simp
        refine hK.out _ _ (hB_0c) (fun hHeld => ?_)
        clear hK K
        try simp only [Act.put, List.getElem_toArray, List.getElem_cons_succ, List.getElem_cons_zero, List.setIfInBounds_toArray, List.set_cons_zero, List.set_cons_succ]
        have hB_0cl := id hHeld
        refine wpAnyH_take (i := 19) (oi := _) (v := ?_) rfl (by kernel_rfl) (by kernel_rfl) (by kernel_rfl) (fun _ _ _ h => h) (Or.inl ⟨by rfl, ?_⟩) (by assumption) ?_
        (rotate_left); (focus (intro wv hSw; (have qB := hSw);  go_simp; (try with_reducible rfl)))
        try simp only [Act.put, List.getElem_toArray, List.getElem_cons_succ, List.getElem_cons_zero, List.setIfInBounds_toArray, List.set_cons_zero, List.set_cons_succ]
        refine wpAnyH_take (i := 20) (oi := _) (v := ?_) rfl (by kernel_rfl) (by kernel_rfl) (by kernel_rfl) (fun _ _ _ h => h) (Or.inl ⟨by rfl, ?_⟩) (by assumption) ?_
        (rotate_left); (focus (intro wv hSw; (have qB := hSw);  go_simp; (try with_reducible rfl)))
        try simp only [Act.put, List.getElem_toArray, List.getElem_cons_succ, List.getElem_cons_zero, List.setIfInBounds_toArray, List.set_cons_zero, List.set_cons_succ]
        obtain ⟨cP0, cP1, cP2, cP3, cP4, cP5, cP6, cP7, cP8, cP9, cP10, cP11, cP12, cP13, cP14, cP15, fP0, fP1, fP2, fP3, fP4, fP5, fP6, fP7, fP8, fP9, fP10, fP11, fP12, fP13, fP14, fP15, zP⟩ := blk16 hP_0c
        refine wpAnyH_ready (rs := [21]) (by kernel_rfl) (by simp) ?_
        refine AllReadyH.cons (o := _) rfl (fun K hK => ?_) AllReadyH.nil
        go_simp
        refine hK.out _ _ (hB_0cl.cell 7 _) (fun hHeld => ?_)
        clear hK K
        try simp only [Act.put, List.getElem_toArray, List.getElem_cons_succ, List.getElem_cons_zero, List.setIfInBounds_toArray, List.set_cons_zero, List.set_cons_succ]
        have hB_0clw := id hHeld
        have hQ := blk16_at7 (v := .int .i64 r) hP_0c
        refine wpAnyH_done (by kernel_rfl) ?_ _
        go_wp2
        go_end0
        exact ⟨rfl, hQ, hB_0clw⟩
    · obtain ⟨cX0, cX1, cX2, cX3, cX4, cX5, cX6, cX7, cX8, cX9, cX10, cX11, cX12, cX13, cX14, cX15, fX0, fX1, fX2, fX3, fX4, fX5, fX6, fX7, fX8, fX9, fX10, fX11, fX12, fX13, fX14, fX15, zX⟩ := blk16 hP_xa
      go_simp
      refine hK.out _ _ hB_xa (fun hHeld => ?_)
      clear hK K
      try simp only [Act.put, List.getElem_toArray, List.getElem_cons_succ, List.getElem_cons_zero, List.setIfInBounds_toArray, List.set_cons_zero, List.set_cons_succ]
      have hB_xab := id hHeld
      have hP_xab := hP_xa
      clear cX0 fX0 cX1 fX1 cX2 fX2 cX3 fX3 cX4 fX4 cX5 fX5 cX6 fX6 cX7 fX7 cX8 fX8 cX9 fX9 cX10 fX10 cX11 fX11 cX12 fX12 cX13 fX13 cX14 fX14 cX15 fX15 zX
      refine wpAnyH_ready (rs := [7, 15]) (by kernel_rfl) (by simp) ?_
      refine AllReadyH.cons (o := _) rfl (fun K hK => ?_) (AllReadyH.cons (o := _) rfl (fun K hK => ?_) (AllReadyH.nil))
      · go_simp
        refine hK.out _ _ (hB_xab.alloc _) (fun hHeld => ?_)
        clear hK K
        try simp only [Act.put, List.getElem_toArray, List.getElem_cons_succ, List.getElem_cons_zero, List.setIfInBounds_toArray, List.set_cons_zero, List.set_cons_succ]
        have hB_xaba := id hHeld
        have hP_xaba := blk_old hP_xab (.cells #[.int .i64 g, .int .i64 ne] 54 (0, 0))
        have hG : SBlk encHour (w.alloc (.cells #[.int .i64 g, .int .i64 ne] 54 (0, 0))).drew w.heap.size 54 [(g, ne)] := blk_new w (.cells #[.int .i64 g, .int .i64 ne] 54 (0, 0))
        refine wpAnyH_ready (rs := [15]) (by kernel_rfl) (by simp) ?_
        refine AllReadyH.cons (o := _) rfl (fun K hK => ?_) (AllReadyH.nil)
        obtain ⟨cX0, cX1, cX2, cX3, cX4, cX5, cX6, cX7, cX8, cX9, cX10, cX11, cX12, cX13, cX14, cX15, fX0, fX1, fX2, fX3, fX4, fX5, fX6, fX7, fX8, fX9, fX10, fX11, fX12, fX13, fX14, fX15, zX⟩ := blk16 hP_xaba
        go_simp
        refine hK.out _ _ hB_xaba (fun hHeld => ?_)
        clear hK K
        try simp only [Act.put, List.getElem_toArray, List.getElem_cons_succ, List.getElem_cons_zero, List.setIfInBounds_toArray, List.set_cons_zero, List.set_cons_succ]
        have hB_xabaa := id hHeld
        have hP_xabaa := hP_xaba
        clear cX0 fX0 cX1 fX1 cX2 fX2 cX3 fX3 cX4 fX4 cX5 fX5 cX6 fX6 cX7 fX7 cX8 fX8 cX9 fX9 cX10 fX10 cX11 fX11 cX12 fX12 cX13 fX13 cX14 fX14 cX15 fX15 zX
        have hP_0 := blk_drw hP_xabaa
        have hB_0 := hB_xabaa
        have hG_0 := hG
        refine wpAnyH_ready (rs := [16]) (by kernel_rfl) (by simp) ?_
        refine AllReadyH.cons (o := _) rfl (fun K hK => ?_) AllReadyH.nil
        go_simp
        (go_at_call 26; refine (iSr_is (some ⟨w.heap.size, 0, none⟩) 1 [(g, ne)] _ rfl hG_0.row (by simp) HST.out).mono ?_; rintro e x0c ⟨V, cv, rfl, hO9, hw_0c⟩)
        refine hK.out _ _ (hB_0.call hw_0c) (fun hHeld => ?_)
        clear hK K
        try simp only [Act.put, List.getElem_toArray, List.getElem_cons_succ, List.getElem_cons_zero, List.setIfInBounds_toArray, List.set_cons_zero, List.set_cons_succ]
        have hB_0c := id hHeld
        have hP_0c := blk_next hP_0 hw_0c
        obtain ⟨vb, vo, rfl, hvl, hvc⟩ := rowNum hO9.row (i := 0) (by simp)
        simp at hvc
        have hvi : ([r].length : Int) = 1 := rfl
        refine wpAnyH_take (i := 17) (oi := _) (v := ?_) rfl (by kernel_rfl) (by kernel_rfl) (by kernel_rfl) (fun _ _ _ h => h) (Or.inl ⟨by rfl, ?_⟩) (by assumption) ?_
        (rotate_left); (focus (intro wv hSw; (have qB := hSw);  go_simp; (try with_reducible rfl)))
        try simp only [Act.put, List.getElem_toArray, List.getElem_cons_succ, List.getElem_cons_zero, List.setIfInBounds_toArray, List.set_cons_zero, List.set_cons_succ]
        refine wpAnyH_ready (rs := [18]) (by kernel_rfl) (by simp) ?_
        refine AllReadyH.cons (o := _) rfl (fun K hK => ?_) AllReadyH.nil
        go_simp
        refine hK.out _ _ (hB_0c) (fun hHeld => ?_)
        clear hK K
        try simp only [Act.put, List.getElem_toArray, List.getElem_cons_succ, List.getElem_cons_zero, List.setIfInBounds_toArray, List.set_cons_zero, List.set_cons_succ]
        have hB_0cl := id hHeld
        refine wpAnyH_take (i := 19) (oi := _) (v := ?_) rfl (by kernel_rfl) (by kernel_rfl) (by kernel_rfl) (fun _ _ _ h => h) (Or.inl ⟨by rfl, ?_⟩) (by assumption) ?_
        (rotate_left); (focus (intro wv hSw; (have qB := hSw);  go_simp; (try with_reducible rfl)))
        try simp only [Act.put, List.getElem_toArray, List.getElem_cons_succ, List.getElem_cons_zero, List.setIfInBounds_toArray, List.set_cons_zero, List.set_cons_succ]
        refine wpAnyH_take (i := 20) (oi := _) (v := ?_) rfl (by kernel_rfl) (by kernel_rfl) (by kernel_rfl) (fun _ _ _ h => h) (Or.inl ⟨by rfl, ?_⟩) (by assumption) ?_
        (rotate_left); (focus (intro wv hSw; (have qB := hSw);  go_simp; (try with_reducible rfl)))
        try simp only [Act.put, List.getElem_toArray, List.getElem_cons_succ, List.getElem_cons_zero, List.setIfInBounds_toArray, List.set_cons_zero, List.set_cons_succ]
        obtain ⟨cP0, cP1, cP2, cP3, cP4, cP5, cP6, cP7, cP8, cP9, cP10, cP11, cP12, cP13, cP14, cP15, fP0, fP1, fP2, fP3, fP4, fP5, fP6, fP7, fP8, fP9, fP10, fP11, fP12, fP13, fP14, fP15, zP⟩ := blk16 hP_0c
        refine wpAnyH_ready (rs := [21]) (by kernel_rfl) (by simp) ?_
        refine AllReadyH.cons (o := _) rfl (fun K hK => ?_) AllReadyH.nil
        go_simp
        refine hK.out _ _ (hB_0cl.cell 7 _) (fun hHeld => ?_)
        clear hK K
        try simp only [Act.put, List.getElem_toArray, List.getElem_cons_succ, List.getElem_cons_zero, List.setIfInBounds_toArray, List.set_cons_zero, List.set_cons_succ]
        have hB_0clw := id hHeld
        have hQ := blk16_at7 (v := .int .i64 r) hP_0c
        refine wpAnyH_done (by kernel_rfl) ?_ _
        go_wp2
        go_end0
        exact ⟨rfl, hQ, hB_0clw⟩
      · obtain ⟨cX0, cX1, cX2, cX3, cX4, cX5, cX6, cX7, cX8, cX9, cX10, cX11, cX12, cX13, cX14, cX15, fX0, fX1, fX2, fX3, fX4, fX5, fX6, fX7, fX8, fX9, fX10, fX11, fX12, fX13, fX14, fX15, zX⟩ := blk16 hP_xab
        go_simp
        refine hK.out _ _ hB_xab (fun hHeld => ?_)
        clear hK K
        try simp only [Act.put, List.getElem_toArray, List.getElem_cons_succ, List.getElem_cons_zero, List.setIfInBounds_toArray, List.set_cons_zero, List.set_cons_succ]
        have hB_xabb := id hHeld
        have hP_xabb := hP_xab
        clear cX0 fX0 cX1 fX1 cX2 fX2 cX3 fX3 cX4 fX4 cX5 fX5 cX6 fX6 cX7 fX7 cX8 fX8 cX9 fX9 cX10 fX10 cX11 fX11 cX12 fX12 cX13 fX13 cX14 fX14 cX15 fX15 zX
        refine wpAnyH_ready (rs := [7]) (by kernel_rfl) (by simp) ?_
        refine AllReadyH.cons (o := _) rfl (fun K hK => ?_) (AllReadyH.nil)
        go_simp
        refine hK.out _ _ (hB_xabb.alloc _) (fun hHeld => ?_)
        clear hK K
        try simp only [Act.put, List.getElem_toArray, List.getElem_cons_succ, List.getElem_cons_zero, List.setIfInBounds_toArray, List.set_cons_zero, List.set_cons_succ]
        have hB_xabba := id hHeld
        have hP_xabba := blk_old hP_xabb (.cells #[.int .i64 g, .int .i64 ne] 54 (0, 0))
        have hG : SBlk encHour (w.alloc (.cells #[.int .i64 g, .int .i64 ne] 54 (0, 0))).drew w.heap.size 54 [(g, ne)] := blk_new w (.cells #[.int .i64 g, .int .i64 ne] 54 (0, 0))
        have hP_0 := blk_drw hP_xabba
        have hB_0 := hB_xabba
        have hG_0 := hG
        refine wpAnyH_ready (rs := [16]) (by kernel_rfl) (by simp) ?_
        refine AllReadyH.cons (o := _) rfl (fun K hK => ?_) AllReadyH.nil
        go_simp
        (go_at_call 26; refine (iSr_is (some ⟨w.heap.size, 0, none⟩) 1 [(g, ne)] _ rfl hG_0.row (by simp) HST.out).mono ?_; rintro e x0c ⟨V, cv, rfl, hO9, hw_0c⟩)
        refine hK.out _ _ (hB_0.call hw_0c) (fun hHeld => ?_)
        clear hK K
        try simp only [Act.put, List.getElem_toArray, List.getElem_cons_succ, List.getElem_cons_zero, List.setIfInBounds_toArray, List.set_cons_zero, List.set_cons_succ]
        have hB_0c := id hHeld
        have hP_0c := blk_next hP_0 hw_0c
        obtain ⟨vb, vo, rfl, hvl, hvc⟩ := rowNum hO9.row (i := 0) (by simp)
        simp at hvc
        have hvi : ([r].length : Int) = 1 := rfl
        refine wpAnyH_take (i := 17) (oi := _) (v := ?_) rfl (by kernel_rfl) (by kernel_rfl) (by kernel_rfl) (fun _ _ _ h => h) (Or.inl ⟨by rfl, ?_⟩) (by assumption) ?_
        (rotate_left); (focus (intro wv hSw; (have qB := hSw);  go_simp; (try with_reducible rfl)))
        try simp only [Act.put, List.getElem_toArray, List.getElem_cons_succ, List.getElem_cons_zero, List.setIfInBounds_toArray, List.set_cons_zero, List.set_cons_succ]
        refine wpAnyH_ready (rs := [18]) (by kernel_rfl) (by simp) ?_
        refine AllReadyH.cons (o := _) rfl (fun K hK => ?_) AllReadyH.nil
        go_simp
        refine hK.out _ _ (hB_0c) (fun hHeld => ?_)
        clear hK K
        try simp only [Act.put, List.getElem_toArray, List.getElem_cons_succ, List.getElem_cons_zero, List.setIfInBounds_toArray, List.set_cons_zero, List.set_cons_succ]
        have hB_0cl := id hHeld
        refine wpAnyH_take (i := 19) (oi := _) (v := ?_) rfl (by kernel_rfl) (by kernel_rfl) (by kernel_rfl) (fun _ _ _ h => h) (Or.inl ⟨by rfl, ?_⟩) (by assumption) ?_
        (rotate_left); (focus (intro wv hSw; (have qB := hSw);  go_simp; (try with_reducible rfl)))
        try simp only [Act.put, List.getElem_toArray, List.getElem_cons_succ, List.getElem_cons_zero, List.setIfInBounds_toArray, List.set_cons_zero, List.set_cons_succ]
        refine wpAnyH_take (i := 20) (oi := _) (v := ?_) rfl (by kernel_rfl) (by kernel_rfl) (by kernel_rfl) (fun _ _ _ h => h) (Or.inl ⟨by rfl, ?_⟩) (by assumption) ?_
        (rotate_left); (focus (intro wv hSw; (have qB := hSw);  go_simp; (try with_reducible rfl)))
        try simp only [Act.put, List.getElem_toArray, List.getElem_cons_succ, List.getElem_cons_zero, List.setIfInBounds_toArray, List.set_cons_zero, List.set_cons_succ]
        obtain ⟨cP0, cP1, cP2, cP3, cP4, cP5, cP6, cP7, cP8, cP9, cP10, cP11, cP12, cP13, cP14, cP15, fP0, fP1, fP2, fP3, fP4, fP5, fP6, fP7, fP8, fP9, fP10, fP11, fP12, fP13, fP14, fP15, zP⟩ := blk16 hP_0c
        refine wpAnyH_ready (rs := [21]) (by kernel_rfl) (by simp) ?_
        refine AllReadyH.cons (o := _) rfl (fun K hK => ?_) AllReadyH.nil
        go_simp
        refine hK.out _ _ (hB_0cl.cell 7 _) (fun hHeld => ?_)
        clear hK K
        try simp only [Act.put, List.getElem_toArray, List.getElem_cons_succ, List.getElem_cons_zero, List.setIfInBounds_toArray, List.set_cons_zero, List.set_cons_succ]
        have hB_0clw := id hHeld
        have hQ := blk16_at7 (v := .int .i64 r) hP_0c
        refine wpAnyH_done (by kernel_rfl) ?_ _
        go_wp2
        go_end0
        exact ⟨rfl, hQ, hB_0clw⟩
    · obtain ⟨cX0, cX1, cX2, cX3, cX4, cX5, cX6, cX7, cX8, cX9, cX10, cX11, cX12, cX13, cX14, cX15, fX0, fX1, fX2, fX3, fX4, fX5, fX6, fX7, fX8, fX9, fX10, fX11, fX12, fX13, fX14, fX15, zX⟩ := blk16 hP_xa
      go_simp
      refine hK.out _ _ hB_xa (fun hHeld => ?_)
      clear hK K
      try simp only [Act.put, List.getElem_toArray, List.getElem_cons_succ, List.getElem_cons_zero, List.setIfInBounds_toArray, List.set_cons_zero, List.set_cons_succ]
      have hB_xac := id hHeld
      have hP_xac := hP_xa
      clear cX0 fX0 cX1 fX1 cX2 fX2 cX3 fX3 cX4 fX4 cX5 fX5 cX6 fX6 cX7 fX7 cX8 fX8 cX9 fX9 cX10 fX10 cX11 fX11 cX12 fX12 cX13 fX13 cX14 fX14 cX15 fX15 zX
      refine wpAnyH_ready (rs := [7, 11]) (by kernel_rfl) (by simp) ?_
      refine AllReadyH.cons (o := _) rfl (fun K hK => ?_) (AllReadyH.cons (o := _) rfl (fun K hK => ?_) (AllReadyH.nil))
      · go_simp
        refine hK.out _ _ (hB_xac.alloc _) (fun hHeld => ?_)
        clear hK K
        try simp only [Act.put, List.getElem_toArray, List.getElem_cons_succ, List.getElem_cons_zero, List.setIfInBounds_toArray, List.set_cons_zero, List.set_cons_succ]
        have hB_xaca := id hHeld
        have hP_xaca := blk_old hP_xac (.cells #[.int .i64 g, .int .i64 ne] 54 (0, 0))
        have hG : SBlk encHour (w.alloc (.cells #[.int .i64 g, .int .i64 ne] 54 (0, 0))).drew w.heap.size 54 [(g, ne)] := blk_new w (.cells #[.int .i64 g, .int .i64 ne] 54 (0, 0))
        refine wpAnyH_ready (rs := [11]) (by kernel_rfl) (by simp) ?_
        refine AllReadyH.cons (o := _) rfl (fun K hK => ?_) (AllReadyH.nil)
        obtain ⟨cX0, cX1, cX2, cX3, cX4, cX5, cX6, cX7, cX8, cX9, cX10, cX11, cX12, cX13, cX14, cX15, fX0, fX1, fX2, fX3, fX4, fX5, fX6, fX7, fX8, fX9, fX10, fX11, fX12, fX13, fX14, fX15, zX⟩ := blk16 hP_xaca
        go_simp
        refine hK.out _ _ hB_xaca (fun hHeld => ?_)
        clear hK K
        try simp only [Act.put, List.getElem_toArray, List.getElem_cons_succ, List.getElem_cons_zero, List.setIfInBounds_toArray, List.set_cons_zero, List.set_cons_succ]
        have hB_xacaa := id hHeld
        have hP_xacaa := hP_xaca
        clear cX0 fX0 cX1 fX1 cX2 fX2 cX3 fX3 cX4 fX4 cX5 fX5 cX6 fX6 cX7 fX7 cX8 fX8 cX9 fX9 cX10 fX10 cX11 fX11 cX12 fX12 cX13 fX13 cX14 fX14 cX15 fX15 zX
        have hP_0 := blk_drw hP_xacaa
        have hB_0 := hB_xacaa
        have hG_0 := hG
        refine wpAnyH_ready (rs := [16]) (by kernel_rfl) (by simp) ?_
        refine AllReadyH.cons (o := _) rfl (fun K hK => ?_) AllReadyH.nil
        go_simp
        (go_at_call 26; refine (iSr_is (some ⟨w.heap.size, 0, none⟩) 1 [(g, ne)] _ rfl hG_0.row (by simp) HST.out).mono ?_; rintro e x0c ⟨V, cv, rfl, hO9, hw_0c⟩)
        refine hK.out _ _ (hB_0.call hw_0c) (fun hHeld => ?_)
        clear hK K
        try simp only [Act.put, List.getElem_toArray, List.getElem_cons_succ, List.getElem_cons_zero, List.setIfInBounds_toArray, List.set_cons_zero, List.set_cons_succ]
        have hB_0c := id hHeld
        have hP_0c := blk_next hP_0 hw_0c
        obtain ⟨vb, vo, rfl, hvl, hvc⟩ := rowNum hO9.row (i := 0) (by simp)
        simp at hvc
        have hvi : ([r].length : Int) = 1 := rfl
        refine wpAnyH_take (i := 17) (oi := _) (v := ?_) rfl (by kernel_rfl) (by kernel_rfl) (by kernel_rfl) (fun _ _ _ h => h) (Or.inl ⟨by rfl, ?_⟩) (by assumption) ?_
        (rotate_left); (focus (intro wv hSw; (have qB := hSw);  go_simp; (try with_reducible rfl)))
        try simp only [Act.put, List.getElem_toArray, List.getElem_cons_succ, List.getElem_cons_zero, List.setIfInBounds_toArray, List.set_cons_zero, List.set_cons_succ]
        refine wpAnyH_ready (rs := [18]) (by kernel_rfl) (by simp) ?_
        refine AllReadyH.cons (o := _) rfl (fun K hK => ?_) AllReadyH.nil
        go_simp
        refine hK.out _ _ (hB_0c) (fun hHeld => ?_)
        clear hK K
        try simp only [Act.put, List.getElem_toArray, List.getElem_cons_succ, List.getElem_cons_zero, List.setIfInBounds_toArray, List.set_cons_zero, List.set_cons_succ]
        have hB_0cl := id hHeld
        refine wpAnyH_take (i := 19) (oi := _) (v := ?_) rfl (by kernel_rfl) (by kernel_rfl) (by kernel_rfl) (fun _ _ _ h => h) (Or.inl ⟨by rfl, ?_⟩) (by assumption) ?_
        (rotate_left); (focus (intro wv hSw; (have qB := hSw);  go_simp; (try with_reducible rfl)))
        try simp only [Act.put, List.getElem_toArray, List.getElem_cons_succ, List.getElem_cons_zero, List.setIfInBounds_toArray, List.set_cons_zero, List.set_cons_succ]
        refine wpAnyH_take (i := 20) (oi := _) (v := ?_) rfl (by kernel_rfl) (by kernel_rfl) (by kernel_rfl) (fun _ _ _ h => h) (Or.inl ⟨by rfl, ?_⟩) (by assumption) ?_
        (rotate_left); (focus (intro wv hSw; (have qB := hSw);  go_simp; (try with_reducible rfl)))
        try simp only [Act.put, List.getElem_toArray, List.getElem_cons_succ, List.getElem_cons_zero, List.setIfInBounds_toArray, List.set_cons_zero, List.set_cons_succ]
        obtain ⟨cP0, cP1, cP2, cP3, cP4, cP5, cP6, cP7, cP8, cP9, cP10, cP11, cP12, cP13, cP14, cP15, fP0, fP1, fP2, fP3, fP4, fP5, fP6, fP7, fP8, fP9, fP10, fP11, fP12, fP13, fP14, fP15, zP⟩ := blk16 hP_0c
        refine wpAnyH_ready (rs := [21]) (by kernel_rfl) (by simp) ?_
        refine AllReadyH.cons (o := _) rfl (fun K hK => ?_) AllReadyH.nil
        go_simp
        refine hK.out _ _ (hB_0cl.cell 7 _) (fun hHeld => ?_)
        clear hK K
        try simp only [Act.put, List.getElem_toArray, List.getElem_cons_succ, List.getElem_cons_zero, List.setIfInBounds_toArray, List.set_cons_zero, List.set_cons_succ]
        have hB_0clw := id hHeld
        have hQ := blk16_at7 (v := .int .i64 r) hP_0c
        refine wpAnyH_done (by kernel_rfl) ?_ _
        go_wp2
        go_end0
        exact ⟨rfl, hQ, hB_0clw⟩
      · obtain ⟨cX0, cX1, cX2, cX3, cX4, cX5, cX6, cX7, cX8, cX9, cX10, cX11, cX12, cX13, cX14, cX15, fX0, fX1, fX2, fX3, fX4, fX5, fX6, fX7, fX8, fX9, fX10, fX11, fX12, fX13, fX14, fX15, zX⟩ := blk16 hP_xac
        go_simp
        refine hK.out _ _ hB_xac (fun hHeld => ?_)
        clear hK K
        try simp only [Act.put, List.getElem_toArray, List.getElem_cons_succ, List.getElem_cons_zero, List.setIfInBounds_toArray, List.set_cons_zero, List.set_cons_succ]
        have hB_xacb := id hHeld
        have hP_xacb := hP_xac
        clear cX0 fX0 cX1 fX1 cX2 fX2 cX3 fX3 cX4 fX4 cX5 fX5 cX6 fX6 cX7 fX7 cX8 fX8 cX9 fX9 cX10 fX10 cX11 fX11 cX12 fX12 cX13 fX13 cX14 fX14 cX15 fX15 zX
        refine wpAnyH_ready (rs := [7]) (by kernel_rfl) (by simp) ?_
        refine AllReadyH.cons (o := _) rfl (fun K hK => ?_) (AllReadyH.nil)
        go_simp
        refine hK.out _ _ (hB_xacb.alloc _) (fun hHeld => ?_)
        clear hK K
        try simp only [Act.put, List.getElem_toArray, List.getElem_cons_succ, List.getElem_cons_zero, List.setIfInBounds_toArray, List.set_cons_zero, List.set_cons_succ]
        have hB_xacba := id hHeld
        have hP_xacba := blk_old hP_xacb (.cells #[.int .i64 g, .int .i64 ne] 54 (0, 0))
        have hG : SBlk encHour (w.alloc (.cells #[.int .i64 g, .int .i64 ne] 54 (0, 0))).drew w.heap.size 54 [(g, ne)] := blk_new w (.cells #[.int .i64 g, .int .i64 ne] 54 (0, 0))
        have hP_0 := blk_drw hP_xacba
        have hB_0 := hB_xacba
        have hG_0 := hG
        refine wpAnyH_ready (rs := [16]) (by kernel_rfl) (by simp) ?_
        refine AllReadyH.cons (o := _) rfl (fun K hK => ?_) AllReadyH.nil
        go_simp
        (go_at_call 26; refine (iSr_is (some ⟨w.heap.size, 0, none⟩) 1 [(g, ne)] _ rfl hG_0.row (by simp) HST.out).mono ?_; rintro e x0c ⟨V, cv, rfl, hO9, hw_0c⟩)
        refine hK.out _ _ (hB_0.call hw_0c) (fun hHeld => ?_)
        clear hK K
        try simp only [Act.put, List.getElem_toArray, List.getElem_cons_succ, List.getElem_cons_zero, List.setIfInBounds_toArray, List.set_cons_zero, List.set_cons_succ]
        have hB_0c := id hHeld
        have hP_0c := blk_next hP_0 hw_0c
        obtain ⟨vb, vo, rfl, hvl, hvc⟩ := rowNum hO9.row (i := 0) (by simp)
        simp at hvc
        have hvi : ([r].length : Int) = 1 := rfl
        refine wpAnyH_take (i := 17) (oi := _) (v := ?_) rfl (by kernel_rfl) (by kernel_rfl) (by kernel_rfl) (fun _ _ _ h => h) (Or.inl ⟨by rfl, ?_⟩) (by assumption) ?_
        (rotate_left); (focus (intro wv hSw; (have qB := hSw);  go_simp; (try with_reducible rfl)))
        try simp only [Act.put, List.getElem_toArray, List.getElem_cons_succ, List.getElem_cons_zero, List.setIfInBounds_toArray, List.set_cons_zero, List.set_cons_succ]
        refine wpAnyH_ready (rs := [18]) (by kernel_rfl) (by simp) ?_
        refine AllReadyH.cons (o := _) rfl (fun K hK => ?_) AllReadyH.nil
        go_simp
        refine hK.out _ _ (hB_0c) (fun hHeld => ?_)
        clear hK K
        try simp only [Act.put, List.getElem_toArray, List.getElem_cons_succ, List.getElem_cons_zero, List.setIfInBounds_toArray, List.set_cons_zero, List.set_cons_succ]
        have hB_0cl := id hHeld
        refine wpAnyH_take (i := 19) (oi := _) (v := ?_) rfl (by kernel_rfl) (by kernel_rfl) (by kernel_rfl) (fun _ _ _ h => h) (Or.inl ⟨by rfl, ?_⟩) (by assumption) ?_
        (rotate_left); (focus (intro wv hSw; (have qB := hSw);  go_simp; (try with_reducible rfl)))
        try simp only [Act.put, List.getElem_toArray, List.getElem_cons_succ, List.getElem_cons_zero, List.setIfInBounds_toArray, List.set_cons_zero, List.set_cons_succ]
        refine wpAnyH_take (i := 20) (oi := _) (v := ?_) rfl (by kernel_rfl) (by kernel_rfl) (by kernel_rfl) (fun _ _ _ h => h) (Or.inl ⟨by rfl, ?_⟩) (by assumption) ?_
        (rotate_left); (focus (intro wv hSw; (have qB := hSw);  go_simp; (try with_reducible rfl)))
        try simp only [Act.put, List.getElem_toArray, List.getElem_cons_succ, List.getElem_cons_zero, List.setIfInBounds_toArray, List.set_cons_zero, List.set_cons_succ]
        obtain ⟨cP0, cP1, cP2, cP3, cP4, cP5, cP6, cP7, cP8, cP9, cP10, cP11, cP12, cP13, cP14, cP15, fP0, fP1, fP2, fP3, fP4, fP5, fP6, fP7, fP8, fP9, fP10, fP11, fP12, fP13, fP14, fP15, zP⟩ := blk16 hP_0c
        refine wpAnyH_ready (rs := [21]) (by kernel_rfl) (by simp) ?_
        refine AllReadyH.cons (o := _) rfl (fun K hK => ?_) AllReadyH.nil
        go_simp
        refine hK.out _ _ (hB_0cl.cell 7 _) (fun hHeld => ?_)
        clear hK K
        try simp only [Act.put, List.getElem_toArray, List.getElem_cons_succ, List.getElem_cons_zero, List.setIfInBounds_toArray, List.set_cons_zero, List.set_cons_succ]
        have hB_0clw := id hHeld
        have hQ := blk16_at7 (v := .int .i64 r) hP_0c
        refine wpAnyH_done (by kernel_rfl) ?_ _
        go_wp2
        go_end0
        exact ⟨rfl, hQ, hB_0clw⟩
  · obtain ⟨cX0, cX1, cX2, cX3, cX4, cX5, cX6, cX7, cX8, cX9, cX10, cX11, cX12, cX13, cX14, cX15, fX0, fX1, fX2, fX3, fX4, fX5, fX6, fX7, fX8, fX9, fX10, fX11, fX12, fX13, fX14, fX15, zX⟩ := blk16 hP_x
    go_simp
    refine hK.out _ _ hB_x (fun hHeld => ?_)
    clear hK K
    try simp only [Act.put, List.getElem_toArray, List.getElem_cons_succ, List.getElem_cons_zero, List.setIfInBounds_toArray, List.set_cons_zero, List.set_cons_succ]
    have hB_xb := id hHeld
    have hP_xb := hP_x
    clear cX0 fX0 cX1 fX1 cX2 fX2 cX3 fX3 cX4 fX4 cX5 fX5 cX6 fX6 cX7 fX7 cX8 fX8 cX9 fX9 cX10 fX10 cX11 fX11 cX12 fX12 cX13 fX13 cX14 fX14 cX15 fX15 zX
    refine wpAnyH_ready (rs := [5, 15]) (by kernel_rfl) (by simp) ?_
    refine AllReadyH.cons (o := _) rfl (fun K hK => ?_) (AllReadyH.cons (o := _) rfl (fun K hK => ?_) (AllReadyH.nil))
    · obtain ⟨cX0, cX1, cX2, cX3, cX4, cX5, cX6, cX7, cX8, cX9, cX10, cX11, cX12, cX13, cX14, cX15, fX0, fX1, fX2, fX3, fX4, fX5, fX6, fX7, fX8, fX9, fX10, fX11, fX12, fX13, fX14, fX15, zX⟩ := blk16 hP_xb
      go_simp
      refine hK.out _ _ hB_xb (fun hHeld => ?_)
      clear hK K
      try simp only [Act.put, List.getElem_toArray, List.getElem_cons_succ, List.getElem_cons_zero, List.setIfInBounds_toArray, List.set_cons_zero, List.set_cons_succ]
      have hB_xba := id hHeld
      have hP_xba := hP_xb
      clear cX0 fX0 cX1 fX1 cX2 fX2 cX3 fX3 cX4 fX4 cX5 fX5 cX6 fX6 cX7 fX7 cX8 fX8 cX9 fX9 cX10 fX10 cX11 fX11 cX12 fX12 cX13 fX13 cX14 fX14 cX15 fX15 zX
      refine wpAnyH_take (i := 6) (oi := _) (v := ?_) rfl (by kernel_rfl) (by kernel_rfl) (by kernel_rfl) (fun _ _ _ h => h) (Or.inl ⟨by rfl, ?_⟩) (by assumption) ?_
      (rotate_left); (focus (intro wv hSw; go_simp; (try with_reducible rfl)))
      try simp only [Act.put, List.getElem_toArray, List.getElem_cons_succ, List.getElem_cons_zero, List.setIfInBounds_toArray, List.set_cons_zero, List.set_cons_succ]
      refine wpAnyH_ready (rs := [7, 15]) (by kernel_rfl) (by simp) ?_
      refine AllReadyH.cons (o := _) rfl (fun K hK => ?_) (AllReadyH.cons (o := _) rfl (fun K hK => ?_) (AllReadyH.nil))
      · go_simp
        refine hK.out _ _ (hB_xba.alloc _) (fun hHeld => ?_)
        clear hK K
        try simp only [Act.put, List.getElem_toArray, List.getElem_cons_succ, List.getElem_cons_zero, List.setIfInBounds_toArray, List.set_cons_zero, List.set_cons_succ]
        have hB_xbaa := id hHeld
        have hP_xbaa := blk_old hP_xba (.cells #[.int .i64 g, .int .i64 ne] 54 (0, 0))
        have hG : SBlk encHour (w.alloc (.cells #[.int .i64 g, .int .i64 ne] 54 (0, 0))).drew w.heap.size 54 [(g, ne)] := blk_new w (.cells #[.int .i64 g, .int .i64 ne] 54 (0, 0))
        refine wpAnyH_ready (rs := [15]) (by kernel_rfl) (by simp) ?_
        refine AllReadyH.cons (o := _) rfl (fun K hK => ?_) (AllReadyH.nil)
        obtain ⟨cX0, cX1, cX2, cX3, cX4, cX5, cX6, cX7, cX8, cX9, cX10, cX11, cX12, cX13, cX14, cX15, fX0, fX1, fX2, fX3, fX4, fX5, fX6, fX7, fX8, fX9, fX10, fX11, fX12, fX13, fX14, fX15, zX⟩ := blk16 hP_xbaa
        go_simp
        refine hK.out _ _ hB_xbaa (fun hHeld => ?_)
        clear hK K
        try simp only [Act.put, List.getElem_toArray, List.getElem_cons_succ, List.getElem_cons_zero, List.setIfInBounds_toArray, List.set_cons_zero, List.set_cons_succ]
        have hB_xbaaa := id hHeld
        have hP_xbaaa := hP_xbaa
        clear cX0 fX0 cX1 fX1 cX2 fX2 cX3 fX3 cX4 fX4 cX5 fX5 cX6 fX6 cX7 fX7 cX8 fX8 cX9 fX9 cX10 fX10 cX11 fX11 cX12 fX12 cX13 fX13 cX14 fX14 cX15 fX15 zX
        have hP_0 := blk_drw hP_xbaaa
        have hB_0 := hB_xbaaa
        have hG_0 := hG
        refine wpAnyH_ready (rs := [16]) (by kernel_rfl) (by simp) ?_
        refine AllReadyH.cons (o := _) rfl (fun K hK => ?_) AllReadyH.nil
        go_simp
        (go_at_call 26; refine (iSr_is (some ⟨w.heap.size, 0, none⟩) 1 [(g, ne)] _ rfl hG_0.row (by simp) HST.out).mono ?_; rintro e x0c ⟨V, cv, rfl, hO9, hw_0c⟩)
        refine hK.out _ _ (hB_0.call hw_0c) (fun hHeld => ?_)
        clear hK K
        try simp only [Act.put, List.getElem_toArray, List.getElem_cons_succ, List.getElem_cons_zero, List.setIfInBounds_toArray, List.set_cons_zero, List.set_cons_succ]
        have hB_0c := id hHeld
        have hP_0c := blk_next hP_0 hw_0c
        obtain ⟨vb, vo, rfl, hvl, hvc⟩ := rowNum hO9.row (i := 0) (by simp)
        simp at hvc
        have hvi : ([r].length : Int) = 1 := rfl
        refine wpAnyH_take (i := 17) (oi := _) (v := ?_) rfl (by kernel_rfl) (by kernel_rfl) (by kernel_rfl) (fun _ _ _ h => h) (Or.inl ⟨by rfl, ?_⟩) (by assumption) ?_
        (rotate_left); (focus (intro wv hSw; (have qB := hSw);  go_simp; (try with_reducible rfl)))
        try simp only [Act.put, List.getElem_toArray, List.getElem_cons_succ, List.getElem_cons_zero, List.setIfInBounds_toArray, List.set_cons_zero, List.set_cons_succ]
        refine wpAnyH_ready (rs := [18]) (by kernel_rfl) (by simp) ?_
        refine AllReadyH.cons (o := _) rfl (fun K hK => ?_) AllReadyH.nil
        go_simp
        refine hK.out _ _ (hB_0c) (fun hHeld => ?_)
        clear hK K
        try simp only [Act.put, List.getElem_toArray, List.getElem_cons_succ, List.getElem_cons_zero, List.setIfInBounds_toArray, List.set_cons_zero, List.set_cons_succ]
        have hB_0cl := id hHeld
        refine wpAnyH_take (i := 19) (oi := _) (v := ?_) rfl (by kernel_rfl) (by kernel_rfl) (by kernel_rfl) (fun _ _ _ h => h) (Or.inl ⟨by rfl, ?_⟩) (by assumption) ?_
        (rotate_left); (focus (intro wv hSw; (have qB := hSw);  go_simp; (try with_reducible rfl)))
        try simp only [Act.put, List.getElem_toArray, List.getElem_cons_succ, List.getElem_cons_zero, List.setIfInBounds_toArray, List.set_cons_zero, List.set_cons_succ]
        refine wpAnyH_take (i := 20) (oi := _) (v := ?_) rfl (by kernel_rfl) (by kernel_rfl) (by kernel_rfl) (fun _ _ _ h => h) (Or.inl ⟨by rfl, ?_⟩) (by assumption) ?_
        (rotate_left); (focus (intro wv hSw; (have qB := hSw);  go_simp; (try with_reducible rfl)))
        try simp only [Act.put, List.getElem_toArray, List.getElem_cons_succ, List.getElem_cons_zero, List.setIfInBounds_toArray, List.set_cons_zero, List.set_cons_succ]
        obtain ⟨cP0, cP1, cP2, cP3, cP4, cP5, cP6, cP7, cP8, cP9, cP10, cP11, cP12, cP13, cP14, cP15, fP0, fP1, fP2, fP3, fP4, fP5, fP6, fP7, fP8, fP9, fP10, fP11, fP12, fP13, fP14, fP15, zP⟩ := blk16 hP_0c
        refine wpAnyH_ready (rs := [21]) (by kernel_rfl) (by simp) ?_
        refine AllReadyH.cons (o := _) rfl (fun K hK => ?_) AllReadyH.nil
        go_simp
        refine hK.out _ _ (hB_0cl.cell 7 _) (fun hHeld => ?_)
        clear hK K
        try simp only [Act.put, List.getElem_toArray, List.getElem_cons_succ, List.getElem_cons_zero, List.setIfInBounds_toArray, List.set_cons_zero, List.set_cons_succ]
        have hB_0clw := id hHeld
        have hQ := blk16_at7 (v := .int .i64 r) hP_0c
        refine wpAnyH_done (by kernel_rfl) ?_ _
        go_wp2
        go_end0
        exact ⟨rfl, hQ, hB_0clw⟩
      · obtain ⟨cX0, cX1, cX2, cX3, cX4, cX5, cX6, cX7, cX8, cX9, cX10, cX11, cX12, cX13, cX14, cX15, fX0, fX1, fX2, fX3, fX4, fX5, fX6, fX7, fX8, fX9, fX10, fX11, fX12, fX13, fX14, fX15, zX⟩ := blk16 hP_xba
        go_simp
        refine hK.out _ _ hB_xba (fun hHeld => ?_)
        clear hK K
        try simp only [Act.put, List.getElem_toArray, List.getElem_cons_succ, List.getElem_cons_zero, List.setIfInBounds_toArray, List.set_cons_zero, List.set_cons_succ]
        have hB_xbab := id hHeld
        have hP_xbab := hP_xba
        clear cX0 fX0 cX1 fX1 cX2 fX2 cX3 fX3 cX4 fX4 cX5 fX5 cX6 fX6 cX7 fX7 cX8 fX8 cX9 fX9 cX10 fX10 cX11 fX11 cX12 fX12 cX13 fX13 cX14 fX14 cX15 fX15 zX
        refine wpAnyH_ready (rs := [7]) (by kernel_rfl) (by simp) ?_
        refine AllReadyH.cons (o := _) rfl (fun K hK => ?_) (AllReadyH.nil)
        go_simp
        refine hK.out _ _ (hB_xbab.alloc _) (fun hHeld => ?_)
        clear hK K
        try simp only [Act.put, List.getElem_toArray, List.getElem_cons_succ, List.getElem_cons_zero, List.setIfInBounds_toArray, List.set_cons_zero, List.set_cons_succ]
        have hB_xbaba := id hHeld
        have hP_xbaba := blk_old hP_xbab (.cells #[.int .i64 g, .int .i64 ne] 54 (0, 0))
        have hG : SBlk encHour (w.alloc (.cells #[.int .i64 g, .int .i64 ne] 54 (0, 0))).drew w.heap.size 54 [(g, ne)] := blk_new w (.cells #[.int .i64 g, .int .i64 ne] 54 (0, 0))
        have hP_0 := blk_drw hP_xbaba
        have hB_0 := hB_xbaba
        have hG_0 := hG
        refine wpAnyH_ready (rs := [16]) (by kernel_rfl) (by simp) ?_
        refine AllReadyH.cons (o := _) rfl (fun K hK => ?_) AllReadyH.nil
        go_simp
        (go_at_call 26; refine (iSr_is (some ⟨w.heap.size, 0, none⟩) 1 [(g, ne)] _ rfl hG_0.row (by simp) HST.out).mono ?_; rintro e x0c ⟨V, cv, rfl, hO9, hw_0c⟩)
        refine hK.out _ _ (hB_0.call hw_0c) (fun hHeld => ?_)
        clear hK K
        try simp only [Act.put, List.getElem_toArray, List.getElem_cons_succ, List.getElem_cons_zero, List.setIfInBounds_toArray, List.set_cons_zero, List.set_cons_succ]
        have hB_0c := id hHeld
        have hP_0c := blk_next hP_0 hw_0c
        obtain ⟨vb, vo, rfl, hvl, hvc⟩ := rowNum hO9.row (i := 0) (by simp)
        simp at hvc
        have hvi : ([r].length : Int) = 1 := rfl
        refine wpAnyH_take (i := 17) (oi := _) (v := ?_) rfl (by kernel_rfl) (by kernel_rfl) (by kernel_rfl) (fun _ _ _ h => h) (Or.inl ⟨by rfl, ?_⟩) (by assumption) ?_
        (rotate_left); (focus (intro wv hSw; (have qB := hSw);  go_simp; (try with_reducible rfl)))
        try simp only [Act.put, List.getElem_toArray, List.getElem_cons_succ, List.getElem_cons_zero, List.setIfInBounds_toArray, List.set_cons_zero, List.set_cons_succ]
        refine wpAnyH_ready (rs := [18]) (by kernel_rfl) (by simp) ?_
        refine AllReadyH.cons (o := _) rfl (fun K hK => ?_) AllReadyH.nil
        go_simp
        refine hK.out _ _ (hB_0c) (fun hHeld => ?_)
        clear hK K
        try simp only [Act.put, List.getElem_toArray, List.getElem_cons_succ, List.getElem_cons_zero, List.setIfInBounds_toArray, List.set_cons_zero, List.set_cons_succ]
        have hB_0cl := id hHeld
        refine wpAnyH_take (i := 19) (oi := _) (v := ?_) rfl (by kernel_rfl) (by kernel_rfl) (by kernel_rfl) (fun _ _ _ h => h) (Or.inl ⟨by rfl, ?_⟩) (by assumption) ?_
        (rotate_left); (focus (intro wv hSw; (have qB := hSw);  go_simp; (try with_reducible rfl)))
        try simp only [Act.put, List.getElem_toArray, List.getElem_cons_succ, List.getElem_cons_zero, List.setIfInBounds_toArray, List.set_cons_zero, List.set_cons_succ]
        refine wpAnyH_take (i := 20) (oi := _) (v := ?_) rfl (by kernel_rfl) (by kernel_rfl) (by kernel_rfl) (fun _ _ _ h => h) (Or.inl ⟨by rfl, ?_⟩) (by assumption) ?_
        (rotate_left); (focus (intro wv hSw; (have qB := hSw);  go_simp; (try with_reducible rfl)))
        try simp only [Act.put, List.getElem_toArray, List.getElem_cons_succ, List.getElem_cons_zero, List.setIfInBounds_toArray, List.set_cons_zero, List.set_cons_succ]
        obtain ⟨cP0, cP1, cP2, cP3, cP4, cP5, cP6, cP7, cP8, cP9, cP10, cP11, cP12, cP13, cP14, cP15, fP0, fP1, fP2, fP3, fP4, fP5, fP6, fP7, fP8, fP9, fP10, fP11, fP12, fP13, fP14, fP15, zP⟩ := blk16 hP_0c
        refine wpAnyH_ready (rs := [21]) (by kernel_rfl) (by simp) ?_
        refine AllReadyH.cons (o := _) rfl (fun K hK => ?_) AllReadyH.nil
        go_simp
        refine hK.out _ _ (hB_0cl.cell 7 _) (fun hHeld => ?_)
        clear hK K
        try simp only [Act.put, List.getElem_toArray, List.getElem_cons_succ, List.getElem_cons_zero, List.setIfInBounds_toArray, List.set_cons_zero, List.set_cons_succ]
        have hB_0clw := id hHeld
        have hQ := blk16_at7 (v := .int .i64 r) hP_0c
        refine wpAnyH_done (by kernel_rfl) ?_ _
        go_wp2
        go_end0
        exact ⟨rfl, hQ, hB_0clw⟩
    · obtain ⟨cX0, cX1, cX2, cX3, cX4, cX5, cX6, cX7, cX8, cX9, cX10, cX11, cX12, cX13, cX14, cX15, fX0, fX1, fX2, fX3, fX4, fX5, fX6, fX7, fX8, fX9, fX10, fX11, fX12, fX13, fX14, fX15, zX⟩ := blk16 hP_xb
      go_simp
      refine hK.out _ _ hB_xb (fun hHeld => ?_)
      clear hK K
      try simp only [Act.put, List.getElem_toArray, List.getElem_cons_succ, List.getElem_cons_zero, List.setIfInBounds_toArray, List.set_cons_zero, List.set_cons_succ]
      have hB_xbb := id hHeld
      have hP_xbb := hP_xb
      clear cX0 fX0 cX1 fX1 cX2 fX2 cX3 fX3 cX4 fX4 cX5 fX5 cX6 fX6 cX7 fX7 cX8 fX8 cX9 fX9 cX10 fX10 cX11 fX11 cX12 fX12 cX13 fX13 cX14 fX14 cX15 fX15 zX
      refine wpAnyH_ready (rs := [5]) (by kernel_rfl) (by simp) ?_
      refine AllReadyH.cons (o := _) rfl (fun K hK => ?_) (AllReadyH.nil)
      obtain ⟨cX0, cX1, cX2, cX3, cX4, cX5, cX6, cX7, cX8, cX9, cX10, cX11, cX12, cX13, cX14, cX15, fX0, fX1, fX2, fX3, fX4, fX5, fX6, fX7, fX8, fX9, fX10, fX11, fX12, fX13, fX14, fX15, zX⟩ := blk16 hP_xbb
      go_simp
      refine hK.out _ _ hB_xbb (fun hHeld => ?_)
      clear hK K
      try simp only [Act.put, List.getElem_toArray, List.getElem_cons_succ, List.getElem_cons_zero, List.setIfInBounds_toArray, List.set_cons_zero, List.set_cons_succ]
      have hB_xbba := id hHeld
      have hP_xbba := hP_xbb
      clear cX0 fX0 cX1 fX1 cX2 fX2 cX3 fX3 cX4 fX4 cX5 fX5 cX6 fX6 cX7 fX7 cX8 fX8 cX9 fX9 cX10 fX10 cX11 fX11 cX12 fX12 cX13 fX13 cX14 fX14 cX15 fX15 zX
      refine wpAnyH_take (i := 6) (oi := _) (v := ?_) rfl (by kernel_rfl) (by kernel_rfl) (by kernel_rfl) (fun _ _ _ h => h) (Or.inl ⟨by rfl, ?_⟩) (by assumption) ?_
      (rotate_left); (focus (intro wv hSw; go_simp; (try with_reducible rfl)))
      try simp only [Act.put, List.getElem_toArray, List.getElem_cons_succ, List.getElem_cons_zero, List.setIfInBounds_toArray, List.set_cons_zero, List.set_cons_succ]
      refine wpAnyH_ready (rs := [7]) (by kernel_rfl) (by simp) ?_
      refine AllReadyH.cons (o := _) rfl (fun K hK => ?_) (AllReadyH.nil)
      go_simp
      refine hK.out _ _ (hB_xbba.alloc _) (fun hHeld => ?_)
      clear hK K
      try simp only [Act.put, List.getElem_toArray, List.getElem_cons_succ, List.getElem_cons_zero, List.setIfInBounds_toArray, List.set_cons_zero, List.set_cons_succ]
      have hB_xbbaa := id hHeld
      have hP_xbbaa := blk_old hP_xbba (.cells #[.int .i64 g, .int .i64 ne] 54 (0, 0))
      have hG : SBlk encHour (w.alloc (.cells #[.int .i64 g, .int .i64 ne] 54 (0, 0))).drew w.heap.size 54 [(g, ne)] := blk_new w (.cells #[.int .i64 g, .int .i64 ne] 54 (0, 0))
      have hP_0 := blk_drw hP_xbbaa
      have hB_0 := hB_xbbaa
      have hG_0 := hG
      refine wpAnyH_ready (rs := [16]) (by kernel_rfl) (by simp) ?_
      refine AllReadyH.cons (o := _) rfl (fun K hK => ?_) AllReadyH.nil
      go_simp
      (go_at_call 26; refine (iSr_is (some ⟨w.heap.size, 0, none⟩) 1 [(g, ne)] _ rfl hG_0.row (by simp) HST.out).mono ?_; rintro e x0c ⟨V, cv, rfl, hO9, hw_0c⟩)
      refine hK.out _ _ (hB_0.call hw_0c) (fun hHeld => ?_)
      clear hK K
      try simp only [Act.put, List.getElem_toArray, List.getElem_cons_succ, List.getElem_cons_zero, List.setIfInBounds_toArray, List.set_cons_zero, List.set_cons_succ]
      have hB_0c := id hHeld
      have hP_0c := blk_next hP_0 hw_0c
      obtain ⟨vb, vo, rfl, hvl, hvc⟩ := rowNum hO9.row (i := 0) (by simp)
      simp at hvc
      have hvi : ([r].length : Int) = 1 := rfl
      refine wpAnyH_take (i := 17) (oi := _) (v := ?_) rfl (by kernel_rfl) (by kernel_rfl) (by kernel_rfl) (fun _ _ _ h => h) (Or.inl ⟨by rfl, ?_⟩) (by assumption) ?_
      (rotate_left); (focus (intro wv hSw; (have qB := hSw);  go_simp; (try with_reducible rfl)))
      try simp only [Act.put, List.getElem_toArray, List.getElem_cons_succ, List.getElem_cons_zero, List.setIfInBounds_toArray, List.set_cons_zero, List.set_cons_succ]
      refine wpAnyH_ready (rs := [18]) (by kernel_rfl) (by simp) ?_
      refine AllReadyH.cons (o := _) rfl (fun K hK => ?_) AllReadyH.nil
      go_simp
      refine hK.out _ _ (hB_0c) (fun hHeld => ?_)
      clear hK K
      try simp only [Act.put, List.getElem_toArray, List.getElem_cons_succ, List.getElem_cons_zero, List.setIfInBounds_toArray, List.set_cons_zero, List.set_cons_succ]
      have hB_0cl := id hHeld
      refine wpAnyH_take (i := 19) (oi := _) (v := ?_) rfl (by kernel_rfl) (by kernel_rfl) (by kernel_rfl) (fun _ _ _ h => h) (Or.inl ⟨by rfl, ?_⟩) (by assumption) ?_
      (rotate_left); (focus (intro wv hSw; (have qB := hSw);  go_simp; (try with_reducible rfl)))
      try simp only [Act.put, List.getElem_toArray, List.getElem_cons_succ, List.getElem_cons_zero, List.setIfInBounds_toArray, List.set_cons_zero, List.set_cons_succ]
      refine wpAnyH_take (i := 20) (oi := _) (v := ?_) rfl (by kernel_rfl) (by kernel_rfl) (by kernel_rfl) (fun _ _ _ h => h) (Or.inl ⟨by rfl, ?_⟩) (by assumption) ?_
      (rotate_left); (focus (intro wv hSw; (have qB := hSw);  go_simp; (try with_reducible rfl)))
      try simp only [Act.put, List.getElem_toArray, List.getElem_cons_succ, List.getElem_cons_zero, List.setIfInBounds_toArray, List.set_cons_zero, List.set_cons_succ]
      obtain ⟨cP0, cP1, cP2, cP3, cP4, cP5, cP6, cP7, cP8, cP9, cP10, cP11, cP12, cP13, cP14, cP15, fP0, fP1, fP2, fP3, fP4, fP5, fP6, fP7, fP8, fP9, fP10, fP11, fP12, fP13, fP14, fP15, zP⟩ := blk16 hP_0c
      refine wpAnyH_ready (rs := [21]) (by kernel_rfl) (by simp) ?_
      refine AllReadyH.cons (o := _) rfl (fun K hK => ?_) AllReadyH.nil
      go_simp
      refine hK.out _ _ (hB_0cl.cell 7 _) (fun hHeld => ?_)
      clear hK K
      try simp only [Act.put, List.getElem_toArray, List.getElem_cons_succ, List.getElem_cons_zero, List.setIfInBounds_toArray, List.set_cons_zero, List.set_cons_succ]
      have hB_0clw := id hHeld
      have hQ := blk16_at7 (v := .int .i64 r) hP_0c
      refine wpAnyH_done (by kernel_rfl) ?_ _
      go_wp2
      go_end0
      exact ⟨rfl, hQ, hB_0clw⟩
  · obtain ⟨cX0, cX1, cX2, cX3, cX4, cX5, cX6, cX7, cX8, cX9, cX10, cX11, cX12, cX13, cX14, cX15, fX0, fX1, fX2, fX3, fX4, fX5, fX6, fX7, fX8, fX9, fX10, fX11, fX12, fX13, fX14, fX15, zX⟩ := blk16 hP_x
    go_simp
    refine hK.out _ _ hB_x (fun hHeld => ?_)
    clear hK K
    try simp only [Act.put, List.getElem_toArray, List.getElem_cons_succ, List.getElem_cons_zero, List.setIfInBounds_toArray, List.set_cons_zero, List.set_cons_succ]
    have hB_xc := id hHeld
    have hP_xc := hP_x
    clear cX0 fX0 cX1 fX1 cX2 fX2 cX3 fX3 cX4 fX4 cX5 fX5 cX6 fX6 cX7 fX7 cX8 fX8 cX9 fX9 cX10 fX10 cX11 fX11 cX12 fX12 cX13 fX13 cX14 fX14 cX15 fX15 zX
    refine wpAnyH_ready (rs := [5, 11]) (by kernel_rfl) (by simp) ?_
    refine AllReadyH.cons (o := _) rfl (fun K hK => ?_) (AllReadyH.cons (o := _) rfl (fun K hK => ?_) (AllReadyH.nil))
    · obtain ⟨cX0, cX1, cX2, cX3, cX4, cX5, cX6, cX7, cX8, cX9, cX10, cX11, cX12, cX13, cX14, cX15, fX0, fX1, fX2, fX3, fX4, fX5, fX6, fX7, fX8, fX9, fX10, fX11, fX12, fX13, fX14, fX15, zX⟩ := blk16 hP_xc
      go_simp
      refine hK.out _ _ hB_xc (fun hHeld => ?_)
      clear hK K
      try simp only [Act.put, List.getElem_toArray, List.getElem_cons_succ, List.getElem_cons_zero, List.setIfInBounds_toArray, List.set_cons_zero, List.set_cons_succ]
      have hB_xca := id hHeld
      have hP_xca := hP_xc
      clear cX0 fX0 cX1 fX1 cX2 fX2 cX3 fX3 cX4 fX4 cX5 fX5 cX6 fX6 cX7 fX7 cX8 fX8 cX9 fX9 cX10 fX10 cX11 fX11 cX12 fX12 cX13 fX13 cX14 fX14 cX15 fX15 zX
      refine wpAnyH_take (i := 6) (oi := _) (v := ?_) rfl (by kernel_rfl) (by kernel_rfl) (by kernel_rfl) (fun _ _ _ h => h) (Or.inl ⟨by rfl, ?_⟩) (by assumption) ?_
      (rotate_left); (focus (intro wv hSw; go_simp; (try with_reducible rfl)))
      try simp only [Act.put, List.getElem_toArray, List.getElem_cons_succ, List.getElem_cons_zero, List.setIfInBounds_toArray, List.set_cons_zero, List.set_cons_succ]
      refine wpAnyH_ready (rs := [7, 11]) (by kernel_rfl) (by simp) ?_
      refine AllReadyH.cons (o := _) rfl (fun K hK => ?_) (AllReadyH.cons (o := _) rfl (fun K hK => ?_) (AllReadyH.nil))
      · go_simp
        refine hK.out _ _ (hB_xca.alloc _) (fun hHeld => ?_)
        clear hK K
        try simp only [Act.put, List.getElem_toArray, List.getElem_cons_succ, List.getElem_cons_zero, List.setIfInBounds_toArray, List.set_cons_zero, List.set_cons_succ]
        have hB_xcaa := id hHeld
        have hP_xcaa := blk_old hP_xca (.cells #[.int .i64 g, .int .i64 ne] 54 (0, 0))
        have hG : SBlk encHour (w.alloc (.cells #[.int .i64 g, .int .i64 ne] 54 (0, 0))).drew w.heap.size 54 [(g, ne)] := blk_new w (.cells #[.int .i64 g, .int .i64 ne] 54 (0, 0))
        refine wpAnyH_ready (rs := [11]) (by kernel_rfl) (by simp) ?_
        refine AllReadyH.cons (o := _) rfl (fun K hK => ?_) (AllReadyH.nil)
        obtain ⟨cX0, cX1, cX2, cX3, cX4, cX5, cX6, cX7, cX8, cX9, cX10, cX11, cX12, cX13, cX14, cX15, fX0, fX1, fX2, fX3, fX4, fX5, fX6, fX7, fX8, fX9, fX10, fX11, fX12, fX13, fX14, fX15, zX⟩ := blk16 hP_xcaa
        go_simp
        refine hK.out _ _ hB_xcaa (fun hHeld => ?_)
        clear hK K
        try simp only [Act.put, List.getElem_toArray, List.getElem_cons_succ, List.getElem_cons_zero, List.setIfInBounds_toArray, List.set_cons_zero, List.set_cons_succ]
        have hB_xcaaa := id hHeld
        have hP_xcaaa := hP_xcaa
        clear cX0 fX0 cX1 fX1 cX2 fX2 cX3 fX3 cX4 fX4 cX5 fX5 cX6 fX6 cX7 fX7 cX8 fX8 cX9 fX9 cX10 fX10 cX11 fX11 cX12 fX12 cX13 fX13 cX14 fX14 cX15 fX15 zX
        have hP_0 := blk_drw hP_xcaaa
        have hB_0 := hB_xcaaa
        have hG_0 := hG
        refine wpAnyH_ready (rs := [16]) (by kernel_rfl) (by simp) ?_
        refine AllReadyH.cons (o := _) rfl (fun K hK => ?_) AllReadyH.nil
        go_simp
        (go_at_call 26; refine (iSr_is (some ⟨w.heap.size, 0, none⟩) 1 [(g, ne)] _ rfl hG_0.row (by simp) HST.out).mono ?_; rintro e x0c ⟨V, cv, rfl, hO9, hw_0c⟩)
        refine hK.out _ _ (hB_0.call hw_0c) (fun hHeld => ?_)
        clear hK K
        try simp only [Act.put, List.getElem_toArray, List.getElem_cons_succ, List.getElem_cons_zero, List.setIfInBounds_toArray, List.set_cons_zero, List.set_cons_succ]
        have hB_0c := id hHeld
        have hP_0c := blk_next hP_0 hw_0c
        obtain ⟨vb, vo, rfl, hvl, hvc⟩ := rowNum hO9.row (i := 0) (by simp)
        simp at hvc
        have hvi : ([r].length : Int) = 1 := rfl
        refine wpAnyH_take (i := 17) (oi := _) (v := ?_) rfl (by kernel_rfl) (by kernel_rfl) (by kernel_rfl) (fun _ _ _ h => h) (Or.inl ⟨by rfl, ?_⟩) (by assumption) ?_
        (rotate_left); (focus (intro wv hSw; (have qB := hSw);  go_simp; (try with_reducible rfl)))
        try simp only [Act.put, List.getElem_toArray, List.getElem_cons_succ, List.getElem_cons_zero, List.setIfInBounds_toArray, List.set_cons_zero, List.set_cons_succ]
        refine wpAnyH_ready (rs := [18]) (by kernel_rfl) (by simp) ?_
        refine AllReadyH.cons (o := _) rfl (fun K hK => ?_) AllReadyH.nil
        go_simp
        refine hK.out _ _ (hB_0c) (fun hHeld => ?_)
        clear hK K
        try simp only [Act.put, List.getElem_toArray, List.getElem_cons_succ, List.getElem_cons_zero, List.setIfInBounds_toArray, List.set_cons_zero, List.set_cons_succ]
        have hB_0cl := id hHeld
        refine wpAnyH_take (i := 19) (oi := _) (v := ?_) rfl (by kernel_rfl) (by kernel_rfl) (by kernel_rfl) (fun _ _ _ h => h) (Or.inl ⟨by rfl, ?_⟩) (by assumption) ?_
        (rotate_left); (focus (intro wv hSw; (have qB := hSw);  go_simp; (try with_reducible rfl)))
        try simp only [Act.put, List.getElem_toArray, List.getElem_cons_succ, List.getElem_cons_zero, List.setIfInBounds_toArray, List.set_cons_zero, List.set_cons_succ]
        refine wpAnyH_take (i := 20) (oi := _) (v := ?_) rfl (by kernel_rfl) (by kernel_rfl) (by kernel_rfl) (fun _ _ _ h => h) (Or.inl ⟨by rfl, ?_⟩) (by assumption) ?_
        (rotate_left); (focus (intro wv hSw; (have qB := hSw);  go_simp; (try with_reducible rfl)))
        try simp only [Act.put, List.getElem_toArray, List.getElem_cons_succ, List.getElem_cons_zero, List.setIfInBounds_toArray, List.set_cons_zero, List.set_cons_succ]
        obtain ⟨cP0, cP1, cP2, cP3, cP4, cP5, cP6, cP7, cP8, cP9, cP10, cP11, cP12, cP13, cP14, cP15, fP0, fP1, fP2, fP3, fP4, fP5, fP6, fP7, fP8, fP9, fP10, fP11, fP12, fP13, fP14, fP15, zP⟩ := blk16 hP_0c
        refine wpAnyH_ready (rs := [21]) (by kernel_rfl) (by simp) ?_
        refine AllReadyH.cons (o := _) rfl (fun K hK => ?_) AllReadyH.nil
        go_simp
        refine hK.out _ _ (hB_0cl.cell 7 _) (fun hHeld => ?_)
        clear hK K
        try simp only [Act.put, List.getElem_toArray, List.getElem_cons_succ, List.getElem_cons_zero, List.setIfInBounds_toArray, List.set_cons_zero, List.set_cons_succ]
        have hB_0clw := id hHeld
        have hQ := blk16_at7 (v := .int .i64 r) hP_0c
        refine wpAnyH_done (by kernel_rfl) ?_ _
        go_wp2
        go_end0
        exact ⟨rfl, hQ, hB_0clw⟩
      · obtain ⟨cX0, cX1, cX2, cX3, cX4, cX5, cX6, cX7, cX8, cX9, cX10, cX11, cX12, cX13, cX14, cX15, fX0, fX1, fX2, fX3, fX4, fX5, fX6, fX7, fX8, fX9, fX10, fX11, fX12, fX13, fX14, fX15, zX⟩ := blk16 hP_xca
        go_simp
        refine hK.out _ _ hB_xca (fun hHeld => ?_)
        clear hK K
        try simp only [Act.put, List.getElem_toArray, List.getElem_cons_succ, List.getElem_cons_zero, List.setIfInBounds_toArray, List.set_cons_zero, List.set_cons_succ]
        have hB_xcab := id hHeld
        have hP_xcab := hP_xca
        clear cX0 fX0 cX1 fX1 cX2 fX2 cX3 fX3 cX4 fX4 cX5 fX5 cX6 fX6 cX7 fX7 cX8 fX8 cX9 fX9 cX10 fX10 cX11 fX11 cX12 fX12 cX13 fX13 cX14 fX14 cX15 fX15 zX
        refine wpAnyH_ready (rs := [7]) (by kernel_rfl) (by simp) ?_
        refine AllReadyH.cons (o := _) rfl (fun K hK => ?_) (AllReadyH.nil)
        go_simp
        refine hK.out _ _ (hB_xcab.alloc _) (fun hHeld => ?_)
        clear hK K
        try simp only [Act.put, List.getElem_toArray, List.getElem_cons_succ, List.getElem_cons_zero, List.setIfInBounds_toArray, List.set_cons_zero, List.set_cons_succ]
        have hB_xcaba := id hHeld
        have hP_xcaba := blk_old hP_xcab (.cells #[.int .i64 g, .int .i64 ne] 54 (0, 0))
        have hG : SBlk encHour (w.alloc (.cells #[.int .i64 g, .int .i64 ne] 54 (0, 0))).drew w.heap.size 54 [(g, ne)] := blk_new w (.cells #[.int .i64 g, .int .i64 ne] 54 (0, 0))
        have hP_0 := blk_drw hP_xcaba
        have hB_0 := hB_xcaba
        have hG_0 := hG
        refine wpAnyH_ready (rs := [16]) (by kernel_rfl) (by simp) ?_
        refine AllReadyH.cons (o := _) rfl (fun K hK => ?_) AllReadyH.nil
        go_simp
        (go_at_call 26; refine (iSr_is (some ⟨w.heap.size, 0, none⟩) 1 [(g, ne)] _ rfl hG_0.row (by simp) HST.out).mono ?_; rintro e x0c ⟨V, cv, rfl, hO9, hw_0c⟩)
        refine hK.out _ _ (hB_0.call hw_0c) (fun hHeld => ?_)
        clear hK K
        try simp only [Act.put, List.getElem_toArray, List.getElem_cons_succ, List.getElem_cons_zero, List.setIfInBounds_toArray, List.set_cons_zero, List.set_cons_succ]
        have hB_0c := id hHeld
        have hP_0c := blk_next hP_0 hw_0c
        obtain ⟨vb, vo, rfl, hvl, hvc⟩ := rowNum hO9.row (i := 0) (by simp)
        simp at hvc
        have hvi : ([r].length : Int) = 1 := rfl
        refine wpAnyH_take (i := 17) (oi := _) (v := ?_) rfl (by kernel_rfl) (by kernel_rfl) (by kernel_rfl) (fun _ _ _ h => h) (Or.inl ⟨by rfl, ?_⟩) (by assumption) ?_
        (rotate_left); (focus (intro wv hSw; (have qB := hSw);  go_simp; (try with_reducible rfl)))
        try simp only [Act.put, List.getElem_toArray, List.getElem_cons_succ, List.getElem_cons_zero, List.setIfInBounds_toArray, List.set_cons_zero, List.set_cons_succ]
        refine wpAnyH_ready (rs := [18]) (by kernel_rfl) (by simp) ?_
        refine AllReadyH.cons (o := _) rfl (fun K hK => ?_) AllReadyH.nil
        go_simp
        refine hK.out _ _ (hB_0c) (fun hHeld => ?_)
        clear hK K
        try simp only [Act.put, List.getElem_toArray, List.getElem_cons_succ, List.getElem_cons_zero, List.setIfInBounds_toArray, List.set_cons_zero, List.set_cons_succ]
        have hB_0cl := id hHeld
        refine wpAnyH_take (i := 19) (oi := _) (v := ?_) rfl (by kernel_rfl) (by kernel_rfl) (by kernel_rfl) (fun _ _ _ h => h) (Or.inl ⟨by rfl, ?_⟩) (by assumption) ?_
        (rotate_left); (focus (intro wv hSw; (have qB := hSw);  go_simp; (try with_reducible rfl)))
        try simp only [Act.put, List.getElem_toArray, List.getElem_cons_succ, List.getElem_cons_zero, List.setIfInBounds_toArray, List.set_cons_zero, List.set_cons_succ]
        refine wpAnyH_take (i := 20) (oi := _) (v := ?_) rfl (by kernel_rfl) (by kernel_rfl) (by kernel_rfl) (fun _ _ _ h => h) (Or.inl ⟨by rfl, ?_⟩) (by assumption) ?_
        (rotate_left); (focus (intro wv hSw; (have qB := hSw);  go_simp; (try with_reducible rfl)))
        try simp only [Act.put, List.getElem_toArray, List.getElem_cons_succ, List.getElem_cons_zero, List.setIfInBounds_toArray, List.set_cons_zero, List.set_cons_succ]
        obtain ⟨cP0, cP1, cP2, cP3, cP4, cP5, cP6, cP7, cP8, cP9, cP10, cP11, cP12, cP13, cP14, cP15, fP0, fP1, fP2, fP3, fP4, fP5, fP6, fP7, fP8, fP9, fP10, fP11, fP12, fP13, fP14, fP15, zP⟩ := blk16 hP_0c
        refine wpAnyH_ready (rs := [21]) (by kernel_rfl) (by simp) ?_
        refine AllReadyH.cons (o := _) rfl (fun K hK => ?_) AllReadyH.nil
        go_simp
        refine hK.out _ _ (hB_0cl.cell 7 _) (fun hHeld => ?_)
        clear hK K
        try simp only [Act.put, List.getElem_toArray, List.getElem_cons_succ, List.getElem_cons_zero, List.setIfInBounds_toArray, List.set_cons_zero, List.set_cons_succ]
        have hB_0clw := id hHeld
        have hQ := blk16_at7 (v := .int .i64 r) hP_0c
        refine wpAnyH_done (by kernel_rfl) ?_ _
        go_wp2
        go_end0
        exact ⟨rfl, hQ, hB_0clw⟩
    · obtain ⟨cX0, cX1, cX2, cX3, cX4, cX5, cX6, cX7, cX8, cX9, cX10, cX11, cX12, cX13, cX14, cX15, fX0, fX1, fX2, fX3, fX4, fX5, fX6, fX7, fX8, fX9, fX10, fX11, fX12, fX13, fX14, fX15, zX⟩ := blk16 hP_xc
      go_simp
      refine hK.out _ _ hB_xc (fun hHeld => ?_)
      clear hK K
      try simp only [Act.put, List.getElem_toArray, List.getElem_cons_succ, List.getElem_cons_zero, List.setIfInBounds_toArray, List.set_cons_zero, List.set_cons_succ]
      have hB_xcb := id hHeld
      have hP_xcb := hP_xc
      clear cX0 fX0 cX1 fX1 cX2 fX2 cX3 fX3 cX4 fX4 cX5 fX5 cX6 fX6 cX7 fX7 cX8 fX8 cX9 fX9 cX10 fX10 cX11 fX11 cX12 fX12 cX13 fX13 cX14 fX14 cX15 fX15 zX
      refine wpAnyH_ready (rs := [5]) (by kernel_rfl) (by simp) ?_
      refine AllReadyH.cons (o := _) rfl (fun K hK => ?_) (AllReadyH.nil)
      obtain ⟨cX0, cX1, cX2, cX3, cX4, cX5, cX6, cX7, cX8, cX9, cX10, cX11, cX12, cX13, cX14, cX15, fX0, fX1, fX2, fX3, fX4, fX5, fX6, fX7, fX8, fX9, fX10, fX11, fX12, fX13, fX14, fX15, zX⟩ := blk16 hP_xcb
      go_simp
      refine hK.out _ _ hB_xcb (fun hHeld => ?_)
      clear hK K
      try simp only [Act.put, List.getElem_toArray, List.getElem_cons_succ, List.getElem_cons_zero, List.setIfInBounds_toArray, List.set_cons_zero, List.set_cons_succ]
      have hB_xcba := id hHeld
      have hP_xcba := hP_xcb
      clear cX0 fX0 cX1 fX1 cX2 fX2 cX3 fX3 cX4 fX4 cX5 fX5 cX6 fX6 cX7 fX7 cX8 fX8 cX9 fX9 cX10 fX10 cX11 fX11 cX12 fX12 cX13 fX13 cX14 fX14 cX15 fX15 zX
      refine wpAnyH_take (i := 6) (oi := _) (v := ?_) rfl (by kernel_rfl) (by kernel_rfl) (by kernel_rfl) (fun _ _ _ h => h) (Or.inl ⟨by rfl, ?_⟩) (by assumption) ?_
      (rotate_left); (focus (intro wv hSw; go_simp; (try with_reducible rfl)))
      try simp only [Act.put, List.getElem_toArray, List.getElem_cons_succ, List.getElem_cons_zero, List.setIfInBounds_toArray, List.set_cons_zero, List.set_cons_succ]
      refine wpAnyH_ready (rs := [7]) (by kernel_rfl) (by simp) ?_
      refine AllReadyH.cons (o := _) rfl (fun K hK => ?_) (AllReadyH.nil)
      go_simp
      refine hK.out _ _ (hB_xcba.alloc _) (fun hHeld => ?_)
      clear hK K
      try simp only [Act.put, List.getElem_toArray, List.getElem_cons_succ, List.getElem_cons_zero, List.setIfInBounds_toArray, List.set_cons_zero, List.set_cons_succ]
      have hB_xcbaa := id hHeld
      have hP_xcbaa := blk_old hP_xcba (.cells #[.int .i64 g, .int .i64 ne] 54 (0, 0))
      have hG : SBlk encHour (w.alloc (.cells #[.int .i64 g, .int .i64 ne] 54 (0, 0))).drew w.heap.size 54 [(g, ne)] := blk_new w (.cells #[.int .i64 g, .int .i64 ne] 54 (0, 0))
      have hP_0 := blk_drw hP_xcbaa
      have hB_0 := hB_xcbaa
      have hG_0 := hG
      refine wpAnyH_ready (rs := [16]) (by kernel_rfl) (by simp) ?_
      refine AllReadyH.cons (o := _) rfl (fun K hK => ?_) AllReadyH.nil
      go_simp
      (go_at_call 26; refine (iSr_is (some ⟨w.heap.size, 0, none⟩) 1 [(g, ne)] _ rfl hG_0.row (by simp) HST.out).mono ?_; rintro e x0c ⟨V, cv, rfl, hO9, hw_0c⟩)
      refine hK.out _ _ (hB_0.call hw_0c) (fun hHeld => ?_)
      clear hK K
      try simp only [Act.put, List.getElem_toArray, List.getElem_cons_succ, List.getElem_cons_zero, List.setIfInBounds_toArray, List.set_cons_zero, List.set_cons_succ]
      have hB_0c := id hHeld
      have hP_0c := blk_next hP_0 hw_0c
      obtain ⟨vb, vo, rfl, hvl, hvc⟩ := rowNum hO9.row (i := 0) (by simp)
      simp at hvc
      have hvi : ([r].length : Int) = 1 := rfl
      refine wpAnyH_take (i := 17) (oi := _) (v := ?_) rfl (by kernel_rfl) (by kernel_rfl) (by kernel_rfl) (fun _ _ _ h => h) (Or.inl ⟨by rfl, ?_⟩) (by assumption) ?_
      (rotate_left); (focus (intro wv hSw; (have qB := hSw);  go_simp; (try with_reducible rfl)))
      try simp only [Act.put, List.getElem_toArray, List.getElem_cons_succ, List.getElem_cons_zero, List.setIfInBounds_toArray, List.set_cons_zero, List.set_cons_succ]
      refine wpAnyH_ready (rs := [18]) (by kernel_rfl) (by simp) ?_
      refine AllReadyH.cons (o := _) rfl (fun K hK => ?_) AllReadyH.nil
      go_simp
      refine hK.out _ _ (hB_0c) (fun hHeld => ?_)
      clear hK K
      try simp only [Act.put, List.getElem_toArray, List.getElem_cons_succ, List.getElem_cons_zero, List.setIfInBounds_toArray, List.set_cons_zero, List.set_cons_succ]
      have hB_0cl := id hHeld
      refine wpAnyH_take (i := 19) (oi := _) (v := ?_) rfl (by kernel_rfl) (by kernel_rfl) (by kernel_rfl) (fun _ _ _ h => h) (Or.inl ⟨by rfl, ?_⟩) (by assumption) ?_
      (rotate_left); (focus (intro wv hSw; (have qB := hSw);  go_simp; (try with_reducible rfl)))
      try simp only [Act.put, List.getElem_toArray, List.getElem_cons_succ, List.getElem_cons_zero, List.setIfInBounds_toArray, List.set_cons_zero, List.set_cons_succ]
      refine wpAnyH_take (i := 20) (oi := _) (v := ?_) rfl (by kernel_rfl) (by kernel_rfl) (by kernel_rfl) (fun _ _ _ h => h) (Or.inl ⟨by rfl, ?_⟩) (by assumption) ?_
      (rotate_left); (focus (intro wv hSw; (have qB := hSw);  go_simp; (try with_reducible rfl)))
      try simp only [Act.put, List.getElem_toArray, List.getElem_cons_succ, List.getElem_cons_zero, List.setIfInBounds_toArray, List.set_cons_zero, List.set_cons_succ]
      obtain ⟨cP0, cP1, cP2, cP3, cP4, cP5, cP6, cP7, cP8, cP9, cP10, cP11, cP12, cP13, cP14, cP15, fP0, fP1, fP2, fP3, fP4, fP5, fP6, fP7, fP8, fP9, fP10, fP11, fP12, fP13, fP14, fP15, zP⟩ := blk16 hP_0c
      refine wpAnyH_ready (rs := [21]) (by kernel_rfl) (by simp) ?_
      refine AllReadyH.cons (o := _) rfl (fun K hK => ?_) AllReadyH.nil
      go_simp
      refine hK.out _ _ (hB_0cl.cell 7 _) (fun hHeld => ?_)
      clear hK K
      try simp only [Act.put, List.getElem_toArray, List.getElem_cons_succ, List.getElem_cons_zero, List.setIfInBounds_toArray, List.set_cons_zero, List.set_cons_succ]
      have hB_0clw := id hHeld
      have hQ := blk16_at7 (v := .int .i64 r) hP_0c
      refine wpAnyH_done (by kernel_rfl) ?_ _
      go_wp2
      go_end0
      exact ⟨rfl, hQ, hB_0clw⟩
end Go.Proofs.YtbklgpghonigjaaGreat
