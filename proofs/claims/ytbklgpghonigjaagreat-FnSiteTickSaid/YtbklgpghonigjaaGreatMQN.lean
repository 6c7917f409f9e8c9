/- QN: texts joined. -/
import Derived.Test.YtbklgpghonigjaaGreatRows
import Derived.Test.YtbklgpghonigjaaGreatMQA
import Derived.IntWalk
namespace Go.Proofs.YtbklgpghonigjaaGreat
open Go.ChangeShapes Go.WideShapes Go.ChangeAt Go.RowKit
set_option linter.unusedSimpArgs false
theorem bits_xor_i64_nat (a b : Nat) (ha : a < 9223372036854775808) (hb : b < 9223372036854775808) :
    bits .xor .i64 (a : Int) (b : Int) = ((a ^^^ b : Nat) : Int) := by
  have hx : a ^^^ b < 2 ^ 63 := Nat.xor_lt_two_pow (by omega) (by omega)
  have h1 : (BitVec.ofInt 64 (a : Int)).toNat = a := by
    rw [BitVec.ofInt_natCast, BitVec.toNat_ofNat]; exact Nat.mod_eq_of_lt (by omega)
  have h2 : (BitVec.ofInt 64 (b : Int)).toNat = b := by
    rw [BitVec.ofInt_natCast, BitVec.toNat_ofNat]; exact Nat.mod_eq_of_lt (by omega)
  show IntKind.i64.wrap ((BitVec.ofInt 64 (a : Int) ^^^ BitVec.ofInt 64 (b : Int)).toNat : Int) = _
  rw [BitVec.toNat_xor, h1, h2, IntKind.wrap_i64]
  omega
theorem xor_nonneg (x : Int) (h0 : 0 ≤ x) (h1 : x ≤ 1000000000) : 0 ≤ bits .xor .i64 x (x / 64) := by
  obtain ⟨X, rfl⟩ := Int.eq_ofNat_of_zero_le h0
  have d : ((X : Int) / 64) = ((X / 64 : Nat) : Int) := by omega
  rw [d, bits_xor_i64_nat _ _ (by omega) (by omega)]
  omega
/-- The bytes of a slice can be read. -/
def Rdb (w : World) (b off len : Nat) : Prop := ∀ i, i < len → ∃ v : Int, w.cell? ⟨b, off + i, none⟩ = some (.int .u8 v) ∧ 0 ≤ v ∧ v ≤ 255
def Picked (B : Nat) (p n : Int) (w : World) (e : Ending) (w' : World) : Prop :=
  ∃ k : Int, e = .returned (.int .i64 k) ∧ (1 ≤ n → 0 ≤ k ∧ k < n) ∧ (n < 1 → k = 0) ∧ ∃ m, w' = (w.setCell ⟨B, 1, none⟩ (.int .i64 (p + 1))).drewN m
theorem pick_in (B b off len cap : Nat) (p n : Int) (w : World) (h0 : w.cell? ⟨B, 0, none⟩ = some (.slice (some ⟨b, off, none⟩) len cap)) (h1 : w.cell? ⟨B, 1, none⟩ = some (.int .i64 p)) (hf : w.frozen? ⟨B, 1, none⟩ = false) (hb : Rdb w b off len) (hne : b ≠ B)
    (hp0 : 0 ≤ p) (hp1 : p ≤ 1000000) (hn : 1 ≤ n) (hn1 : n ≤ 1000000) (hl : len ≤ 2000) (hpl : p < len) :
    Calls Tryz.prog 62 #[.pointer (some ⟨B, 0, none⟩), .int .i64 n] w (Picked B p n w) := by
  obtain ⟨v, hv, v0, v1⟩ := hb p.toNat (by omega)
  have hv' : (w.setCell ⟨B, 1, none⟩ (.int .i64 (p + 1))).cell? ⟨b, off + p.toNat, none⟩ = some (.int .u8 v) := by
    rw [World.cell?_setCell_far _ _ _ _ (fun e => hne e.symm)]; exact hv
  have hlen : ((len : Int) == 0) = false := by rw [beq_eq_false_iff_ne]; omega
  clear hb hv
  go_enter Tryz.func62, Tryz.ntmps62
  go_wp2
  go_ret
  have := Int.emod_nonneg v (b := n) (by omega)
  have := Int.emod_lt_of_pos v (b := n) (by omega)
  exact ⟨v % n, rfl, fun _ => ⟨by omega, by omega⟩, by omega, 0, rfl⟩
theorem pick_none (B : Nat) (a : Option Addr) (cap : Nat) (p n : Int) (w : World) (h0 : w.cell? ⟨B, 0, none⟩ = some (.slice a 0 cap)) (h1 : w.cell? ⟨B, 1, none⟩ = some (.int .i64 p)) (hf : w.frozen? ⟨B, 1, none⟩ = false)
    (hp0 : 0 ≤ p) (hp1 : p ≤ 1000000) (hn : 1 ≤ n) :
    Calls Tryz.prog 62 #[.pointer (some ⟨B, 0, none⟩), .int .i64 n] w (Picked B p n w) := by
  go_enter Tryz.func62, Tryz.ntmps62
  go_wp2
  go_ret
  exact ⟨0, rfl, fun _ => ⟨by omega, by omega⟩, by omega, 0, rfl⟩
set_option maxHeartbeats 2000000 in
theorem pick_far (B b off len cap : Nat) (p n : Int) (w : World) (h0 : w.cell? ⟨B, 0, none⟩ = some (.slice (some ⟨b, off, none⟩) len cap)) (h1 : w.cell? ⟨B, 1, none⟩ = some (.int .i64 p)) (hf : w.frozen? ⟨B, 1, none⟩ = false) (hb : Rdb w b off len) (hne : b ≠ B)
    (hp0 : 0 ≤ p) (hp1 : p ≤ 1000000) (hn : 1 ≤ n) (hn1 : n ≤ 1000000) (hl : len ≤ 2000) (hl0 : 0 < len) (hpl : ¬ p < len) :
    Calls Tryz.prog 62 #[.pointer (some ⟨B, 0, none⟩), .int .i64 n] w (Picked B p n w) := by
  have hi0 := Int.emod_nonneg p (b := len) (by omega)
  have hi1 := Int.emod_lt_of_pos p (b := len) (by omega)
  have hj0 := Int.emod_nonneg (p * 7 + 3) (b := len) (by omega)
  have hj1 := Int.emod_lt_of_pos (p * 7 + 3) (b := len) (by omega)
  have hq0 : 0 ≤ p / len := Int.ediv_nonneg hp0 (by omega)
  have hq1 : p / len ≤ p := Int.ediv_le_self _ hp0
  obtain ⟨v, hv, v0, v1⟩ := hb (p % len).toNat (by omega)
  obtain ⟨u, hu, u0, u1⟩ := hb ((p * 7 + 3) % len).toNat (by omega)
  have hv' : (w.setCell ⟨B, 1, none⟩ (.int .i64 (p + 1))).cell? ⟨b, off + (p % len).toNat, none⟩ = some (.int .u8 v) := by
    rw [World.cell?_setCell_far _ _ _ _ (fun e => hne e.symm)]; exact hv
  have hu' : (w.setCell ⟨B, 1, none⟩ (.int .i64 (p + 1))).cell? ⟨b, off + ((p * 7 + 3) % len).toNat, none⟩ = some (.int .u8 u) := by
    rw [World.cell?_setCell_far _ _ _ _ (fun e => hne e.symm)]; exact hu
  have hlen : ((len : Int) == 0) = false := by rw [beq_eq_false_iff_ne]; omega
  clear hb hv hu
  go_enter Tryz.func62, Tryz.ntmps62
  go_wp2
  go_quiet (fail)
  go_wp2
  go_ret
  have hx0 := xor_nonneg (v * 131 + u * 1117 + p * 29 + p / len * 53) (by omega) (by omega)
  refine ⟨_, rfl, fun _ => ?_, by omega, nq, rfl⟩
  rw [Int.tmod_eq_emod_of_nonneg hx0]
  exact ⟨Int.emod_nonneg _ (by omega), Int.emod_lt_of_pos _ (by omega)⟩
end Go.Proofs.YtbklgpghonigjaaGreat
namespace Go.Proofs.YtbklgpghonigjaaGreat
open Go.ChangeShapes Go.WideShapes Go.ChangeAt Go.RowKit
set_option linter.unusedSimpArgs false
/-- New blocks, and writes to block B alone. -/
structure Ext (B : Nat) (w w' : World) : Prop where
  os : w'.os = w.os
  tape : w'.tape = w.tape
  output : w'.output = w.output
  size : w.heap.size ≤ w'.heap.size
  block : ∀ k, k < w.heap.size → k ≠ B → w'.heap[k]? = w.heap[k]?
theorem Ext.refl (B : Nat) (w : World) : Ext B w w := ⟨rfl, rfl, rfl, Nat.le_refl _, fun _ _ _ => rfl⟩
theorem Ext.trans {B : Nat} {a b c : World} (h : Ext B a b) (k : Ext B b c) : Ext B a c :=
  ⟨k.os.trans h.os, k.tape.trans h.tape, k.output.trans h.output, Nat.le_trans h.size k.size, fun i hi hb => (k.block i (Nat.lt_of_lt_of_le hi h.size) hb).trans (h.block i hi hb)⟩
theorem Ext.alloc {B : Nat} {a w : World} (h : Ext B a w) (o : Obj) : Ext B a (w.alloc o) :=
  h.trans ⟨rfl, rfl, rfl, by simp, fun k hk _ => Below.heap_alloc _ _ _ hk⟩
theorem Ext.drewN {B : Nat} {a w : World} (h : Ext B a w) (n : Nat) : Ext B a (w.drewN n) := ⟨h.os, h.tape, h.output, h.size, h.block⟩
theorem Ext.setCell {B : Nat} {a w : World} (h : Ext B a w) (o : Nat) (v : Value) : Ext B a (w.setCell ⟨B, o, none⟩ v) :=
  h.trans ⟨rfl, rfl, rfl, by simp [World.setCell], fun k _ hb => Below.heap_setCell _ _ _ _ hb⟩
theorem Ext.below {B N : Nat} {a w : World} (h : Ext B a w) (hB : N ≤ B) (hN : N ≤ a.heap.size) : Below N a w :=
  ⟨h.os, h.tape, h.output, h.size, fun k hk => h.block k (by omega) (by omega)⟩
theorem blk_ext {B k : Nat} {w w' : World} {o : Obj} (h : w.heap[k]? = some o) (hw : Ext B w w') (hk : k ≠ B) : w'.heap[k]? = some o := by
  rw [hw.block k (blk_lt h) hk]; exact h
/-- At block B lies a reader that has been asked at most u times. -/
def RdU (B : Nat) (u : Int) (w : World) : Prop :=
  ∃ sl : Value, ∃ p : Int, w.heap[B]? = some (.cells #[sl, .int .i64 p] 108 (0, 0)) ∧ 0 ≤ p ∧ p ≤ u ∧
    ((∃ a cap, sl = .slice a 0 cap) ∨ ∃ b off len cap, sl = .slice (some ⟨b, off, none⟩) len cap ∧ 0 < len ∧ len ≤ 2000 ∧ b < B ∧ Rdb w b off len)
theorem RdU.mono {B : Nat} {u u' : Int} {w : World} (h : RdU B u w) (hu : u ≤ u') : RdU B u' w := by
  obtain ⟨sl, p, h1, h2, h3, h4⟩ := h
  exact ⟨sl, p, h1, h2, Int.le_trans h3 hu, h4⟩
theorem RdU.lt {B : Nat} {u : Int} {w : World} (h : RdU B u w) : B < w.heap.size := by
  obtain ⟨sl, p, h1, _⟩ := h; exact blk_lt h1
theorem rdb_below {w w' : World} {b off len : Nat} (h : Rdb w b off len) (hw : Below w.heap.size w w') : Rdb w' b off len := by
  intro i hi
  obtain ⟨v, h1, h2⟩ := h i hi
  exact ⟨v, by rw [hw.cell (p := ⟨b, off + i, none⟩) (World.block_lt_of_cell? w _ h1)]; exact h1, h2⟩
theorem RdU.next {B : Nat} {u : Int} {w w' : World} (h : RdU B u w) (hw : Below w.heap.size w w') : RdU B u w' := by
  obtain ⟨sl, p, h1, h2, h3, h4⟩ := h
  refine ⟨sl, p, blk_next h1 hw, h2, h3, ?_⟩
  rcases h4 with h4 | ⟨b, off, len, cap, e, k1, k2, k3, k4⟩
  · exact .inl h4
  · exact .inr ⟨b, off, len, cap, e, k1, k2, k3, rdb_below k4 hw⟩
theorem RdU.alloc {B : Nat} {u : Int} {w : World} (h : RdU B u w) (o : Obj) : RdU B u (w.alloc o) := h.next (bel1 w o)
theorem rd_set {w : World} {B : Nat} {x y v : Value} {t : TypeId} (h : w.heap[B]? = some (.cells #[x, y] t (0, 0))) : (w.setCell ⟨B, 1, none⟩ v).heap[B]? = some (.cells #[x, v] t (0, 0)) := by
  have hlt := blk_lt h
  have h' : w.heap[B] = .cells #[x, y] t (0, 0) := by simpa [Array.getElem?_eq_getElem hlt] using h
  show (w.heap.modify B _)[B]? = _
  rw [Array.getElem?_eq_getElem (by simpa using hlt), Array.getElem_modify_self, h']
  rfl
def PickIs (B : Nat) (u n : Int) (w : World) (e : Ending) (w' : World) : Prop :=
  ∃ k : Int, e = .returned (.int .i64 k) ∧ 0 ≤ k ∧ k < n ∧ RdU B (u + 1) w' ∧ Ext B w w'
theorem pick_any (B : Nat) (u n : Int) (w : World) (h : RdU B u w) (hu : u ≤ 1000000) (hn : 1 ≤ n) (hn1 : n ≤ 1000000) :
    Calls Tryz.prog 62 #[.pointer (some ⟨B, 0, none⟩), .int .i64 n] w (PickIs B u n w) := by
  obtain ⟨sl, p, h1, p0, p1, h4⟩ := h
  obtain ⟨c0, c1, f0, f1, hz⟩ := blk2 h1
  rcases h4 with ⟨a, cap, rfl⟩ | ⟨b, off, len, cap, rfl, l0, l1, hne, hb⟩
  · refine (pick_none B a cap p n w c0 c1 f1 p0 (by omega) hn).mono ?_
    rintro e w' ⟨k, rfl, hk, _, m, rfl⟩
    exact ⟨k, rfl, (hk hn).1, (hk hn).2, ⟨_, p + 1, rd_set h1, by omega, by omega, .inl ⟨a, cap, rfl⟩⟩, ((Ext.refl _ _).setCell _ _).drewN _⟩
  · have hne' : b ≠ B := by omega
    have hb' : ∀ m : Nat, Rdb ((w.setCell ⟨B, 1, none⟩ (.int .i64 (p + 1))).drewN m) b off len := by
      intro m i hi
      obtain ⟨v, g1, g2⟩ := hb i hi
      refine ⟨v, ?_, g2⟩
      show (w.setCell ⟨B, 1, none⟩ (.int .i64 (p + 1))).cell? ⟨b, off + i, none⟩ = _
      rw [World.cell?_setCell_far _ _ _ _ (fun e => hne' e.symm)]; exact g1
    by_cases hpl : p < len
    · refine (pick_in B b off len cap p n w c0 c1 f1 hb hne' p0 (by omega) hn hn1 l1 hpl).mono ?_
      rintro e w' ⟨k, rfl, hk, _, m, rfl⟩
      exact ⟨k, rfl, (hk hn).1, (hk hn).2, ⟨_, p + 1, rd_set h1, by omega, by omega, .inr ⟨b, off, len, cap, rfl, l0, l1, hne, hb' m⟩⟩, ((Ext.refl _ _).setCell _ _).drewN _⟩
    · refine (pick_far B b off len cap p n w c0 c1 f1 hb hne' p0 (by omega) hn hn1 l1 l0 hpl).mono ?_
      rintro e w' ⟨k, rfl, hk, _, m, rfl⟩
      exact ⟨k, rfl, (hk hn).1, (hk hn).2, ⟨_, p + 1, rd_set h1, by omega, by omega, .inr ⟨b, off, len, cap, rfl, l0, l1, hne, hb' m⟩⟩, ((Ext.refl _ _).setCell _ _).drewN _⟩
theorem blk_setOther {w : World} {k C i : Nat} {o : Obj} (h : w.heap[k]? = some o) (hne : k ≠ C) (v : Value) : (w.setCell ⟨C, i, none⟩ v).heap[k]? = some o := by
  rw [Below.heap_setCell _ _ _ _ hne]; exact h
theorem RdU.setOther {B : Nat} {u : Int} {w : World} (h : RdU B u w) {C i : Nat} (hC : B < C) (v : Value) : RdU B u (w.setCell ⟨C, i, none⟩ v) := by
  obtain ⟨sl, p, h1, h2, h3, h4⟩ := h
  refine ⟨sl, p, blk_setOther h1 (by omega) v, h2, h3, ?_⟩
  rcases h4 with h4 | ⟨b, off, len, cap, e, k1, k2, k3, k4⟩
  · exact .inl h4
  · refine .inr ⟨b, off, len, cap, e, k1, k2, k3, fun j hj => ?_⟩
    obtain ⟨q, g1, g2⟩ := k4 j hj
    exact ⟨q, by rw [World.cell?_setCell_far _ _ _ _ (by show C ≠ b; omega)]; exact g1, g2⟩
theorem Ext.setNew {B : Nat} {a w : World} (h : Ext B a w) {C : Nat} (hC : a.heap.size ≤ C) (i : Nat) (v : Value) : Ext B a (w.setCell ⟨C, i, none⟩ v) :=
  ⟨h.os, h.tape, h.output, by simpa [World.setCell] using h.size, fun k hk hb => by rw [Below.heap_setCell _ _ _ _ (by show k ≠ C; omega)]; exact h.block k hk hb⟩
/-- The code, as a law has it: bytes that can be read. -/
def CodeOk (w : World) (a : Option Addr) (len cap : Nat) : Prop := len ≤ cap ∧ cap ≤ maxLen ∧ (len = 0 ∨ ∃ b off, a = some ⟨b, off, none⟩ ∧ Rdb w b off len)
theorem code_nil (w : World) : CodeOk w none 0 0 := ⟨Nat.le_refl _, Nat.zero_le _, .inl rfl⟩
theorem code_ok {w : World} {x : Addr} {len cap : Nat} {zs : List Int} (hl : len ≤ cap) (hm : cap ≤ maxLen) (hz : len ≤ zs.length) (hcell : ∀ i, i < zs.length → w.cell? (x.add i) = some (.int .u8 (zs.getD i 0))) (hwz : ∀ n ∈ zs, (Lit.int .u8 n).wf = true) :
    CodeOk w (some x) len cap := by
  refine ⟨hl, hm, ?_⟩
  by_cases h0 : len = 0
  · exact .inl h0
  · right
    obtain ⟨b, off, sp⟩ := x
    have hsp : sp = none := by
      have h := hcell 0 (by omega)
      cases sp with
      | none => rfl
      | some q =>
        simp only [Addr.add, if_true, World.cell?] at h
        split at h <;> simp at h
    subst hsp
    refine ⟨b, off, rfl, fun i hi => ⟨zs.getD i 0, ?_, ?_⟩⟩
    · have h := hcell i (by omega)
      unfold Addr.add at h
      split at h
      · rename_i e; subst e; exact h
      · exact h
    · refine bounds_u8 (hwz _ ?_)
      rw [List.getD_eq_getElem?_getD, List.getElem?_eq_getElem (by omega)]
      exact List.getElem_mem _
def OpenIs (w : World) (e : Ending) (w' : World) : Prop := ∃ B : Nat, e = .returned (.pointer (some ⟨B, 0, none⟩)) ∧ w.heap.size ≤ B ∧ RdU B 0 w' ∧ Below w.heap.size w w'
theorem open_any (a : Option Addr) (len cap : Nat) (w : World) (h : CodeOk w a len cap) :
    Calls Tryz.prog 44 #[.slice a len cap] w (OpenIs w) := by
  obtain ⟨h1, h2, h3⟩ := h
  unfold maxLen at h2
  rcases h3 with rfl | ⟨b, off, rfl, h3⟩
  · go_enter Tryz.func44, Tryz.ntmps44
    go_wp2
    go_ret
    exact ⟨w.heap.size, rfl, Nat.le_refl _, ⟨_, 0, blk_new _ _, by omega, by omega, .inl ⟨_, _, rfl⟩⟩, bel1 _ _⟩
  · have hne : 0 < len → b < w.heap.size := by
      intro h0
      obtain ⟨v, g, _⟩ := h3 0 h0
      have := World.block_lt_of_cell? w _ g
      simpa using this
    have hr : ∀ o : Obj, Rdb (w.alloc o) b off len := fun o => rdb_below h3 (bel1 w o)
    by_cases hl : 2000 < len
    · have HR := Lib.hid (And.intro hne hr)
      clear hne hr h3
      go_enter Tryz.func44, Tryz.ntmps44
      go_wp2
      go_ret
      exact ⟨w.heap.size, rfl, Nat.le_refl _, ⟨_, 0, blk_new _ _, by omega, by omega, .inr ⟨b, off, 2000, _, rfl, by omega, by omega, HR.out.1 (by omega), fun i hi => HR.out.2 _ i (by omega)⟩⟩, bel1 _ _⟩
    · have HR := Lib.hid (And.intro hne hr)
      clear hne hr h3
      go_enter Tryz.func44, Tryz.ntmps44
      go_wp2
      go_ret
      by_cases h0 : len = 0
      · subst h0
        exact ⟨w.heap.size, rfl, Nat.le_refl _, ⟨_, 0, blk_new _ _, by omega, by omega, .inl ⟨_, _, rfl⟩⟩, bel1 _ _⟩
      · exact ⟨w.heap.size, rfl, Nat.le_refl _, ⟨_, 0, blk_new _ _, by omega, by omega, .inr ⟨b, off, len, _, rfl, by omega, by omega, HR.out.1 (by omega), HR.out.2 _⟩⟩, bel1 _ _⟩
/-- A literal slice of numbers, read at a place within it. -/
theorem blk_int_at {w : World} {b : Nat} {t : TypeId} (zs : List Int) (h : w.heap[b]? = some (.cells (zs.map (Value.int .i64)).toArray t (0, 0))) (lo hi : Int) (hz : ∀ z ∈ zs, lo ≤ z ∧ z ≤ hi) (i : Nat) (hi' : i < zs.length) :
    ∃ v : Int, w.cell? ⟨b, i, none⟩ = some (.int .i64 v) ∧ lo ≤ v ∧ v ≤ hi := by
  refine ⟨zs[i], ?_, hz _ (List.getElem_mem hi')⟩
  simp [World.cell?, h, hi']
def BoolIs (B : Nat) (u : Int) (w : World) (e : Ending) (w' : World) : Prop :=
  ∃ b : Bool, e = .returned (.bool b) ∧ RdU B u w' ∧ Ext B w w'
theorem odd_any (B : Nat) (u n : Int) (w : World) (h : RdU B u w) (hu : u ≤ 900000) (hn : 1 ≤ n) (hn1 : n ≤ 1000000) :
    Calls Tryz.prog 85 #[.pointer (some ⟨B, 0, none⟩), .int .i64 n] w (BoolIs B (u + 1) w) := by
  go_enter Tryz.func85, Tryz.ntmps85
  go_wp2_with fail
  refine (pick_any B u n _ h (by omega) (by omega) (by omega)).mono ?_; rintro e w1 ⟨k, rfl, k0, k1, h1, hx1⟩
  go_wp2
  go_ret
  exact ⟨_, rfl, h1, hx1⟩
theorem odd0_any (B : Nat) (u n : Int) (w : World) (h : RdU B u w) (hu : u ≤ 900000) (hn : 0 ≤ n) (hn1 : n ≤ 1000000) :
    Calls Tryz.prog 85 #[.pointer (some ⟨B, 0, none⟩), .int .i64 n] w (BoolIs B (u + 1) w) := by
  by_cases h1 : 1 ≤ n
  · exact odd_any B u n w h hu h1 hn1
  · have hd : ¬ (0 : Int) < n := by omega
    go_enter Tryz.func85, Tryz.ntmps85
    go_wp2
    go_ret
    exact ⟨_, rfl, h.mono (by omega), Ext.refl _ _⟩
theorem code_below {w w' : World} {a : Option Addr} {len cap : Nat} (h : CodeOk w a len cap) (hw : Below w.heap.size w w') : CodeOk w' a len cap := by
  obtain ⟨h1, h2, h3⟩ := h
  refine ⟨h1, h2, ?_⟩
  rcases h3 with h3 | ⟨b, off, e, h3⟩
  · exact .inl h3
  · exact .inr ⟨b, off, e, rdb_below h3 hw⟩
end Go.Proofs.YtbklgpghonigjaaGreat
namespace Go.Proofs.YtbklgpghonigjaaGreat
def inB (n a b : Int) : Bool := decide (a ≤ n ∧ n ≤ b)
theorem inB_t {n a b : Int} (h1 : a ≤ n) (h2 : n ≤ b) : inB n a b = true := by simp [inB, h1, h2]
theorem inB_f {n a b : Int} (h : ¬ (a ≤ n ∧ n ≤ b)) : inB n a b = false := by simp only [inB]; simpa using h
def leapB (y : Int) : Bool := decide (1 ≤ y ∧ y ≤ 4000) && decide (y % 4 = 0 ∧ (y % 100 ≠ 0 ∨ y % 400 = 0))
end Go.Proofs.YtbklgpghonigjaaGreat
namespace Go.Proofs.YtbklgpghonigjaaGreat
open Go.ChangeShapes Go.WideShapes Go.ChangeAt Go.RowKit
set_option linter.unusedSimpArgs false
theorem yv_any (n : Int) (w : World) :
    Calls Tryz.prog 98 #[.int .i64 n] w fun e w' => e = .returned (.bool (inB n 1 4000)) ∧ w = w' := by
  go_enter Tryz.func98, Tryz.ntmps98
  go_wp2
  all_goals go_ret
  all_goals exact ⟨ret_bool (by rw [Bool.eq_iff_iff]; simp [inB]; omega), rfl⟩
theorem iLeap_any (y : Int) (w : World) :
    Calls Tryz.prog 49 #[.int .i64 y] w fun e w' => e = .returned (.bool (leapB y)) ∧ w = w' := by
  by_cases hy : 1 ≤ y ∧ y ≤ 4000
  · have hb := inB_t hy.1 hy.2
    obtain ⟨h1, h2⟩ := hy
    go_enter Tryz.func49, Tryz.ntmps49
    go_wp2_with (go_at_call 98; refine (yv_any _ _).mono ?_; rintro e w' ⟨rfl, rfl⟩)
    all_goals go_ret
    all_goals exact ⟨ret_bool (by rw [Bool.eq_iff_iff]; simp [leapB]; omega), rfl⟩
  · have hb := inB_f hy
    go_enter Tryz.func49, Tryz.ntmps49
    go_wp2_with (go_at_call 98; refine (yv_any _ _).mono ?_; rintro e w' ⟨rfl, rfl⟩)
    all_goals go_ret
    all_goals exact ⟨ret_bool (by rw [Bool.eq_iff_iff]; simp [leapB]; omega), rfl⟩
theorem alive_any (w : World) : Calls Tryz.prog 13 #[] w fun e w' => e = .returned (.bool true) ∧ w = w' := by
  have e1 : leapB 2000 = true := by decide
  have e2 : leapB 1900 = false := by decide
  go_enter Tryz.func13, Tryz.ntmps13
  go_wp2_with (go_at_call 49; refine (iLeap_any _ _).mono ?_; rintro e w' ⟨rfl, rfl⟩)
  go_ret
  exact ⟨rfl, rfl⟩
theorem alive_bel (w : World) : Calls Tryz.prog 13 #[] w fun e w' => e = .returned (.bool true) ∧ Below w.heap.size w w' := by
  refine (alive_any w).mono ?_
  rintro e w' ⟨rfl, rfl⟩
  exact ⟨rfl, Below.refl _ _⟩
end Go.Proofs.YtbklgpghonigjaaGreat
