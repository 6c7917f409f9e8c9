/- The reader of a code: what it picks lies in its range, and nothing but its own place moves on. -/
import Derived.Test.YtoklehmoeollfaaRows
import Derived.Test.YtoklehmoeollfaaHelp
import Derived.IntWalk
namespace Go.Proofs.Ytoklehmoeollfaa
open Go.ChangeShapes Go.WideShapes Go.ChangeAt Go.RowKit
set_option linter.unusedSimpArgs false

theorem bits_xor_i64_nat (a b : Nat) (ha : a < 9223372036854775808) (hb : b < 9223372036854775808) :
    bits .xor .i64 (a : Int) (b : Int) = ((a ^^^ b : Nat) : Int) := by
  have hx : a ^^^ b < 2 ^ 63 := Nat.xor_lt_two_pow (by omega) (by omega)
  have h1 : (BitVec.ofInt 64 (a : Int)).toNat = a := by
    rw [BitVec.ofInt_natCast, BitVec.toNat_ofNat]; exact Nat.mod_eq_of_lt (by omega)
  have h2 : (BitVec.ofInt 64 (b : Int)).toNat = b := by
    rw [BitVec.ofInt_natCast, BitVec.toNat_ofNat]; exact Nat.mod_eq_of_lt (by omega)
  show IntKind.i64.wrap ((BitVec.ofInt 64 (a : Int) ^^^ BitVec.ofInt 64 (b : Int)).toNat : Int) = _
  rw [BitVec.toNat_xor, h1, h2, IntKind.wrap_i64]
  omega
theorem xor_nonneg (x : Int) (h0 : 0 ≤ x) (h1 : x ≤ 1000000000) : 0 ≤ bits .xor .i64 x (x / 64) := by
  obtain ⟨X, rfl⟩ := Int.eq_ofNat_of_zero_le h0
  have d : ((X : Int) / 64) = ((X / 64 : Nat) : Int) := by omega
  rw [d, bits_xor_i64_nat _ _ (by omega) (by omega)]
  omega
/-- The bytes of a slice can be read. -/
def Rdb (w : World) (b off len : Nat) : Prop := ∀ i, i < len → ∃ v : Int, w.cell? ⟨b, off + i, none⟩ = some (.int .u8 v) ∧ 0 ≤ v ∧ v ≤ 255
def Picked (B : Nat) (p n : Int) (w : World) (e : Ending) (w' : World) : Prop :=
  ∃ k : Int, e = .returned (.int .i64 k) ∧ (1 ≤ n → 0 ≤ k ∧ k < n) ∧ (n < 1 → k = 0) ∧ ∃ m, w' = (w.setCell ⟨B, 1, none⟩ (.int .i64 (p + 1))).drewN m
theorem pick_low (B : Nat) (p n : Int) (w : World) (h1 : w.cell? ⟨B, 1, none⟩ = some (.int .i64 p)) (hf : w.frozen? ⟨B, 1, none⟩ = false) (hp0 : 0 ≤ p) (hp1 : p ≤ 1000000) (hn : n < 1) :
    Calls Try.prog 41 #[.pointer (some ⟨B, 0, none⟩), .int .i64 n] w (Picked B p n w) := by
  go_enter Try.func41, Try.ntmps41
  go_wp2
  go_ret
  exact ⟨0, rfl, by omega, by omega, 0, rfl⟩
theorem pick_in (B b off len cap : Nat) (p n : Int) (w : World) (h0 : w.cell? ⟨B, 0, none⟩ = some (.slice (some ⟨b, off, none⟩) len cap)) (h1 : w.cell? ⟨B, 1, none⟩ = some (.int .i64 p)) (hf : w.frozen? ⟨B, 1, none⟩ = false) (hb : Rdb w b off len) (hne : b ≠ B)
    (hp0 : 0 ≤ p) (hp1 : p ≤ 1000000) (hn : 1 ≤ n) (hn1 : n ≤ 1000000) (hl : len ≤ 2000) (hpl : p < len) :
    Calls Try.prog 41 #[.pointer (some ⟨B, 0, none⟩), .int .i64 n] w (Picked B p n w) := by
  obtain ⟨v, hv, v0, v1⟩ := hb p.toNat (by omega)
  have hv' : (w.setCell ⟨B, 1, none⟩ (.int .i64 (p + 1))).cell? ⟨b, off + p.toNat, none⟩ = some (.int .u8 v) := by
    rw [World.cell?_setCell_far _ _ _ _ (fun e => hne e.symm)]; exact hv
  have hlen : ((len : Int) == 0) = false := by rw [beq_eq_false_iff_ne]; omega
  clear hb hv
  go_enter Try.func41, Try.ntmps41
  go_wp2
  go_ret
  have := Int.emod_nonneg v (b := n) (by omega)
  have := Int.emod_lt_of_pos v (b := n) (by omega)
  exact ⟨v % n, rfl, fun _ => ⟨by omega, by omega⟩, by omega, 0, rfl⟩
theorem pick_none (B : Nat) (a : Option Addr) (cap : Nat) (p n : Int) (w : World) (h0 : w.cell? ⟨B, 0, none⟩ = some (.slice a 0 cap)) (h1 : w.cell? ⟨B, 1, none⟩ = some (.int .i64 p)) (hf : w.frozen? ⟨B, 1, none⟩ = false)
    (hp0 : 0 ≤ p) (hp1 : p ≤ 1000000) (hn : 1 ≤ n) :
    Calls Try.prog 41 #[.pointer (some ⟨B, 0, none⟩), .int .i64 n] w (Picked B p n w) := by
  go_enter Try.func41, Try.ntmps41
  go_wp2
  go_ret
  exact ⟨0, rfl, fun _ => ⟨by omega, by omega⟩, by omega, 0, rfl⟩
set_option maxHeartbeats 2000000 in
theorem pick_far (B b off len cap : Nat) (p n : Int) (w : World) (h0 : w.cell? ⟨B, 0, none⟩ = some (.slice (some ⟨b, off, none⟩) len cap)) (h1 : w.cell? ⟨B, 1, none⟩ = some (.int .i64 p)) (hf : w.frozen? ⟨B, 1, none⟩ = false) (hb : Rdb w b off len) (hne : b ≠ B)
    (hp0 : 0 ≤ p) (hp1 : p ≤ 1000000) (hn : 1 ≤ n) (hn1 : n ≤ 1000000) (hl : len ≤ 2000) (hl0 : 0 < len) (hpl : ¬ p < len) :
    Calls Try.prog 41 #[.pointer (some ⟨B, 0, none⟩), .int .i64 n] w (Picked B p n w) := by
  have hi0 := Int.emod_nonneg p (b := len) (by omega)
  have hi1 := Int.emod_lt_of_pos p (b := len) (by omega)
  have hj0 := Int.emod_nonneg (p * 7 + 3) (b := len) (by omega)
  have hj1 := Int.emod_lt_of_pos (p * 7 + 3) (b := len) (by omega)
  have hq0 : 0 ≤ p / len := Int.ediv_nonneg hp0 (by omega)
  have hq1 : p / len ≤ p := Int.ediv_le_self _ hp0
  obtain ⟨v, hv, v0, v1⟩ := hb (p % len).toNat (by omega)
  obtain ⟨u, hu, u0, u1⟩ := hb ((p * 7 + 3) % len).toNat (by omega)
  have hv' : (w.setCell ⟨B, 1, none⟩ (.int .i64 (p + 1))).cell? ⟨b, off + (p % len).toNat, none⟩ = some (.int .u8 v) := by
    rw [World.cell?_setCell_far _ _ _ _ (fun e => hne e.symm)]; exact hv
  have hu' : (w.setCell ⟨B, 1, none⟩ (.int .i64 (p + 1))).cell? ⟨b, off + ((p * 7 + 3) % len).toNat, none⟩ = some (.int .u8 u) := by
    rw [World.cell?_setCell_far _ _ _ _ (fun e => hne e.symm)]; exact hu
  have hlen : ((len : Int) == 0) = false := by rw [beq_eq_false_iff_ne]; omega
  clear hb hv hu
  go_enter Try.func41, Try.ntmps41
  go_wp2
  go_quiet (fail)
  go_wp2
  go_ret
  have hx0 := xor_nonneg (v * 131 + u * 1117 + p * 29 + p / len * 53) (by omega) (by omega)
  refine ⟨_, rfl, fun _ => ?_, by omega, nq, rfl⟩
  rw [Int.tmod_eq_emod_of_nonneg hx0]
  exact ⟨Int.emod_nonneg _ (by omega), Int.emod_lt_of_pos _ (by omega)⟩
end Go.Proofs.Ytoklehmoeollfaa
