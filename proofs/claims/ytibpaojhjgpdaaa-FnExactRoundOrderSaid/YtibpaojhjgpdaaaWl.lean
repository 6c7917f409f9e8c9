/- What the exact laws of lists of ways lean on: copies, comparisons, sizes. -/
import Derived.Test.YtibpaojhjgpdaaaWa
import Derived.Test.YtibpaojhjgpdaaaSl
import Derived.OwnWalk
namespace Go.Proofs.Ytibpaojhjgpdaaa
open Go.ChangeShapes Go.WideShapes Go.ChangeAt Go.RowKit
set_option linter.unusedSimpArgs false
set_option linter.unusedVariables false

theorem wpList_make_pairs {P : Program} (w : World) {ops : Array Oper} {rest : List Oper} {o : Oper} {a : Act} {Q : Exit → Act → World → Prop}
    (hg : o.guard = none) (l c : Operand) (t : TypeId) (hop : o.op = Op.makeSlice t l c)
    (e : TypeId) (i : TypeInfo) (z : Value) (ht : P.underlying t = some (.slice e)) (hi : P.info? e = some i) (hz : i.zero = some z) (hsize : i.size = 2) (hz2 : z.cells = #[.int .i64 0, .int .i64 0])
    (kl kc : IntKind) (n : Nat) (hl : a.eval l = .int kl (n : Int)) (hc : a.eval c = .int kc (n : Int)) (hbytes : i.bytes * n ≤ 281474976710656) (h63 : n ≤ 9223372036854775807)
    (hK : wpList P ops Q rest (a.put o.dst (.slice (some ⟨w.heap.size, 0, none⟩) n n)) (w.alloc (.cells (flat (List.replicate n (0, 0))).toArray e))) :
    wpList P ops Q (o :: rest) a w := by
  refine wpList_plain hg fun K hK' => ?_
  have hb' : (i.bytes : Int) * (n : Int) ≤ 281474976710656 := by
    have h : ((i.bytes * n : Nat) : Int) ≤ 281474976710656 := by omega
    rwa [Int.natCast_mul] at h
  have hrun := run_make (P := P) w t e i z ht hi hz kl kc n n (by omega) (Int.le_refl _) hb' (by omega)
  simp only [Int.toNat_natCast, hsize, hz2, made_flat] at hrun
  unfold Oper.wp
  simp [execOp, hop, hl, hc, hrun, Result.andThen]
  exact hK' _ _ hK
theorem infoWay : (Try.prog.info? 32).map (fun i => (i.zero, i.size, i.bytes)) = some (some (.agg #[.int .i64 0, .int .i64 0]), 2, 16) := by kernel_rfl
/-- A list that is copied up to k. -/
def upTo (xs : List (Int × Int)) (n k : Nat) : List (Int × Int) := xs.take k ++ List.replicate (n - k) (0, 0)
theorem upTo_len {xs : List (Int × Int)} {n k : Nat} (hn : xs.length = n) (hk : k ≤ n) : (upTo xs n k).length = n := by simp [upTo]; omega
theorem upTo_next {xs : List (Int × Int)} {n k : Nat} (hn : xs.length = n) (hk : k < xs.length) : (upTo xs n k).set k xs[k] = upTo xs n (k + 1) := by
  unfold upTo
  rw [List.set_append_right _ _ (by simp; omega), List.take_succ_eq_append_getElem hk, show n - k = (n - (k + 1)) + 1 by omega, List.replicate_succ]
  simp [List.length_take, Nat.min_eq_left (by omega : k ≤ xs.length)]
  rw [List.take_succ_eq_append_getElem hk, List.append_assoc]; rfl
def CopyRet (xs : List (Int × Int)) (T : TypeId) (w : World) (e : Ending) (w' : World) : Prop := ∃ g : Nat, e = .returned (.slice (some ⟨g, 0, none⟩) xs.length xs.length) ∧ w.heap.size ≤ g ∧ WBlk w' g T xs ∧ Below w.heap.size w w'
theorem store_bel {w0 w : World} {C : Nat} (h : Below w0.heap.size w0 w) (hC : w0.heap.size ≤ C) (i j : Nat) (a b : Value) : Below w0.heap.size w0 ((w.setCell ⟨C, i, none⟩ a).setCell ⟨C, j, none⟩ b) :=
  (h.setCell (p := ⟨C, i, none⟩) hC a).setCell (p := ⟨C, j, none⟩) hC b
set_option maxHeartbeats 4000000 in
theorem toWayS_any (A : Option Addr) (cap : Nat) (xs : List (Int × Int)) (w : World) (h : WRow w A xs) (hl : xs.length ≤ 2000000) :
    Calls Try.prog 20 #[.slice A xs.length cap] w (CopyRet xs 32 w) := by
  unfold CopyRet
  generalize hn : xs.length = n at hl ⊢
  have HN := Lib.hid hn
  clear hn
  obtain ⟨i0, hi0, hz0, hz1, hz2⟩ := info_parts infoWay
  have hbn : i0.bytes * n ≤ 281474976710656 := by rw [hz2]; omega
  have HI := Lib.hid (And.intro hi0 (And.intro hz0 (And.intro hz1 hbn)))
  clear hi0 hz0 hz1 hz2 hbn
  go_enter Try.func20, Try.ntmps20
  go_wp2_with (at_make; refine wpList_make_pairs _ rfl _ _ 23 rfl 32 i0 _ Try.underlying23 HI.out.1 HI.out.2.1 HI.out.2.2.1 rfl .i64 .i64 n rfl rfl HI.out.2.2.2 (by omega) ?_)
  go_loopw [4] (fun i wr => ∃ k : Nat, k ≤ n ∧ i = .int .i64 k ∧ WBlk wr w.heap.size 32 (upTo xs n k) ∧ Below w.heap.size w wr) (fun i _ => (n - intOf i).toNat)
  case atStart => exact ⟨0, by omega, rfl, by have := blk_new w (.cells (flat (List.replicate n (0, 0))).toArray 32); exact this, bel1 _ _⟩
  case round =>
    obtain ⟨k, k1, rfl, hblk, hB⟩ := hrel
    by_cases hlt : k < n
    · have hk : k < xs.length := by rw [HN.out]; exact hlt
      have hk' : k < (upTo xs n k).length := by rw [upTo_len HN.out k1]; exact hlt
      obtain ⟨b, off, rfl, hb, c0, c1⟩ := (h.next hB).at_ hk
      go_wp2_with fail
      refine (toWay_any _ _ _).mono ?_; rintro e w1 ⟨rfl, hw1⟩
      have hblk1 := hblk.next hw1
      obtain ⟨d0, d1⟩ := hblk1.cell k hk'
      have f0 := hblk1.frozen (k * 2)
      have f1 := hblk1.frozen (k * 2 + 1)
      go_wp2_with fail
      go_roundw
      case rel => exact ⟨k + 1, by omega, by go_num, by have := hblk1.set k hk' xs[k].1 xs[k].2; rwa [show (xs[k].1, xs[k].2) = xs[k] from rfl, upTo_next HN.out hk] at this, store_bel (bel_next hB hw1) (Nat.le_refl _) _ _ _ _⟩
      case measure => simp [intOf]; omega
    · obtain rfl : k = n := by omega
      go_wp2_with fail
      go_ret
      refine ⟨_, rfl, Nat.le_refl _, ?_, hB⟩
      have e : upTo xs k k = xs := by unfold upTo; rw [← HN.out]; simp
      rwa [e] at hblk
theorem szWayS_t (A : Option Addr) (n cap : Nat) (w : World) (h : n ≤ 1048576) : Calls Try.prog 19 #[.slice A n cap, .int .i64 1048576] w fun e w' => e = .returned (.int .i64 (1048576 - n)) ∧ w = w' := by
  go_enter Try.func19, Try.ntmps19
  go_wp2
  go_ret
  exact ⟨rfl, rfl⟩
theorem szWayS_f (A : Option Addr) (n cap : Nat) (w : World) (h : ¬ n ≤ 1048576) (hl : n ≤ 9223372036854775807) : Calls Try.prog 19 #[.slice A n cap, .int .i64 1048576] w fun e w' => e = .returned (.int .i64 (-1)) ∧ w = w' := by
  go_enter Try.func19, Try.ntmps19
  go_wp2
  go_ret
  exact ⟨rfl, rfl⟩
set_option maxHeartbeats 4000000 in
theorem eqWayS_same (A B : Option Addr) (ca cb : Nat) (xs : List (Int × Int)) (w : World) (hA : WRow w A xs) (hB' : WRow w B xs) (hl : xs.length ≤ 2000000) :
    Calls Try.prog 22 #[.slice A xs.length ca, .slice B xs.length cb] w fun e w' => e = .returned (.bool true) ∧ Below w.heap.size w w' := by
  generalize hn : xs.length = n at hl ⊢
  have HN := Lib.hid hn
  clear hn
  go_enter Try.func22, Try.ntmps22
  go_wp2_with fail
  go_loopw [5] (fun i wr => ∃ k : Nat, k ≤ n ∧ i = .int .i64 k ∧ Below w.heap.size w wr) (fun i _ => (n - intOf i).toNat)
  case atStart => exact ⟨0, by omega, rfl, Below.refl _ _⟩
  case round =>
    obtain ⟨k, k1, rfl, hB⟩ := hrel
    by_cases hlt : k < n
    · have hk : k < xs.length := by rw [HN.out]; exact hlt
      obtain ⟨b, off, rfl, hb, c0, c1⟩ := (hA.next hB).at_ hk
      obtain ⟨b', off', rfl, hb', d0, d1⟩ := (hB'.next hB).at_ hk
      go_wp2_with fail
      go_region_held3 (fun w' => w'.cell? ⟨b, off + k * 2, none⟩ = some (.int .i64 xs[k].1) ∧ w'.cell? ⟨b, off + k * 2 + 1, none⟩ = some (.int .i64 xs[k].2) ∧ w'.cell? ⟨b', off' + k * 2, none⟩ = some (.int .i64 xs[k].1) ∧ w'.cell? ⟨b', off' + k * 2 + 1, none⟩ = some (.int .i64 xs[k].2) ∧ Below w.heap.size w w')
        (first
          | exact ⟨c0, c1, d0, d1, hB.drew⟩
          | assumption
          | (go_split_ands; exact ⟨cel_next (w := wr.drew) c0 hw, cel_next (w := wr.drew) c1 hw, cel_next (w := wr.drew) d0 hw, cel_next (w := wr.drew) d1 hw, bel_next hB.drew hw⟩))
        (first | (go_at_call 54; refine (eqWay_any _ _ _ _ _).mono ?_; rintro e w' ⟨rfl, hw⟩))
      (rename_i hS; obtain ⟨e0, e1, e2, e3, eB⟩ := hS)
      go_wp2_with fail
      go_roundw
      case rel => exact ⟨k + 1, by omega, by go_num, eB⟩
      case measure => simp [intOf]; omega
    · obtain rfl : k = n := by omega
      go_wp2_with fail
      go_ret
      exact ⟨rfl, hB⟩
end Go.Proofs.Ytibpaojhjgpdaaa
