/- The order of ways round, by both. -/
import Derived.Test.YtpdlffhjpnhkbaaRo2
namespace Go.Proofs.Ytpdlffhjpnhkbaa
open Go.ChangeShapes Go.WideShapes Go.ChangeAt Go.RowKit
set_option linter.unusedSimpArgs false
set_option linter.unusedVariables false
set_option linter.unnecessarySimpa false

/-- What both give: the order; nothing for ways that are not valid. -/
def OrdOf (xs : List (Int × Int)) (l : List Nat) : Prop := (wsB xs = true ∧ IsOrder xs l ∧ l.length = xs.length) ∨ (wsB xs = false ∧ l = [])
theorem OrdOf.unique {xs : List (Int × Int)} {l m : List Nat} (h : OrdOf xs l) (k : OrdOf xs m) : l = m := by
  rcases h with ⟨h1, h2, _⟩ | ⟨h1, rfl⟩
  · rcases k with ⟨_, k2, _⟩ | ⟨k1, _⟩
    · exact h2.unique k2
    · rw [h1] at k1; cases k1
  · rcases k with ⟨k1, _⟩ | ⟨_, rfl⟩
    · rw [h1] at k1; cases k1
    · rfl
theorem OrdOf.len {xs : List (Int × Int)} {l : List Nat} (h : OrdOf xs l) : l.length ≤ 8 := by
  rcases h with ⟨h1, _, h3⟩ | ⟨_, rfl⟩
  · have := go_len h1; omega
  · simp
theorem made_ints (n : Nat) : madeCells #[.int .i64 0] (n * 1) = (ints (List.replicate n 0)).toArray := by
  rw [Nat.mul_one]
  unfold madeCells
  apply Array.ext
  · simp [ints]
  · intro i h1 h2
    simp [ints, Nat.mod_one] at h2 ⊢
theorem wpList_make_ints {P : Program} (w : World) {ops : Array Oper} {rest : List Oper} {o : Oper} {a : Act} {Q : Exit → Act → World → Prop}
    (hg : o.guard = none) (l c : Operand) (t : TypeId) (hop : o.op = Op.makeSlice t l c)
    (e : TypeId) (i : TypeInfo) (z : Value) (ht : P.underlying t = some (.slice e)) (hi : P.info? e = some i) (hz : i.zero = some z) (hsize : i.size = 1) (hz2 : z.cells = #[.int .i64 0])
    (kl kc : IntKind) (n : Nat) (hl : a.eval l = .int kl (n : Int)) (hc : a.eval c = .int kc (n : Int)) (hbytes : i.bytes * n ≤ 281474976710656) (h63 : n ≤ 9223372036854775807)
    (hK : wpList P ops Q rest (a.put o.dst (.slice (some ⟨w.heap.size, 0, none⟩) n n)) (w.alloc (.cells (ints (List.replicate n 0)).toArray e))) :
    wpList P ops Q (o :: rest) a w := by
  refine wpList_plain hg fun K hK' => ?_
  have hb' : (i.bytes : Int) * (n : Int) ≤ 281474976710656 := by
    have h : ((i.bytes * n : Nat) : Int) ≤ 281474976710656 := by omega
    rwa [Int.natCast_mul] at h
  have hrun := run_make (P := P) w t e i z ht hi hz kl kc n n (by omega) (Int.le_refl _) hb' (by omega)
  simp only [Int.toNat_natCast, hsize, hz2, made_ints] at hrun
  unfold Oper.wp
  simp [execOp, hop, hl, hc, hrun, Result.andThen]
  exact hK' _ _ hK
theorem fill_nat (n : Nat) : fillTo (fun j => (j : Int)) n n = nat (List.range n) := by simp [fillTo, nat]
theorem OwnI.of_blk {w : World} {base g n : Nat} {xs : List Int} (h : IBlk w g 3 xs) (hb : base ≤ g) (hn : xs.length = n) (hm : n ≤ maxLen) : OwnI w base (some ⟨g, 0, none⟩) n xs := by
  refine ⟨by rw [ints_len]; omega, .inr ⟨g, n, (ints xs).toArray, by rw [hn], hb, h, by omega, hm, ?_, ?_⟩⟩
  · simp [ints_len]; omega
  · simp only [Nat.mul_one]; exact List.take_of_length_le (by rw [ints_len]; omega)
def OrdRet (xs : List (Int × Int)) (w : World) (e : Ending) (w' : World) : Prop :=
  ∃ (l : List Nat) (A : Option Addr) (cap : Nat), e = .returned (.slice A l.length cap) ∧ OrdOf xs l ∧ OwnI w' w.heap.size A cap (nat l) ∧ Below w.heap.size w w'
theorem ws_is_i {A : Option Addr} {cap n : Nat} (xs : List (Int × Int)) {w : World} {r : Bool} (hn : xs.length = n) (h : WRow w A xs) (hl : n ≤ 2000000) (hr : wsB xs = r) :
    Calls Try.prog 15 #[.slice A n cap] w fun e w' => e = .returned (.bool r) ∧ Below w.heap.size w w' := by
  subst hn; subst hr; exact iWsV_any A cap xs w h hl
theorem ws_is_s {A : Option Addr} {cap n : Nat} (xs : List (Int × Int)) {w : World} {r : Bool} (hn : xs.length = n) (h : WRow w A xs) (hl : n ≤ 2000000) (hr : wsB xs = r) :
    Calls Try.prog 8 #[.slice A n cap] w fun e w' => e = .returned (.bool r) ∧ Below w.heap.size w w' := by
  subst hn; subst hr; exact sWsV_any A cap xs w h hl
theorem stable_any {w0 : World} {A : Option Addr} {cap cp : Nat} {xs : List (Int × Int)} (hA : WRow w0 A xs) (hv : wsB xs = true) (g n : Nat) (hn : xs.length = n) (hg : w0.heap.size < g) (w : World) (hS : SoB w0 A n cap w) (hG : IBlk w g 3 (nat (List.range n))) :
    Calls Try.prog 30 #[.slice (some ⟨g, 0, none⟩) n cp, .int .i64 n, .func (.func 17) #[] #[.pointer (some ⟨w0.heap.size, 0, none⟩)]] w (InsRet w0 A cap xs g) := by
  have hn8 := go_len hv
  rw [hn] at hn8
  have hi : ¬ (20 : Int) ≤ (n : Int) := by omega
  have hi2 : ¬ (20 : Int) < (n : Int) := by omega
  have HH := Lib.hid (And.intro hA (And.intro hv (And.intro hn (And.intro hS hG))))
  clear hA hv hn hS hG
  go_enter Try.func30, Try.ntmps30
  go_wp2_with fail
  go_loopw [7, 8] (fun va vb wr => va = .int .i64 0 ∧ vb = .int .i64 20 ∧ w = wr) (fun _ _ _ => 0)
  case atStart => exact ⟨rfl, rfl, rfl⟩
  case round =>
    obtain ⟨rfl, rfl, rfl⟩ := hrel
    go_wp2_with fail
    refine (ins_any HH.out.1 HH.out.2.1 g n HH.out.2.2.1 hg _ HH.out.2.2.2.1 HH.out.2.2.2.2).mono ?_; rintro e w1 ⟨l, rfl, hO, hl, hS, hG⟩
    go_wp2_with fail
    go_loopw [6] (fun va wr => va = .int .i64 20 ∧ w1 = wr) (fun _ _ => 0)
    case atStart => exact ⟨rfl, rfl⟩
    case round =>
      obtain ⟨rfl, rfl⟩ := hrel
      go_wp2
      go_end0
      exact ⟨l, rfl, hO, hl, hS, hG⟩
theorem sortStable_any {w0 : World} {A : Option Addr} {cap cp : Nat} {xs : List (Int × Int)} (hA : WRow w0 A xs) (hv : wsB xs = true) (g n : Nat) (hn : xs.length = n) (hg : w0.heap.size < g) (w : World) (hS : SoB w0 A n cap w) (hG : IBlk w g 3 (nat (List.range n))) :
    Calls Try.prog 16 #[.slice (some ⟨g, 0, none⟩) n cp, .func (.func 17) #[] #[.pointer (some ⟨w0.heap.size, 0, none⟩)]] w (InsRet w0 A cap xs g) := by
  have HH := Lib.hid (And.intro hA (And.intro hv (And.intro hn (And.intro hS hG))))
  clear hA hv hn hS hG
  go_enter Try.func16, Try.ntmps16
  go_wp2_with fail
  refine (stable_any HH.out.1 HH.out.2.1 g n HH.out.2.2.1 hg _ HH.out.2.2.2.1 HH.out.2.2.2.2).mono ?_; rintro e w1 ⟨l, rfl, hO, hl, hS, hG⟩
  go_wp2
  go_end0
  exact ⟨l, rfl, hO, hl, hS, hG⟩
set_option maxRecDepth 100000 in
theorem iRO_any (A : Option Addr) (cap : Nat) (xs : List (Int × Int)) (w : World) (h : WRow w A xs) (hl : xs.length ≤ 2000000) :
    Calls Try.prog 5 #[.slice A xs.length cap] w (OrdRet xs w) := by
  obtain ⟨n, hn⟩ : ∃ n, xs.length = n := ⟨_, rfl⟩
  rw [hn] at hl ⊢
  have HN := Lib.hid hn
  clear hn
  have H := Lib.hid h
  clear h
  cases hv : wsB xs
  · have HV := Lib.hid hv
    clear hv
    go_enter Try.func5, Try.ntmps5
    go_wp2_with fail
    refine (ws_is_i xs HN.out (H.out.next (bel1 _ _)) hl HV.out).mono ?_; rintro e w1 ⟨rfl, hw1⟩
    obtain ⟨hP1, hB1⟩ := ownb hw1
    go_wp2
    go_ret
    exact ⟨[], none, 0, rfl, .inr ⟨HV.out, rfl⟩, OwnI.nil _ _, hB1⟩
  · have hn8 := go_len hv
    rw [HN.out] at hn8
    have HV := Lib.hid hv
    clear hv
    go_enter Try.func5, Try.ntmps5
    go_wp2_with fail
    refine (ws_is_i xs HN.out (H.out.next (bel1 _ _)) hl HV.out).mono ?_; rintro e w1 ⟨rfl, hw1⟩
    obtain ⟨hP1, hB1⟩ := ownb hw1
    have c1 : w1.cell? ⟨w.heap.size, 0, none⟩ = some (.slice A n cap) := by simp [World.cell?, hP1]
    obtain ⟨i0, hi0, hz0, hz1, hz2⟩ := info_parts infoI
    have hbn : i0.bytes * n ≤ 281474976710656 := by rw [hz2]; omega
    have HI := Lib.hid (And.intro hi0 (And.intro hz0 (And.intro hz1 hbn)))
    clear hi0 hz0 hz1 hz2 hbn
    go_wp2_with (at_make; refine wpList_make_ints _ rfl _ _ 25 rfl 3 i0 _ Try.underlying25 HI.out.1 HI.out.2.1 HI.out.2.2.1 rfl .i64 .i64 n rfl rfl HI.out.2.2.2 (by omega) ?_)
    have hz := blk_lt hP1
    go_loopw [13] (fun i wr => ∃ k : Nat, k ≤ n ∧ i = .int .i64 k ∧ IBlk wr w1.heap.size 3 (fillTo (fun j => (j : Int)) n k) ∧ SoB w A n cap wr) (fun i _ => (n - intOf i).toNat)
    case atStart => exact ⟨0, by omega, rfl, by rw [fillTo_zero]; exact blk_new w1 _, hB1.alloc hB1.size _, blk_old hP1 _⟩
    case round =>
      obtain ⟨k, k1, rfl, hG, hS⟩ := hrel
      by_cases hlt : k < n
      · have hi1 : (k : Int) < (n : Int) := by omega
        have c0 := hG.cell k (by rw [fillTo_len _ (by omega)]; exact hlt)
        have f0 := hG.frozen k
        go_wp2_with fail
        go_roundw
        case rel => exact ⟨k + 1, by omega, by go_num, by have := hG.set k (k : Int); rwa [fillTo_next (fun j => (j : Int)) hlt] at this, hS.far hz⟩
        case measure => simp [intOf]; omega
      · obtain rfl : k = n := by omega
        rw [fill_nat] at hG
        have HH := Lib.hid (And.intro hS hG)
        clear hS hG c1
        go_wp2_with fail
        refine (sortStable_any H.out HV.out w1.heap.size k HN.out hz _ HH.out.1 HH.out.2).mono ?_; rintro e w2 ⟨l, rfl, hO, hl2, hS, hG⟩
        have HL := Lib.hid hl2
        clear hl2
        go_wp2
        go_ret
        exact ⟨l, some ⟨w1.heap.size, 0, none⟩, k, by rw [HL.out, HN.out]; rfl, .inl ⟨HV.out, hO, HL.out⟩, OwnI.of_blk hG hB1.size (by rw [nat_len, HL.out, HN.out]) (by unfold maxLen; omega), hS.1⟩

/-- Is a number in a list. -/
def hasN (l : List Int) (n : Int) : Bool := decide (n ∈ l)
theorem s1Has_any (A : Option Addr) (cap : Nat) (xs : List Int) (x : Int) (w : World) (hA : IRow w A xs) (hl : xs.length ≤ 2000000) :
    Calls Try.prog 19 #[.slice A xs.length cap, .int .i64 x] w fun e w' => e = .returned (.bool (hasN xs x)) ∧ Below w.heap.size w w' := by
  obtain ⟨r, hr⟩ : ∃ r, hasN xs x = r := ⟨_, rfl⟩
  obtain ⟨n, hn⟩ : ∃ n, xs.length = n := ⟨_, rfl⟩
  rw [hr, hn]
  rw [hn] at hl
  have HR := Lib.hid hr
  have HN := Lib.hid hn
  clear hr hn
  go_enter Try.func19, Try.ntmps19
  go_wp2_with fail
  go_loopw [5] (fun i wr => ∃ k : Nat, k ≤ n ∧ i = .int .i64 k ∧ Hid (∀ y ∈ xs.take k, y ≠ x) ∧ Below w.heap.size w wr) (fun i _ => (n - intOf i).toNat)
  case atStart => exact ⟨0, by omega, rfl, (by show ∀ y ∈ _, _; simp), Below.refl _ _⟩
  case round =>
    obtain ⟨k, k1, rfl, HF, hB⟩ := hrel
    by_cases hlt : k < n
    · have hk : k < xs.length := by rw [HN.out]; exact hlt
      obtain ⟨b, off, rfl, hb, c0⟩ := (hA.next hB).at_ hk
      have hi0 : (0 : Int) ≤ (k : Int) := by omega
      have hi1 : (k : Int) < (n : Int) := by omega
      by_cases he : xs[k] = x
      · have HE : Hid (r = true) := by show _ = _; rw [← HR.out]; unfold hasN; rw [← he]; simp
        have he2 : (xs[k] == x) = true := by simpa using he
        clear he
        go_wp2_with fail
        go_ret
        exact ⟨ret_bool HE.out.symm, hB⟩
      · have HF2 : Hid (∀ y ∈ xs.take (k + 1), y ≠ x) := by
          show ∀ y ∈ xs.take (k + 1), y ≠ x
          intro y hy
          rw [List.take_succ_eq_append_getElem hk] at hy
          rcases List.mem_append.1 hy with h1 | h1
          · exact HF.out y h1
          · rw [List.mem_singleton.1 h1]; exact he
        have he2 : (xs[k] == x) = false := by simpa using he
        clear he HF
        go_wp2_with fail
        go_roundw
        case rel => exact ⟨k + 1, by omega, by go_num, HF2, hB⟩
        case measure => simp [intOf]; omega
    · obtain rfl : k = n := by omega
      have HE : Hid (r = false) := by
        show _ = _
        rw [← HR.out]; unfold hasN
        simp only [decide_eq_false_iff_not]
        intro h
        exact HF.out x (by rw [← HN.out]; simpa using h) rfl
      go_wp2_with fail
      go_ret
      exact ⟨ret_bool HE.out.symm, hB⟩
end Go.Proofs.Ytpdlffhjpnhkbaa
