/- The program's PlateDrop at a valid plate: its row has an address. -/
import Derived.Test.YtidppabconifkabP9
namespace Go.Proofs.Ytidppabconifkab
open Go Go.ChangeShapes Go.WideShapes Go.ChangeAt Go.RowKit
set_option linter.unusedSimpArgs false
set_option linter.unusedVariables false

set_option maxRecDepth 100000 in
set_option maxHeartbeats 4000000 in
theorem iPD_yes (b off cap : Nat) (xs : List VMark) (t : ByteArray) {n : Nat} (w : World) (hn : xs.length = n) (h : SRow encMark w (some ⟨b, off, none⟩) xs) (hq : ∀ v ∈ xs, v.2.2.size ≤ maxLen) (hl : n ≤ 2000000) (hp : plB xs = true) {l : List VMark} {q : Nat} {r : Bool} (hd : dropL t xs = l) (hm9 : l.length = q) (hr : decide (q < n) = r) :
    Calls Try.prog 21 #[.slice (some ⟨b, off, none⟩) n cap, .string t] w fun e w' => ∃ (g cp : Nat), e = .returned (.tuple #[.slice (some ⟨g, 0, none⟩) q cp, .bool r]) ∧ SOwn encMark w' w.heap.size 40 (some ⟨g, 0, none⟩) cp l ∧ Below w.heap.size w w' := by
  subst hr; subst hm9; subst hd
  have HN := Lib.hid hn
  have HQ := Lib.hid hq
  have H := Lib.hid h
  have HP : Hid (PlR xs true) := hp
  clear hn hq h hp
  go_enter Try.func21, Try.ntmps21
  go_wp2_with fail
  refine (iPV_any _ cap xs _ HN.out (H.out.next (bel1 _ _)) HQ.out hl HP.out).mono ?_; rintro e w1 ⟨rfl, hw1⟩
  obtain ⟨hP1, hB1⟩ := ownb hw1
  have hz1 := blk_lt hP1
  go_wp2_with fail
  refine (clone_any b off cap xs _ HN.out (H.out.next hB1) hl).mono ?_; rintro e w2 ⟨g, cp, rfl, hO2, hw2⟩
  have hgw : w1.heap.size ≤ g := by rcases hO2.form with ⟨e, _⟩ | ⟨g', e, h, _⟩; cases e; cases e; exact h
  have hP2 := blk_next hP1 hw2
  have hB2 := bel_next hB1 hw2
  rw [HN.out]
  go_wp2_with fail
  refine (delf_any g cp w1.heap.size w.heap.size t xs _ HN.out hO2 (by omega) hP2 hl).mono ?_; rintro e w3 ⟨rfl, hO3, hG3⟩
  have hB3 := hB2.grown hG3 hB2.size (fun j hj => by have := Option.some.inj hj; omega)
  have hlen := dropL_len t xs
  rw [HN.out] at hlen
  obtain ⟨m, hm⟩ : ∃ m, (dropL t xs).length = m := ⟨_, rfl⟩
  rw [hm] at hlen
  have HM := Lib.hid hm
  rw [HM.out]
  clear hm
  go_wp2_with fail
  go_ret2
  exact ⟨g, cp, by rw [HM.out]; simp, hO3.mono (by omega), hB3⟩
end Go.Proofs.Ytidppabconifkab
