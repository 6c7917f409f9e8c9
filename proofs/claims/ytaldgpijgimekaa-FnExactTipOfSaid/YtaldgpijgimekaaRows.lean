/-
  No cell of these rows narrows 'for every input' (looked for: loops, veiled, ifaces, maps, wideKeys, modest, calm, conditions, laid).
  DERIVED. THE GIVEN ROWS OF THIS SEAT. 9 by the template 'for every input the law returns true; each argument reads behind the call as it read before'; 0 by the template 'total and deterministic' (their statements: YtaldgpijgimekaaTotals.lean).
  GIVEN WITH THE SEED: the statements are not yours to turn. If you find one false, say at which input.
  Laid BY PROGRAM, IN A SANDBOX (cutbox-rows.mjs): the forced cells as the released guide's own fill.sh prints them over the translation 1b8a9594947d29cf… (all of the seat's roots in one cut). By AI agents, Wed Nov 11 2026. No macro, syntax, notation, axiom, sorry.
-/
import Derived.Test.YtaldgpijgimekaaChecked
import GoSem.Claim
import GoSem.ClaimJoined
import GoSem.ClaimMapViews
import Derived.JoinedTies
import Derived.KernelRfl
namespace Go.Proofs.Ytaldgpijgimekaa
/- THE CELL 'sum', in the pinned program and in every row, IS THE sha256 OF THE DUMP (.gsa) THAT YtaldgpijgimekaaProg.lean LOADS. Nothing in Lean hashes anything: it is a label: what it is worth is what the hold of that sum in a sandbox is worth. -/
noncomputable def Try.pinned : Pinned := { name := "ytaldgpijgimekaa", sum := "1b8a9594947d29cfa34e348457bf8bcdcb4b5ed7af7b4a79a797702511528530", checked := Try.checked }
namespace Rows
def none {H : Type} : Left H := { results := [], args := [] }

/-- 'laws.FnExactPlaceValid': WHATEVER THE INPUT: true; the input reads as it did. -/
def fnExactPlaceValidSpec : ChangeSpec := { name := "fnExactPlaceValid", fn := fun _ => fun
  | [d] => { results := [.lit (.bool true)], args := [d] }
  | _ => none }
def fnExactPlaceValidRow : OpenClaim := { program := "ytaldgpijgimekaa", sum := "1b8a9594947d29cfa34e348457bf8bcdcb4b5ed7af7b4a79a797702511528530", func := "loop.example/sundials/laws.FnExactPlaceValid", spec := "fnExactPlaceValid", apart := false }
def FnExactPlaceValidSaid : Prop := fnExactPlaceValidRow.holds Try.pinned (OpenSpec.ofChange fnExactPlaceValidSpec)

/-- ITS FALSE NEIGHBOUR: 'it returns false'. Refute it at one input. -/
def fnExactPlaceValidWrong : ChangeSpec := { name := "fnExactPlaceValid", fn := fun _ => fun
  | [d] => { results := [.lit (.bool false)], args := [d] }
  | _ => none }
def FnExactPlaceValidWrongFalsely : Prop := fnExactPlaceValidRow.holds Try.pinned (OpenSpec.ofChange fnExactPlaceValidWrong)

/-- 'laws.FnExactBlockValid': WHATEVER THE INPUT: true; the input reads as it did. -/
def fnExactBlockValidSpec : ChangeSpec := { name := "fnExactBlockValid", fn := fun _ => fun
  | [d] => { results := [.lit (.bool true)], args := [d] }
  | _ => none }
def fnExactBlockValidRow : OpenClaim := { program := "ytaldgpijgimekaa", sum := "1b8a9594947d29cfa34e348457bf8bcdcb4b5ed7af7b4a79a797702511528530", func := "loop.example/sundials/laws.FnExactBlockValid", spec := "fnExactBlockValid", apart := false }
def FnExactBlockValidSaid : Prop := fnExactBlockValidRow.holds Try.pinned (OpenSpec.ofChange fnExactBlockValidSpec)

/-- ITS FALSE NEIGHBOUR: 'it returns false'. Refute it at one input. -/
def fnExactBlockValidWrong : ChangeSpec := { name := "fnExactBlockValid", fn := fun _ => fun
  | [d] => { results := [.lit (.bool false)], args := [d] }
  | _ => none }
def FnExactBlockValidWrongFalsely : Prop := fnExactBlockValidRow.holds Try.pinned (OpenSpec.ofChange fnExactBlockValidWrong)

/-- 'laws.FnExactRayValid': WHATEVER THE INPUT: true; the input reads as it did. -/
def fnExactRayValidSpec : ChangeSpec := { name := "fnExactRayValid", fn := fun _ => fun
  | [d] => { results := [.lit (.bool true)], args := [d] }
  | _ => none }
def fnExactRayValidRow : OpenClaim := { program := "ytaldgpijgimekaa", sum := "1b8a9594947d29cfa34e348457bf8bcdcb4b5ed7af7b4a79a797702511528530", func := "loop.example/sundials/laws.FnExactRayValid", spec := "fnExactRayValid", apart := false }
def FnExactRayValidSaid : Prop := fnExactRayValidRow.holds Try.pinned (OpenSpec.ofChange fnExactRayValidSpec)

/-- ITS FALSE NEIGHBOUR: 'it returns false'. Refute it at one input. -/
def fnExactRayValidWrong : ChangeSpec := { name := "fnExactRayValid", fn := fun _ => fun
  | [d] => { results := [.lit (.bool false)], args := [d] }
  | _ => none }
def FnExactRayValidWrongFalsely : Prop := fnExactRayValidRow.holds Try.pinned (OpenSpec.ofChange fnExactRayValidWrong)

/-- 'laws.FnExactTipOf': WHATEVER THE INPUT: true; the input reads as it did. -/
def fnExactTipOfSpec : ChangeSpec := { name := "fnExactTipOf", fn := fun _ => fun
  | [d1, d2, d3] => { results := [.lit (.bool true)], args := [d1, d2, d3] }
  | _ => none }
def fnExactTipOfRow : OpenClaim := { program := "ytaldgpijgimekaa", sum := "1b8a9594947d29cfa34e348457bf8bcdcb4b5ed7af7b4a79a797702511528530", func := "loop.example/sundials/laws.FnExactTipOf", spec := "fnExactTipOf", apart := false }
def FnExactTipOfSaid : Prop := fnExactTipOfRow.holds Try.pinned (OpenSpec.ofChange fnExactTipOfSpec)

/-- ITS FALSE NEIGHBOUR: 'it returns false'. Refute it at one input. -/
def fnExactTipOfWrong : ChangeSpec := { name := "fnExactTipOf", fn := fun _ => fun
  | [d1, d2, d3] => { results := [.lit (.bool false)], args := [d1, d2, d3] }
  | _ => none }
def FnExactTipOfWrongFalsely : Prop := fnExactTipOfRow.holds Try.pinned (OpenSpec.ofChange fnExactTipOfWrong)

/-- 'laws.FnExactSameSpot': WHATEVER THE INPUT: true; the input reads as it did. -/
def fnExactSameSpotSpec : ChangeSpec := { name := "fnExactSameSpot", fn := fun _ => fun
  | [d1, d2] => { results := [.lit (.bool true)], args := [d1, d2] }
  | _ => none }
def fnExactSameSpotRow : OpenClaim := { program := "ytaldgpijgimekaa", sum := "1b8a9594947d29cfa34e348457bf8bcdcb4b5ed7af7b4a79a797702511528530", func := "loop.example/sundials/laws.FnExactSameSpot", spec := "fnExactSameSpot", apart := false }
def FnExactSameSpotSaid : Prop := fnExactSameSpotRow.holds Try.pinned (OpenSpec.ofChange fnExactSameSpotSpec)

/-- ITS FALSE NEIGHBOUR: 'it returns false'. Refute it at one input. -/
def fnExactSameSpotWrong : ChangeSpec := { name := "fnExactSameSpot", fn := fun _ => fun
  | [d1, d2] => { results := [.lit (.bool false)], args := [d1, d2] }
  | _ => none }
def FnExactSameSpotWrongFalsely : Prop := fnExactSameSpotRow.holds Try.pinned (OpenSpec.ofChange fnExactSameSpotWrong)

/-- 'laws.FnExactUnderBlock': WHATEVER THE INPUT: true; the input reads as it did. -/
def fnExactUnderBlockSpec : ChangeSpec := { name := "fnExactUnderBlock", fn := fun _ => fun
  | [d1, d2] => { results := [.lit (.bool true)], args := [d1, d2] }
  | _ => none }
def fnExactUnderBlockRow : OpenClaim := { program := "ytaldgpijgimekaa", sum := "1b8a9594947d29cfa34e348457bf8bcdcb4b5ed7af7b4a79a797702511528530", func := "loop.example/sundials/laws.FnExactUnderBlock", spec := "fnExactUnderBlock", apart := false }
def FnExactUnderBlockSaid : Prop := fnExactUnderBlockRow.holds Try.pinned (OpenSpec.ofChange fnExactUnderBlockSpec)

/-- ITS FALSE NEIGHBOUR: 'it returns false'. Refute it at one input. -/
def fnExactUnderBlockWrong : ChangeSpec := { name := "fnExactUnderBlock", fn := fun _ => fun
  | [d1, d2] => { results := [.lit (.bool false)], args := [d1, d2] }
  | _ => none }
def FnExactUnderBlockWrongFalsely : Prop := fnExactUnderBlockRow.holds Try.pinned (OpenSpec.ofChange fnExactUnderBlockWrong)

/-- 'laws.FnExactRayTurn': WHATEVER THE INPUT: true; the input reads as it did. -/
def fnExactRayTurnSpec : ChangeSpec := { name := "fnExactRayTurn", fn := fun _ => fun
  | [d] => { results := [.lit (.bool true)], args := [d] }
  | _ => none }
def fnExactRayTurnRow : OpenClaim := { program := "ytaldgpijgimekaa", sum := "1b8a9594947d29cfa34e348457bf8bcdcb4b5ed7af7b4a79a797702511528530", func := "loop.example/sundials/laws.FnExactRayTurn", spec := "fnExactRayTurn", apart := false }
def FnExactRayTurnSaid : Prop := fnExactRayTurnRow.holds Try.pinned (OpenSpec.ofChange fnExactRayTurnSpec)

/-- ITS FALSE NEIGHBOUR: 'it returns false'. Refute it at one input. -/
def fnExactRayTurnWrong : ChangeSpec := { name := "fnExactRayTurn", fn := fun _ => fun
  | [d] => { results := [.lit (.bool false)], args := [d] }
  | _ => none }
def FnExactRayTurnWrongFalsely : Prop := fnExactRayTurnRow.holds Try.pinned (OpenSpec.ofChange fnExactRayTurnWrong)

/-- 'laws.FnExactPlaceTurn': WHATEVER THE INPUT: true; the input reads as it did. -/
def fnExactPlaceTurnSpec : ChangeSpec := { name := "fnExactPlaceTurn", fn := fun _ => fun
  | [d] => { results := [.lit (.bool true)], args := [d] }
  | _ => none }
def fnExactPlaceTurnRow : OpenClaim := { program := "ytaldgpijgimekaa", sum := "1b8a9594947d29cfa34e348457bf8bcdcb4b5ed7af7b4a79a797702511528530", func := "loop.example/sundials/laws.FnExactPlaceTurn", spec := "fnExactPlaceTurn", apart := false }
def FnExactPlaceTurnSaid : Prop := fnExactPlaceTurnRow.holds Try.pinned (OpenSpec.ofChange fnExactPlaceTurnSpec)

/-- ITS FALSE NEIGHBOUR: 'it returns false'. Refute it at one input. -/
def fnExactPlaceTurnWrong : ChangeSpec := { name := "fnExactPlaceTurn", fn := fun _ => fun
  | [d] => { results := [.lit (.bool false)], args := [d] }
  | _ => none }
def FnExactPlaceTurnWrongFalsely : Prop := fnExactPlaceTurnRow.holds Try.pinned (OpenSpec.ofChange fnExactPlaceTurnWrong)

/-- 'laws.FnExactBlockTurn': WHATEVER THE INPUT: true; the input reads as it did. -/
def fnExactBlockTurnSpec : ChangeSpec := { name := "fnExactBlockTurn", fn := fun _ => fun
  | [d] => { results := [.lit (.bool true)], args := [d] }
  | _ => none }
def fnExactBlockTurnRow : OpenClaim := { program := "ytaldgpijgimekaa", sum := "1b8a9594947d29cfa34e348457bf8bcdcb4b5ed7af7b4a79a797702511528530", func := "loop.example/sundials/laws.FnExactBlockTurn", spec := "fnExactBlockTurn", apart := false }
def FnExactBlockTurnSaid : Prop := fnExactBlockTurnRow.holds Try.pinned (OpenSpec.ofChange fnExactBlockTurnSpec)

/-- ITS FALSE NEIGHBOUR: 'it returns false'. Refute it at one input. -/
def fnExactBlockTurnWrong : ChangeSpec := { name := "fnExactBlockTurn", fn := fun _ => fun
  | [d] => { results := [.lit (.bool false)], args := [d] }
  | _ => none }
def FnExactBlockTurnWrongFalsely : Prop := fnExactBlockTurnRow.holds Try.pinned (OpenSpec.ofChange fnExactBlockTurnWrong)

/- THE SECOND FORM. 'bulk': how many values and letters a reading holds, each counted each time it is reached (what is shared counts as often as it is met; a slice's spare places count too). A statement '..UptoSaid' is the law's where the arguments, and the package variables that the reading takes, are together of bulk at most 1048576: NARROWER than '..Said'. Prove '..Said' where nothing that the law and all that it calls make is longer than what came in: it says more and counts as full. Else prove '..UptoSaid'. A law counts once. -/
mutual
def uptoBulk {H : Type} : DataW H → Nat
  | .lit (.string bytes) => bytes.length + 1
  | .lit _ => 1
  | .nil => 1
  | .ptr d => uptoBulk d + 1
  | .slice elems spare => uptoBulkAll elems + uptoBulkAll spare + 1
  | .agg parts => uptoBulkAll parts + 1
  | .iface _ d => uptoBulk d + 1
  | .map entries => uptoBulkEntries entries + 1
  | .held _ => 1
def uptoBulkAll {H : Type} : List (DataW H) → Nat
  | [] => 0
  | d :: r => uptoBulk d + uptoBulkAll r
def uptoBulkEntries {H : Type} : List (Lit × DataW H) → Nat
  | [] => 0
  | x :: r => uptoBulkEntry x + uptoBulkEntries r
def uptoBulkEntry {H : Type} : Lit × DataW H → Nat
  | (.string bytes, d) => bytes.length + uptoBulk d + 1
  | (_, d) => uptoBulk d + 1
 end
def uptoSmall : (H : Type) → List (DataW H) → Bool := fun _ ds => decide (uptoBulkAll ds ≤ 1048576)
def OpenSpec.upto (s : _root_.Go.ChangeSpec) : _root_.Go.OpenSpec := { _root_.Go.OpenSpec.ofChange s with cond := some uptoSmall }

/-- 'laws.FnExactPlaceValid', WHERE WHAT IT READS IS OF BULK AT MOST 1048576: true; the input reads as it did. -/
def fnExactPlaceValidUptoRow : OpenClaim := { program := "ytaldgpijgimekaa", sum := "1b8a9594947d29cfa34e348457bf8bcdcb4b5ed7af7b4a79a797702511528530", func := "loop.example/sundials/laws.FnExactPlaceValid", spec := "fnExactPlaceValid", apart := false, narrowed := true }
def FnExactPlaceValidUptoSaid : Prop := fnExactPlaceValidUptoRow.holds Try.pinned (OpenSpec.upto fnExactPlaceValidSpec)

/-- 'laws.FnExactBlockValid', WHERE WHAT IT READS IS OF BULK AT MOST 1048576: true; the input reads as it did. -/
def fnExactBlockValidUptoRow : OpenClaim := { program := "ytaldgpijgimekaa", sum := "1b8a9594947d29cfa34e348457bf8bcdcb4b5ed7af7b4a79a797702511528530", func := "loop.example/sundials/laws.FnExactBlockValid", spec := "fnExactBlockValid", apart := false, narrowed := true }
def FnExactBlockValidUptoSaid : Prop := fnExactBlockValidUptoRow.holds Try.pinned (OpenSpec.upto fnExactBlockValidSpec)

/-- 'laws.FnExactRayValid', WHERE WHAT IT READS IS OF BULK AT MOST 1048576: true; the input reads as it did. -/
def fnExactRayValidUptoRow : OpenClaim := { program := "ytaldgpijgimekaa", sum := "1b8a9594947d29cfa34e348457bf8bcdcb4b5ed7af7b4a79a797702511528530", func := "loop.example/sundials/laws.FnExactRayValid", spec := "fnExactRayValid", apart := false, narrowed := true }
def FnExactRayValidUptoSaid : Prop := fnExactRayValidUptoRow.holds Try.pinned (OpenSpec.upto fnExactRayValidSpec)

/-- 'laws.FnExactTipOf', WHERE WHAT IT READS IS OF BULK AT MOST 1048576: true; the input reads as it did. -/
def fnExactTipOfUptoRow : OpenClaim := { program := "ytaldgpijgimekaa", sum := "1b8a9594947d29cfa34e348457bf8bcdcb4b5ed7af7b4a79a797702511528530", func := "loop.example/sundials/laws.FnExactTipOf", spec := "fnExactTipOf", apart := false, narrowed := true }
def FnExactTipOfUptoSaid : Prop := fnExactTipOfUptoRow.holds Try.pinned (OpenSpec.upto fnExactTipOfSpec)

/-- 'laws.FnExactSameSpot', WHERE WHAT IT READS IS OF BULK AT MOST 1048576: true; the input reads as it did. -/
def fnExactSameSpotUptoRow : OpenClaim := { program := "ytaldgpijgimekaa", sum := "1b8a9594947d29cfa34e348457bf8bcdcb4b5ed7af7b4a79a797702511528530", func := "loop.example/sundials/laws.FnExactSameSpot", spec := "fnExactSameSpot", apart := false, narrowed := true }
def FnExactSameSpotUptoSaid : Prop := fnExactSameSpotUptoRow.holds Try.pinned (OpenSpec.upto fnExactSameSpotSpec)

/-- 'laws.FnExactUnderBlock', WHERE WHAT IT READS IS OF BULK AT MOST 1048576: true; the input reads as it did. -/
def fnExactUnderBlockUptoRow : OpenClaim := { program := "ytaldgpijgimekaa", sum := "1b8a9594947d29cfa34e348457bf8bcdcb4b5ed7af7b4a79a797702511528530", func := "loop.example/sundials/laws.FnExactUnderBlock", spec := "fnExactUnderBlock", apart := false, narrowed := true }
def FnExactUnderBlockUptoSaid : Prop := fnExactUnderBlockUptoRow.holds Try.pinned (OpenSpec.upto fnExactUnderBlockSpec)

/-- 'laws.FnExactRayTurn', WHERE WHAT IT READS IS OF BULK AT MOST 1048576: true; the input reads as it did. -/
def fnExactRayTurnUptoRow : OpenClaim := { program := "ytaldgpijgimekaa", sum := "1b8a9594947d29cfa34e348457bf8bcdcb4b5ed7af7b4a79a797702511528530", func := "loop.example/sundials/laws.FnExactRayTurn", spec := "fnExactRayTurn", apart := false, narrowed := true }
def FnExactRayTurnUptoSaid : Prop := fnExactRayTurnUptoRow.holds Try.pinned (OpenSpec.upto fnExactRayTurnSpec)

/-- 'laws.FnExactPlaceTurn', WHERE WHAT IT READS IS OF BULK AT MOST 1048576: true; the input reads as it did. -/
def fnExactPlaceTurnUptoRow : OpenClaim := { program := "ytaldgpijgimekaa", sum := "1b8a9594947d29cfa34e348457bf8bcdcb4b5ed7af7b4a79a797702511528530", func := "loop.example/sundials/laws.FnExactPlaceTurn", spec := "fnExactPlaceTurn", apart := false, narrowed := true }
def FnExactPlaceTurnUptoSaid : Prop := fnExactPlaceTurnUptoRow.holds Try.pinned (OpenSpec.upto fnExactPlaceTurnSpec)

/-- 'laws.FnExactBlockTurn', WHERE WHAT IT READS IS OF BULK AT MOST 1048576: true; the input reads as it did. -/
def fnExactBlockTurnUptoRow : OpenClaim := { program := "ytaldgpijgimekaa", sum := "1b8a9594947d29cfa34e348457bf8bcdcb4b5ed7af7b4a79a797702511528530", func := "loop.example/sundials/laws.FnExactBlockTurn", spec := "fnExactBlockTurn", apart := false, narrowed := true }
def FnExactBlockTurnUptoSaid : Prop := fnExactBlockTurnUptoRow.holds Try.pinned (OpenSpec.upto fnExactBlockTurnSpec)

end Rows
end Go.Proofs.Ytaldgpijgimekaa
