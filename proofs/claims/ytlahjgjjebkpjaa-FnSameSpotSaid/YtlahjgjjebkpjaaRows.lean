/-
  No cell of these rows narrows 'for every input' (looked for: loops, veiled, ifaces, maps, wideKeys, modest, calm, conditions, laid).
  DERIVED. THE GIVEN ROWS OF THIS SEAT. 9 by the template 'for every input the law returns true; each argument reads behind the call as it read before'; 0 by the template 'total and deterministic' (their statements: YtlahjgjjebkpjaaTotals.lean).
  GIVEN WITH THE SEED: the statements are not yours to turn. If you find one false, say at which input.
  Laid BY PROGRAM, IN A SANDBOX (cutbox-rows.mjs): the forced cells as the released guide's own fill.sh prints them over the translation 99df15c446515fb6… (all of the seat's roots in one cut). By AI agents, Wed Nov 11 2026. No macro, syntax, notation, axiom, sorry.
-/
import Derived.Test.YtlahjgjjebkpjaaChecked
import GoSem.Claim
import GoSem.ClaimJoined
import GoSem.ClaimMapViews
import Derived.JoinedTies
import Derived.KernelRfl
namespace Go.Proofs.Ytlahjgjjebkpjaa
/- THE CELL 'sum', in the pinned program and in every row, IS THE sha256 OF THE DUMP (.gsa) THAT YtlahjgjjebkpjaaProg.lean LOADS. Nothing in Lean hashes anything: it is a label: what it is worth is what the hold of that sum in a sandbox is worth. -/
noncomputable def Try.pinned : Pinned := { name := "ytlahjgjjebkpjaa", sum := "99df15c446515fb69aec5f0bb7a74e38dcf6f9e2c9817a28bc17370887997996", checked := Try.checked }
namespace Rows
def none {H : Type} : Left H := { results := [], args := [] }

/-- 'laws.FnPlaceValid': WHATEVER THE INPUT: true; the input reads as it did. -/
def fnPlaceValidSpec : ChangeSpec := { name := "fnPlaceValid", fn := fun _ => fun
  | [d] => { results := [.lit (.bool true)], args := [d] }
  | _ => none }
def fnPlaceValidRow : OpenClaim := { program := "ytlahjgjjebkpjaa", sum := "99df15c446515fb69aec5f0bb7a74e38dcf6f9e2c9817a28bc17370887997996", func := "loop.example/sundials/laws.FnPlaceValid", spec := "fnPlaceValid", apart := false }
def FnPlaceValidSaid : Prop := fnPlaceValidRow.holds Try.pinned (OpenSpec.ofChange fnPlaceValidSpec)

/-- ITS FALSE NEIGHBOUR: 'it returns false'. Refute it at one input. -/
def fnPlaceValidWrong : ChangeSpec := { name := "fnPlaceValid", fn := fun _ => fun
  | [d] => { results := [.lit (.bool false)], args := [d] }
  | _ => none }
def FnPlaceValidWrongFalsely : Prop := fnPlaceValidRow.holds Try.pinned (OpenSpec.ofChange fnPlaceValidWrong)

/-- 'laws.FnBlockValid': WHATEVER THE INPUT: true; the input reads as it did. -/
def fnBlockValidSpec : ChangeSpec := { name := "fnBlockValid", fn := fun _ => fun
  | [d] => { results := [.lit (.bool true)], args := [d] }
  | _ => none }
def fnBlockValidRow : OpenClaim := { program := "ytlahjgjjebkpjaa", sum := "99df15c446515fb69aec5f0bb7a74e38dcf6f9e2c9817a28bc17370887997996", func := "loop.example/sundials/laws.FnBlockValid", spec := "fnBlockValid", apart := false }
def FnBlockValidSaid : Prop := fnBlockValidRow.holds Try.pinned (OpenSpec.ofChange fnBlockValidSpec)

/-- ITS FALSE NEIGHBOUR: 'it returns false'. Refute it at one input. -/
def fnBlockValidWrong : ChangeSpec := { name := "fnBlockValid", fn := fun _ => fun
  | [d] => { results := [.lit (.bool false)], args := [d] }
  | _ => none }
def FnBlockValidWrongFalsely : Prop := fnBlockValidRow.holds Try.pinned (OpenSpec.ofChange fnBlockValidWrong)

/-- 'laws.FnRayValid': WHATEVER THE INPUT: true; the input reads as it did. -/
def fnRayValidSpec : ChangeSpec := { name := "fnRayValid", fn := fun _ => fun
  | [d] => { results := [.lit (.bool true)], args := [d] }
  | _ => none }
def fnRayValidRow : OpenClaim := { program := "ytlahjgjjebkpjaa", sum := "99df15c446515fb69aec5f0bb7a74e38dcf6f9e2c9817a28bc17370887997996", func := "loop.example/sundials/laws.FnRayValid", spec := "fnRayValid", apart := false }
def FnRayValidSaid : Prop := fnRayValidRow.holds Try.pinned (OpenSpec.ofChange fnRayValidSpec)

/-- ITS FALSE NEIGHBOUR: 'it returns false'. Refute it at one input. -/
def fnRayValidWrong : ChangeSpec := { name := "fnRayValid", fn := fun _ => fun
  | [d] => { results := [.lit (.bool false)], args := [d] }
  | _ => none }
def FnRayValidWrongFalsely : Prop := fnRayValidRow.holds Try.pinned (OpenSpec.ofChange fnRayValidWrong)

/-- 'laws.FnTipOf': WHATEVER THE INPUT: true; the input reads as it did. -/
def fnTipOfSpec : ChangeSpec := { name := "fnTipOf", fn := fun _ => fun
  | [d] => { results := [.lit (.bool true)], args := [d] }
  | _ => none }
def fnTipOfRow : OpenClaim := { program := "ytlahjgjjebkpjaa", sum := "99df15c446515fb69aec5f0bb7a74e38dcf6f9e2c9817a28bc17370887997996", func := "loop.example/sundials/laws.FnTipOf", spec := "fnTipOf", apart := false }
def FnTipOfSaid : Prop := fnTipOfRow.holds Try.pinned (OpenSpec.ofChange fnTipOfSpec)

/-- ITS FALSE NEIGHBOUR: 'it returns false'. Refute it at one input. -/
def fnTipOfWrong : ChangeSpec := { name := "fnTipOf", fn := fun _ => fun
  | [d] => { results := [.lit (.bool false)], args := [d] }
  | _ => none }
def FnTipOfWrongFalsely : Prop := fnTipOfRow.holds Try.pinned (OpenSpec.ofChange fnTipOfWrong)

/-- 'laws.FnSameSpot': WHATEVER THE INPUT: true; the input reads as it did. -/
def fnSameSpotSpec : ChangeSpec := { name := "fnSameSpot", fn := fun _ => fun
  | [d] => { results := [.lit (.bool true)], args := [d] }
  | _ => none }
def fnSameSpotRow : OpenClaim := { program := "ytlahjgjjebkpjaa", sum := "99df15c446515fb69aec5f0bb7a74e38dcf6f9e2c9817a28bc17370887997996", func := "loop.example/sundials/laws.FnSameSpot", spec := "fnSameSpot", apart := false }
def FnSameSpotSaid : Prop := fnSameSpotRow.holds Try.pinned (OpenSpec.ofChange fnSameSpotSpec)

/-- ITS FALSE NEIGHBOUR: 'it returns false'. Refute it at one input. -/
def fnSameSpotWrong : ChangeSpec := { name := "fnSameSpot", fn := fun _ => fun
  | [d] => { results := [.lit (.bool false)], args := [d] }
  | _ => none }
def FnSameSpotWrongFalsely : Prop := fnSameSpotRow.holds Try.pinned (OpenSpec.ofChange fnSameSpotWrong)

/-- 'laws.FnUnderBlock': WHATEVER THE INPUT: true; the input reads as it did. -/
def fnUnderBlockSpec : ChangeSpec := { name := "fnUnderBlock", fn := fun _ => fun
  | [d] => { results := [.lit (.bool true)], args := [d] }
  | _ => none }
def fnUnderBlockRow : OpenClaim := { program := "ytlahjgjjebkpjaa", sum := "99df15c446515fb69aec5f0bb7a74e38dcf6f9e2c9817a28bc17370887997996", func := "loop.example/sundials/laws.FnUnderBlock", spec := "fnUnderBlock", unfollowed := true, recurses := true, apart := false }
def FnUnderBlockSaid : Prop := fnUnderBlockRow.holds Try.pinned (OpenSpec.ofChange fnUnderBlockSpec)

/-- ITS FALSE NEIGHBOUR: 'it returns false'. Refute it at one input. -/
def fnUnderBlockWrong : ChangeSpec := { name := "fnUnderBlock", fn := fun _ => fun
  | [d] => { results := [.lit (.bool false)], args := [d] }
  | _ => none }
def FnUnderBlockWrongFalsely : Prop := fnUnderBlockRow.holds Try.pinned (OpenSpec.ofChange fnUnderBlockWrong)

/-- 'laws.FnRayTurn': WHATEVER THE INPUT: true; the input reads as it did. -/
def fnRayTurnSpec : ChangeSpec := { name := "fnRayTurn", fn := fun _ => fun
  | [d] => { results := [.lit (.bool true)], args := [d] }
  | _ => none }
def fnRayTurnRow : OpenClaim := { program := "ytlahjgjjebkpjaa", sum := "99df15c446515fb69aec5f0bb7a74e38dcf6f9e2c9817a28bc17370887997996", func := "loop.example/sundials/laws.FnRayTurn", spec := "fnRayTurn", apart := false }
def FnRayTurnSaid : Prop := fnRayTurnRow.holds Try.pinned (OpenSpec.ofChange fnRayTurnSpec)

/-- ITS FALSE NEIGHBOUR: 'it returns false'. Refute it at one input. -/
def fnRayTurnWrong : ChangeSpec := { name := "fnRayTurn", fn := fun _ => fun
  | [d] => { results := [.lit (.bool false)], args := [d] }
  | _ => none }
def FnRayTurnWrongFalsely : Prop := fnRayTurnRow.holds Try.pinned (OpenSpec.ofChange fnRayTurnWrong)

/-- 'laws.FnPlaceTurn': WHATEVER THE INPUT: true; the input reads as it did. -/
def fnPlaceTurnSpec : ChangeSpec := { name := "fnPlaceTurn", fn := fun _ => fun
  | [d] => { results := [.lit (.bool true)], args := [d] }
  | _ => none }
def fnPlaceTurnRow : OpenClaim := { program := "ytlahjgjjebkpjaa", sum := "99df15c446515fb69aec5f0bb7a74e38dcf6f9e2c9817a28bc17370887997996", func := "loop.example/sundials/laws.FnPlaceTurn", spec := "fnPlaceTurn", apart := false }
def FnPlaceTurnSaid : Prop := fnPlaceTurnRow.holds Try.pinned (OpenSpec.ofChange fnPlaceTurnSpec)

/-- ITS FALSE NEIGHBOUR: 'it returns false'. Refute it at one input. -/
def fnPlaceTurnWrong : ChangeSpec := { name := "fnPlaceTurn", fn := fun _ => fun
  | [d] => { results := [.lit (.bool false)], args := [d] }
  | _ => none }
def FnPlaceTurnWrongFalsely : Prop := fnPlaceTurnRow.holds Try.pinned (OpenSpec.ofChange fnPlaceTurnWrong)

/-- 'laws.FnBlockTurn': WHATEVER THE INPUT: true; the input reads as it did. -/
def fnBlockTurnSpec : ChangeSpec := { name := "fnBlockTurn", fn := fun _ => fun
  | [d] => { results := [.lit (.bool true)], args := [d] }
  | _ => none }
def fnBlockTurnRow : OpenClaim := { program := "ytlahjgjjebkpjaa", sum := "99df15c446515fb69aec5f0bb7a74e38dcf6f9e2c9817a28bc17370887997996", func := "loop.example/sundials/laws.FnBlockTurn", spec := "fnBlockTurn", apart := false }
def FnBlockTurnSaid : Prop := fnBlockTurnRow.holds Try.pinned (OpenSpec.ofChange fnBlockTurnSpec)

/-- ITS FALSE NEIGHBOUR: 'it returns false'. Refute it at one input. -/
def fnBlockTurnWrong : ChangeSpec := { name := "fnBlockTurn", fn := fun _ => fun
  | [d] => { results := [.lit (.bool false)], args := [d] }
  | _ => none }
def FnBlockTurnWrongFalsely : Prop := fnBlockTurnRow.holds Try.pinned (OpenSpec.ofChange fnBlockTurnWrong)

/- THE SECOND FORM. 'bulk': how many values and letters a reading holds, each counted each time it is reached (what is shared counts as often as it is met; a slice's spare places count too). A statement '..UptoSaid' is the law's where the arguments, and the package variables that the reading takes, are together of bulk at most 1048576: NARROWER than '..Said'. Prove '..Said' where nothing that the law and all that it calls make is longer than what came in: it says more and counts as full. Else prove '..UptoSaid'. A law counts once. -/
mutual
def uptoBulk {H : Type} : DataW H → Nat
  | .lit (.string bytes) => bytes.length + 1
  | .lit _ => 1
  | .nil => 1
  | .ptr d => uptoBulk d + 1
  | .slice elems spare => uptoBulkAll elems + uptoBulkAll spare + 1
  | .agg parts => uptoBulkAll parts + 1
  | .iface _ d => uptoBulk d + 1
  | .map entries => uptoBulkEntries entries + 1
  | .held _ => 1
def uptoBulkAll {H : Type} : List (DataW H) → Nat
  | [] => 0
  | d :: r => uptoBulk d + uptoBulkAll r
def uptoBulkEntries {H : Type} : List (Lit × DataW H) → Nat
  | [] => 0
  | x :: r => uptoBulkEntry x + uptoBulkEntries r
def uptoBulkEntry {H : Type} : Lit × DataW H → Nat
  | (.string bytes, d) => bytes.length + uptoBulk d + 1
  | (_, d) => uptoBulk d + 1
 end
def uptoSmall : (H : Type) → List (DataW H) → Bool := fun _ ds => decide (uptoBulkAll ds ≤ 1048576)
def OpenSpec.upto (s : _root_.Go.ChangeSpec) : _root_.Go.OpenSpec := { _root_.Go.OpenSpec.ofChange s with cond := some uptoSmall }

/-- 'laws.FnPlaceValid', WHERE WHAT IT READS IS OF BULK AT MOST 1048576: true; the input reads as it did. -/
def fnPlaceValidUptoRow : OpenClaim := { program := "ytlahjgjjebkpjaa", sum := "99df15c446515fb69aec5f0bb7a74e38dcf6f9e2c9817a28bc17370887997996", func := "loop.example/sundials/laws.FnPlaceValid", spec := "fnPlaceValid", apart := false, narrowed := true }
def FnPlaceValidUptoSaid : Prop := fnPlaceValidUptoRow.holds Try.pinned (OpenSpec.upto fnPlaceValidSpec)

/-- 'laws.FnBlockValid', WHERE WHAT IT READS IS OF BULK AT MOST 1048576: true; the input reads as it did. -/
def fnBlockValidUptoRow : OpenClaim := { program := "ytlahjgjjebkpjaa", sum := "99df15c446515fb69aec5f0bb7a74e38dcf6f9e2c9817a28bc17370887997996", func := "loop.example/sundials/laws.FnBlockValid", spec := "fnBlockValid", apart := false, narrowed := true }
def FnBlockValidUptoSaid : Prop := fnBlockValidUptoRow.holds Try.pinned (OpenSpec.upto fnBlockValidSpec)

/-- 'laws.FnRayValid', WHERE WHAT IT READS IS OF BULK AT MOST 1048576: true; the input reads as it did. -/
def fnRayValidUptoRow : OpenClaim := { program := "ytlahjgjjebkpjaa", sum := "99df15c446515fb69aec5f0bb7a74e38dcf6f9e2c9817a28bc17370887997996", func := "loop.example/sundials/laws.FnRayValid", spec := "fnRayValid", apart := false, narrowed := true }
def FnRayValidUptoSaid : Prop := fnRayValidUptoRow.holds Try.pinned (OpenSpec.upto fnRayValidSpec)

/-- 'laws.FnTipOf', WHERE WHAT IT READS IS OF BULK AT MOST 1048576: true; the input reads as it did. -/
def fnTipOfUptoRow : OpenClaim := { program := "ytlahjgjjebkpjaa", sum := "99df15c446515fb69aec5f0bb7a74e38dcf6f9e2c9817a28bc17370887997996", func := "loop.example/sundials/laws.FnTipOf", spec := "fnTipOf", apart := false, narrowed := true }
def FnTipOfUptoSaid : Prop := fnTipOfUptoRow.holds Try.pinned (OpenSpec.upto fnTipOfSpec)

/-- 'laws.FnSameSpot', WHERE WHAT IT READS IS OF BULK AT MOST 1048576: true; the input reads as it did. -/
def fnSameSpotUptoRow : OpenClaim := { program := "ytlahjgjjebkpjaa", sum := "99df15c446515fb69aec5f0bb7a74e38dcf6f9e2c9817a28bc17370887997996", func := "loop.example/sundials/laws.FnSameSpot", spec := "fnSameSpot", apart := false, narrowed := true }
def FnSameSpotUptoSaid : Prop := fnSameSpotUptoRow.holds Try.pinned (OpenSpec.upto fnSameSpotSpec)

/-- 'laws.FnUnderBlock', WHERE WHAT IT READS IS OF BULK AT MOST 1048576: true; the input reads as it did. -/
def fnUnderBlockUptoRow : OpenClaim := { program := "ytlahjgjjebkpjaa", sum := "99df15c446515fb69aec5f0bb7a74e38dcf6f9e2c9817a28bc17370887997996", func := "loop.example/sundials/laws.FnUnderBlock", spec := "fnUnderBlock", unfollowed := true, recurses := true, apart := false, narrowed := true }
def FnUnderBlockUptoSaid : Prop := fnUnderBlockUptoRow.holds Try.pinned (OpenSpec.upto fnUnderBlockSpec)

/-- 'laws.FnRayTurn', WHERE WHAT IT READS IS OF BULK AT MOST 1048576: true; the input reads as it did. -/
def fnRayTurnUptoRow : OpenClaim := { program := "ytlahjgjjebkpjaa", sum := "99df15c446515fb69aec5f0bb7a74e38dcf6f9e2c9817a28bc17370887997996", func := "loop.example/sundials/laws.FnRayTurn", spec := "fnRayTurn", apart := false, narrowed := true }
def FnRayTurnUptoSaid : Prop := fnRayTurnUptoRow.holds Try.pinned (OpenSpec.upto fnRayTurnSpec)

/-- 'laws.FnPlaceTurn', WHERE WHAT IT READS IS OF BULK AT MOST 1048576: true; the input reads as it did. -/
def fnPlaceTurnUptoRow : OpenClaim := { program := "ytlahjgjjebkpjaa", sum := "99df15c446515fb69aec5f0bb7a74e38dcf6f9e2c9817a28bc17370887997996", func := "loop.example/sundials/laws.FnPlaceTurn", spec := "fnPlaceTurn", apart := false, narrowed := true }
def FnPlaceTurnUptoSaid : Prop := fnPlaceTurnUptoRow.holds Try.pinned (OpenSpec.upto fnPlaceTurnSpec)

/-- 'laws.FnBlockTurn', WHERE WHAT IT READS IS OF BULK AT MOST 1048576: true; the input reads as it did. -/
def fnBlockTurnUptoRow : OpenClaim := { program := "ytlahjgjjebkpjaa", sum := "99df15c446515fb69aec5f0bb7a74e38dcf6f9e2c9817a28bc17370887997996", func := "loop.example/sundials/laws.FnBlockTurn", spec := "fnBlockTurn", apart := false, narrowed := true }
def FnBlockTurnUptoSaid : Prop := fnBlockTurnUptoRow.holds Try.pinned (OpenSpec.upto fnBlockTurnSpec)

end Rows
end Go.Proofs.Ytlahjgjjebkpjaa
