/-
  No cell of these rows narrows 'for every input' (looked for: loops, veiled, ifaces, maps, wideKeys, modest, calm, conditions, laid).
  DERIVED. THE GIVEN ROWS OF THIS SEAT. 4 by the template 'for every input the law returns true; each argument reads behind the call as it read before'; 0 by the template 'total and deterministic' (their statements: YtndaeciadcgkbaaTotals.lean).
  GIVEN WITH THE SEED: the statements are not yours to turn. If you find one false, say at which input.
  Laid BY PROGRAM, IN A SANDBOX (cutbox-rows.mjs): the forced cells as the released guide's own fill.sh prints them over the translation ff5629706040f5bf… (all of the seat's roots in one cut). By AI agents, Wed Nov 11 2026. No macro, syntax, notation, axiom, sorry.
-/
import Derived.Test.YtndaeciadcgkbaaChecked
import GoSem.Claim
import GoSem.ClaimJoined
import GoSem.ClaimMapViews
import Derived.JoinedTies
import Derived.KernelRfl
namespace Go.Proofs.Ytndaeciadcgkbaa
/- THE CELL 'sum', in the pinned program and in every row, IS THE sha256 OF THE DUMP (.gsa) THAT YtndaeciadcgkbaaProg.lean LOADS. Nothing in Lean hashes anything: it is a label: what it is worth is what the hold of that sum in a sandbox is worth. -/
noncomputable def Try.pinned : Pinned := { name := "ytndaeciadcgkbaa", sum := "ff5629706040f5bf83bd9f954be6934cb0f0ce59d61275086d9df73aaffce20a", checked := Try.checked }
namespace Rows
def none {H : Type} : Left H := { results := [], args := [] }

/-- 'laws.FnExactInitQueue': WHATEVER THE INPUT: true; the input reads as it did. -/
def fnExactInitQueueSpec : ChangeSpec := { name := "fnExactInitQueue", fn := fun _ => fun
  | [d] => { results := [.lit (.bool true)], args := [d] }
  | _ => none }
def fnExactInitQueueRow : OpenClaim := { program := "ytndaeciadcgkbaa", sum := "ff5629706040f5bf83bd9f954be6934cb0f0ce59d61275086d9df73aaffce20a", func := "loop.example/g00624/laws.FnExactInitQueue", spec := "fnExactInitQueue", apart := false }
def FnExactInitQueueSaid : Prop := fnExactInitQueueRow.holds Try.pinned (OpenSpec.ofChange fnExactInitQueueSpec)

/-- ITS FALSE NEIGHBOUR: 'it returns false'. Refute it at one input. -/
def fnExactInitQueueWrong : ChangeSpec := { name := "fnExactInitQueue", fn := fun _ => fun
  | [d] => { results := [.lit (.bool false)], args := [d] }
  | _ => none }
def FnExactInitQueueWrongFalsely : Prop := fnExactInitQueueRow.holds Try.pinned (OpenSpec.ofChange fnExactInitQueueWrong)

/-- 'laws.FnExactInitSwap': WHATEVER THE INPUT: true; the input reads as it did. -/
def fnExactInitSwapSpec : ChangeSpec := { name := "fnExactInitSwap", fn := fun _ => fun
  | [d] => { results := [.lit (.bool true)], args := [d] }
  | _ => none }
def fnExactInitSwapRow : OpenClaim := { program := "ytndaeciadcgkbaa", sum := "ff5629706040f5bf83bd9f954be6934cb0f0ce59d61275086d9df73aaffce20a", func := "loop.example/g00624/laws.FnExactInitSwap", spec := "fnExactInitSwap", apart := false }
def FnExactInitSwapSaid : Prop := fnExactInitSwapRow.holds Try.pinned (OpenSpec.ofChange fnExactInitSwapSpec)

/-- ITS FALSE NEIGHBOUR: 'it returns false'. Refute it at one input. -/
def fnExactInitSwapWrong : ChangeSpec := { name := "fnExactInitSwap", fn := fun _ => fun
  | [d] => { results := [.lit (.bool false)], args := [d] }
  | _ => none }
def FnExactInitSwapWrongFalsely : Prop := fnExactInitSwapRow.holds Try.pinned (OpenSpec.ofChange fnExactInitSwapWrong)

/-- 'laws.FnExactStepSwap': WHATEVER THE INPUT: true; the input reads as it did. -/
def fnExactStepSwapSpec : ChangeSpec := { name := "fnExactStepSwap", fn := fun _ => fun
  | [d1, d2, d3] => { results := [.lit (.bool true)], args := [d1, d2, d3] }
  | _ => none }
def fnExactStepSwapRow : OpenClaim := { program := "ytndaeciadcgkbaa", sum := "ff5629706040f5bf83bd9f954be6934cb0f0ce59d61275086d9df73aaffce20a", func := "loop.example/g00624/laws.FnExactStepSwap", spec := "fnExactStepSwap", unfollowed := true, recurses := true, apart := false }
def FnExactStepSwapSaid : Prop := fnExactStepSwapRow.holds Try.pinned (OpenSpec.ofChange fnExactStepSwapSpec)

/-- ITS FALSE NEIGHBOUR: 'it returns false'. Refute it at one input. -/
def fnExactStepSwapWrong : ChangeSpec := { name := "fnExactStepSwap", fn := fun _ => fun
  | [d1, d2, d3] => { results := [.lit (.bool false)], args := [d1, d2, d3] }
  | _ => none }
def FnExactStepSwapWrongFalsely : Prop := fnExactStepSwapRow.holds Try.pinned (OpenSpec.ofChange fnExactStepSwapWrong)

/-- 'laws.FnExactSwapOffer': WHATEVER THE INPUT: true; the input reads as it did. -/
def fnExactSwapOfferSpec : ChangeSpec := { name := "fnExactSwapOffer", fn := fun _ => fun
  | [d] => { results := [.lit (.bool true)], args := [d] }
  | _ => none }
def fnExactSwapOfferRow : OpenClaim := { program := "ytndaeciadcgkbaa", sum := "ff5629706040f5bf83bd9f954be6934cb0f0ce59d61275086d9df73aaffce20a", func := "loop.example/g00624/laws.FnExactSwapOffer", spec := "fnExactSwapOffer", apart := false }
def FnExactSwapOfferSaid : Prop := fnExactSwapOfferRow.holds Try.pinned (OpenSpec.ofChange fnExactSwapOfferSpec)

/-- ITS FALSE NEIGHBOUR: 'it returns false'. Refute it at one input. -/
def fnExactSwapOfferWrong : ChangeSpec := { name := "fnExactSwapOffer", fn := fun _ => fun
  | [d] => { results := [.lit (.bool false)], args := [d] }
  | _ => none }
def FnExactSwapOfferWrongFalsely : Prop := fnExactSwapOfferRow.holds Try.pinned (OpenSpec.ofChange fnExactSwapOfferWrong)

/- THE SECOND FORM. 'bulk': how many values and letters a reading holds, each counted each time it is reached (what is shared counts as often as it is met; a slice's spare places count too). A statement '..UptoSaid' is the law's where the arguments, and the package variables that the reading takes, are together of bulk at most 1048576: NARROWER than '..Said'. Prove '..Said' where nothing that the law and all that it calls make is longer than what came in: it says more and counts as full. Else prove '..UptoSaid'. A law counts once. -/
mutual
def uptoBulk {H : Type} : DataW H → Nat
  | .lit (.string bytes) => bytes.length + 1
  | .lit _ => 1
  | .nil => 1
  | .ptr d => uptoBulk d + 1
  | .slice elems spare => uptoBulkAll elems + uptoBulkAll spare + 1
  | .agg parts => uptoBulkAll parts + 1
  | .iface _ d => uptoBulk d + 1
  | .map entries => uptoBulkEntries entries + 1
  | .held _ => 1
def uptoBulkAll {H : Type} : List (DataW H) → Nat
  | [] => 0
  | d :: r => uptoBulk d + uptoBulkAll r
def uptoBulkEntries {H : Type} : List (Lit × DataW H) → Nat
  | [] => 0
  | x :: r => uptoBulkEntry x + uptoBulkEntries r
def uptoBulkEntry {H : Type} : Lit × DataW H → Nat
  | (.string bytes, d) => bytes.length + uptoBulk d + 1
  | (_, d) => uptoBulk d + 1
 end
def uptoSmall : (H : Type) → List (DataW H) → Bool := fun _ ds => decide (uptoBulkAll ds ≤ 1048576)
def OpenSpec.upto (s : _root_.Go.ChangeSpec) : _root_.Go.OpenSpec := { _root_.Go.OpenSpec.ofChange s with cond := some uptoSmall }

/-- 'laws.FnExactInitQueue', WHERE WHAT IT READS IS OF BULK AT MOST 1048576: true; the input reads as it did. -/
def fnExactInitQueueUptoRow : OpenClaim := { program := "ytndaeciadcgkbaa", sum := "ff5629706040f5bf83bd9f954be6934cb0f0ce59d61275086d9df73aaffce20a", func := "loop.example/g00624/laws.FnExactInitQueue", spec := "fnExactInitQueue", apart := false, narrowed := true }
def FnExactInitQueueUptoSaid : Prop := fnExactInitQueueUptoRow.holds Try.pinned (OpenSpec.upto fnExactInitQueueSpec)

/-- 'laws.FnExactInitSwap', WHERE WHAT IT READS IS OF BULK AT MOST 1048576: true; the input reads as it did. -/
def fnExactInitSwapUptoRow : OpenClaim := { program := "ytndaeciadcgkbaa", sum := "ff5629706040f5bf83bd9f954be6934cb0f0ce59d61275086d9df73aaffce20a", func := "loop.example/g00624/laws.FnExactInitSwap", spec := "fnExactInitSwap", apart := false, narrowed := true }
def FnExactInitSwapUptoSaid : Prop := fnExactInitSwapUptoRow.holds Try.pinned (OpenSpec.upto fnExactInitSwapSpec)

/-- 'laws.FnExactStepSwap', WHERE WHAT IT READS IS OF BULK AT MOST 1048576: true; the input reads as it did. -/
def fnExactStepSwapUptoRow : OpenClaim := { program := "ytndaeciadcgkbaa", sum := "ff5629706040f5bf83bd9f954be6934cb0f0ce59d61275086d9df73aaffce20a", func := "loop.example/g00624/laws.FnExactStepSwap", spec := "fnExactStepSwap", unfollowed := true, recurses := true, apart := false, narrowed := true }
def FnExactStepSwapUptoSaid : Prop := fnExactStepSwapUptoRow.holds Try.pinned (OpenSpec.upto fnExactStepSwapSpec)

/-- 'laws.FnExactSwapOffer', WHERE WHAT IT READS IS OF BULK AT MOST 1048576: true; the input reads as it did. -/
def fnExactSwapOfferUptoRow : OpenClaim := { program := "ytndaeciadcgkbaa", sum := "ff5629706040f5bf83bd9f954be6934cb0f0ce59d61275086d9df73aaffce20a", func := "loop.example/g00624/laws.FnExactSwapOffer", spec := "fnExactSwapOffer", apart := false, narrowed := true }
def FnExactSwapOfferUptoSaid : Prop := fnExactSwapOfferUptoRow.holds Try.pinned (OpenSpec.upto fnExactSwapOfferSpec)

end Rows
end Go.Proofs.Ytndaeciadcgkbaa
