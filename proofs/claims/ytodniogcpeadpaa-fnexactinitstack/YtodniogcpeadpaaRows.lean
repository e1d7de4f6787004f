/-
  No cell of these rows narrows 'for every input' (looked for: loops, veiled, ifaces, maps, wideKeys, modest, calm, conditions, laid).
  DERIVED. THE GIVEN ROWS OF THIS SEAT. 3 by the template 'for every input the law returns true; each argument reads behind the call as it read before'; 0 by the template 'total and deterministic' (their statements: YtodniogcpeadpaaTotals.lean).
  GIVEN WITH THE SEED: the statements are not yours to turn. If you find one false, say at which input.
  Laid BY PROGRAM, IN A SANDBOX (cutbox-rows.mjs): the forced cells as the released guide's own fill.sh prints them over the translation 4fed7faea139c66d… (all of the seat's roots in one cut). By AI agents, Wed Nov 11 2026. No macro, syntax, notation, axiom, sorry.
-/
import Derived.Test.YtodniogcpeadpaaChecked
import GoSem.Claim
import GoSem.ClaimJoined
import GoSem.ClaimMapViews
import Derived.JoinedTies
import Derived.KernelRfl
namespace Go.Proofs.Ytodniogcpeadpaa
/- THE CELL 'sum', in the pinned program and in every row, IS THE sha256 OF THE DUMP (.gsa) THAT YtodniogcpeadpaaProg.lean LOADS. Nothing in Lean hashes anything: it is a label: what it is worth is what the hold of that sum in a sandbox is worth. -/
noncomputable def Try.pinned : Pinned := { name := "ytodniogcpeadpaa", sum := "4fed7faea139c66d798501a3c3734687292a6d09aa5a5905cb1234507c7135ac", checked := Try.checked }
namespace Rows
def none {H : Type} : Left H := { results := [], args := [] }

/-- 'laws.FnExactStepSwap': WHATEVER THE INPUT: true; the input reads as it did. -/
def fnExactStepSwapSpec : ChangeSpec := { name := "fnExactStepSwap", fn := fun _ => fun
  | [d1, d2, d3] => { results := [.lit (.bool true)], args := [d1, d2, d3] }
  | _ => none }
def fnExactStepSwapRow : OpenClaim := { program := "ytodniogcpeadpaa", sum := "4fed7faea139c66d798501a3c3734687292a6d09aa5a5905cb1234507c7135ac", func := "loop.example/g00624/laws.FnExactStepSwap", spec := "fnExactStepSwap", unfollowed := true, recurses := true, apart := false }
def FnExactStepSwapSaid : Prop := fnExactStepSwapRow.holds Try.pinned (OpenSpec.ofChange fnExactStepSwapSpec)

/-- ITS FALSE NEIGHBOUR: 'it returns false'. Refute it at one input. -/
def fnExactStepSwapWrong : ChangeSpec := { name := "fnExactStepSwap", fn := fun _ => fun
  | [d1, d2, d3] => { results := [.lit (.bool false)], args := [d1, d2, d3] }
  | _ => none }
def FnExactStepSwapWrongFalsely : Prop := fnExactStepSwapRow.holds Try.pinned (OpenSpec.ofChange fnExactStepSwapWrong)

/-- 'laws.FnExactInitStack': WHATEVER THE INPUT: true; the input reads as it did. -/
def fnExactInitStackSpec : ChangeSpec := { name := "fnExactInitStack", fn := fun _ => fun
  | [d] => { results := [.lit (.bool true)], args := [d] }
  | _ => none }
def fnExactInitStackRow : OpenClaim := { program := "ytodniogcpeadpaa", sum := "4fed7faea139c66d798501a3c3734687292a6d09aa5a5905cb1234507c7135ac", func := "loop.example/g00624/laws.FnExactInitStack", spec := "fnExactInitStack", apart := false }
def FnExactInitStackSaid : Prop := fnExactInitStackRow.holds Try.pinned (OpenSpec.ofChange fnExactInitStackSpec)

/-- ITS FALSE NEIGHBOUR: 'it returns false'. Refute it at one input. -/
def fnExactInitStackWrong : ChangeSpec := { name := "fnExactInitStack", fn := fun _ => fun
  | [d] => { results := [.lit (.bool false)], args := [d] }
  | _ => none }
def FnExactInitStackWrongFalsely : Prop := fnExactInitStackRow.holds Try.pinned (OpenSpec.ofChange fnExactInitStackWrong)

/-- 'laws.FnExactStepStack': WHATEVER THE INPUT: true; the input reads as it did. -/
def fnExactStepStackSpec : ChangeSpec := { name := "fnExactStepStack", fn := fun _ => fun
  | [d1, d2] => { results := [.lit (.bool true)], args := [d1, d2] }
  | _ => none }
def fnExactStepStackRow : OpenClaim := { program := "ytodniogcpeadpaa", sum := "4fed7faea139c66d798501a3c3734687292a6d09aa5a5905cb1234507c7135ac", func := "loop.example/g00624/laws.FnExactStepStack", spec := "fnExactStepStack", apart := false }
def FnExactStepStackSaid : Prop := fnExactStepStackRow.holds Try.pinned (OpenSpec.ofChange fnExactStepStackSpec)

/-- ITS FALSE NEIGHBOUR: 'it returns false'. Refute it at one input. -/
def fnExactStepStackWrong : ChangeSpec := { name := "fnExactStepStack", fn := fun _ => fun
  | [d1, d2] => { results := [.lit (.bool false)], args := [d1, d2] }
  | _ => none }
def FnExactStepStackWrongFalsely : Prop := fnExactStepStackRow.holds Try.pinned (OpenSpec.ofChange fnExactStepStackWrong)

/- THE SECOND FORM. 'bulk': how many values and letters a reading holds, each counted each time it is reached (what is shared counts as often as it is met; a slice's spare places count too). A statement '..UptoSaid' is the law's where the arguments, and the package variables that the reading takes, are together of bulk at most 1048576: NARROWER than '..Said'. Prove '..Said' where nothing that the law and all that it calls make is longer than what came in: it says more and counts as full. Else prove '..UptoSaid'. A law counts once. -/
mutual
def uptoBulk {H : Type} : DataW H → Nat
  | .lit (.string bytes) => bytes.length + 1
  | .lit _ => 1
  | .nil => 1
  | .ptr d => uptoBulk d + 1
  | .slice elems spare => uptoBulkAll elems + uptoBulkAll spare + 1
  | .agg parts => uptoBulkAll parts + 1
  | .iface _ d => uptoBulk d + 1
  | .map entries => uptoBulkEntries entries + 1
  | .held _ => 1
def uptoBulkAll {H : Type} : List (DataW H) → Nat
  | [] => 0
  | d :: r => uptoBulk d + uptoBulkAll r
def uptoBulkEntries {H : Type} : List (Lit × DataW H) → Nat
  | [] => 0
  | x :: r => uptoBulkEntry x + uptoBulkEntries r
def uptoBulkEntry {H : Type} : Lit × DataW H → Nat
  | (.string bytes, d) => bytes.length + uptoBulk d + 1
  | (_, d) => uptoBulk d + 1
 end
def uptoSmall : (H : Type) → List (DataW H) → Bool := fun _ ds => decide (uptoBulkAll ds ≤ 1048576)
def OpenSpec.upto (s : _root_.Go.ChangeSpec) : _root_.Go.OpenSpec := { _root_.Go.OpenSpec.ofChange s with cond := some uptoSmall }

/-- 'laws.FnExactStepSwap', WHERE WHAT IT READS IS OF BULK AT MOST 1048576: true; the input reads as it did. -/
def fnExactStepSwapUptoRow : OpenClaim := { program := "ytodniogcpeadpaa", sum := "4fed7faea139c66d798501a3c3734687292a6d09aa5a5905cb1234507c7135ac", func := "loop.example/g00624/laws.FnExactStepSwap", spec := "fnExactStepSwap", unfollowed := true, recurses := true, apart := false, narrowed := true }
def FnExactStepSwapUptoSaid : Prop := fnExactStepSwapUptoRow.holds Try.pinned (OpenSpec.upto fnExactStepSwapSpec)

/-- 'laws.FnExactInitStack', WHERE WHAT IT READS IS OF BULK AT MOST 1048576: true; the input reads as it did. -/
def fnExactInitStackUptoRow : OpenClaim := { program := "ytodniogcpeadpaa", sum := "4fed7faea139c66d798501a3c3734687292a6d09aa5a5905cb1234507c7135ac", func := "loop.example/g00624/laws.FnExactInitStack", spec := "fnExactInitStack", apart := false, narrowed := true }
def FnExactInitStackUptoSaid : Prop := fnExactInitStackUptoRow.holds Try.pinned (OpenSpec.upto fnExactInitStackSpec)

/-- 'laws.FnExactStepStack', WHERE WHAT IT READS IS OF BULK AT MOST 1048576: true; the input reads as it did. -/
def fnExactStepStackUptoRow : OpenClaim := { program := "ytodniogcpeadpaa", sum := "4fed7faea139c66d798501a3c3734687292a6d09aa5a5905cb1234507c7135ac", func := "loop.example/g00624/laws.FnExactStepStack", spec := "fnExactStepStack", apart := false, narrowed := true }
def FnExactStepStackUptoSaid : Prop := fnExactStepStackUptoRow.holds Try.pinned (OpenSpec.upto fnExactStepStackSpec)

end Rows
end Go.Proofs.Ytodniogcpeadpaa
