/-
  No cell of these rows narrows 'for every input' (looked for: loops, veiled, ifaces, maps, wideKeys, modest, calm, conditions, laid).
  DERIVED. THE GIVEN ROWS OF THIS SEAT. 8 by the template 'for every input the law returns true; each argument reads behind the call as it read before'; 0 by the template 'total and deterministic' (their statements: YtiogebflfnicgaaTotals.lean).
  GIVEN WITH THE SEED: the statements are not yours to turn. If you find one false, say at which input.
  Laid BY PROGRAM, IN A SANDBOX (cutbox-rows.mjs): the forced cells as the released guide's own fill.sh prints them over the translation 82fdd3ddb3c2ef43… (all of the seat's roots in one cut). By AI agents, Wed Nov 11 2026. No macro, syntax, notation, axiom, sorry.
-/
import Derived.Test.YtiogebflfnicgaaChecked
import GoSem.Claim
import GoSem.ClaimJoined
import GoSem.ClaimMapViews
import Derived.JoinedTies
import Derived.KernelRfl
namespace Go.Proofs.Ytiogebflfnicgaa
/- THE CELL 'sum', in the pinned program and in every row, IS THE sha256 OF THE DUMP (.gsa) THAT YtiogebflfnicgaaProg.lean LOADS. Nothing in Lean hashes anything: it is a label: what it is worth is what the hold of that sum in a sandbox is worth. -/
noncomputable def Try.pinned : Pinned := { name := "ytiogebflfnicgaa", sum := "82fdd3ddb3c2ef43298b13f756e50b675be7c64b21982c33f9e98745bd6f03ce", checked := Try.checked }
namespace Rows
def none {H : Type} : Left H := { results := [], args := [] }

/-- 'laws.FnExactModelOK': WHATEVER THE INPUT: true; the input reads as it did. -/
def fnExactModelOKSpec : ChangeSpec := { name := "fnExactModelOK", fn := fun _ => fun
  | [d] => { results := [.lit (.bool true)], args := [d] }
  | _ => none }
def fnExactModelOKRow : OpenClaim := { program := "ytiogebflfnicgaa", sum := "82fdd3ddb3c2ef43298b13f756e50b675be7c64b21982c33f9e98745bd6f03ce", func := "loop.example/g00624/laws.FnExactModelOK", spec := "fnExactModelOK", unfollowed := true, recurses := true, apart := false }
def FnExactModelOKSaid : Prop := fnExactModelOKRow.holds Try.pinned (OpenSpec.ofChange fnExactModelOKSpec)

/-- ITS FALSE NEIGHBOUR: 'it returns false'. Refute it at one input. -/
def fnExactModelOKWrong : ChangeSpec := { name := "fnExactModelOK", fn := fun _ => fun
  | [d] => { results := [.lit (.bool false)], args := [d] }
  | _ => none }
def FnExactModelOKWrongFalsely : Prop := fnExactModelOKRow.holds Try.pinned (OpenSpec.ofChange fnExactModelOKWrong)

/-- 'laws.FnExactModelHolds': WHATEVER THE INPUT: true; the input reads as it did. -/
def fnExactModelHoldsSpec : ChangeSpec := { name := "fnExactModelHolds", fn := fun _ => fun
  | [d] => { results := [.lit (.bool true)], args := [d] }
  | _ => none }
def fnExactModelHoldsRow : OpenClaim := { program := "ytiogebflfnicgaa", sum := "82fdd3ddb3c2ef43298b13f756e50b675be7c64b21982c33f9e98745bd6f03ce", func := "loop.example/g00624/laws.FnExactModelHolds", spec := "fnExactModelHolds", unfollowed := true, recurses := true, apart := false }
def FnExactModelHoldsSaid : Prop := fnExactModelHoldsRow.holds Try.pinned (OpenSpec.ofChange fnExactModelHoldsSpec)

/-- ITS FALSE NEIGHBOUR: 'it returns false'. Refute it at one input. -/
def fnExactModelHoldsWrong : ChangeSpec := { name := "fnExactModelHolds", fn := fun _ => fun
  | [d] => { results := [.lit (.bool false)], args := [d] }
  | _ => none }
def FnExactModelHoldsWrongFalsely : Prop := fnExactModelHoldsRow.holds Try.pinned (OpenSpec.ofChange fnExactModelHoldsWrong)

/-- 'laws.FnExactSameModel': WHATEVER THE INPUT: true; the input reads as it did. -/
def fnExactSameModelSpec : ChangeSpec := { name := "fnExactSameModel", fn := fun _ => fun
  | [d1, d2] => { results := [.lit (.bool true)], args := [d1, d2] }
  | _ => none }
def fnExactSameModelRow : OpenClaim := { program := "ytiogebflfnicgaa", sum := "82fdd3ddb3c2ef43298b13f756e50b675be7c64b21982c33f9e98745bd6f03ce", func := "loop.example/g00624/laws.FnExactSameModel", spec := "fnExactSameModel", unfollowed := true, recurses := true, apart := false }
def FnExactSameModelSaid : Prop := fnExactSameModelRow.holds Try.pinned (OpenSpec.ofChange fnExactSameModelSpec)

/-- ITS FALSE NEIGHBOUR: 'it returns false'. Refute it at one input. -/
def fnExactSameModelWrong : ChangeSpec := { name := "fnExactSameModel", fn := fun _ => fun
  | [d1, d2] => { results := [.lit (.bool false)], args := [d1, d2] }
  | _ => none }
def FnExactSameModelWrongFalsely : Prop := fnExactSameModelRow.holds Try.pinned (OpenSpec.ofChange fnExactSameModelWrong)

/-- 'laws.FnExactModelCall': WHATEVER THE INPUT: true; the input reads as it did. -/
def fnExactModelCallSpec : ChangeSpec := { name := "fnExactModelCall", fn := fun _ => fun
  | [d1, d2] => { results := [.lit (.bool true)], args := [d1, d2] }
  | _ => none }
def fnExactModelCallRow : OpenClaim := { program := "ytiogebflfnicgaa", sum := "82fdd3ddb3c2ef43298b13f756e50b675be7c64b21982c33f9e98745bd6f03ce", func := "loop.example/g00624/laws.FnExactModelCall", spec := "fnExactModelCall", unfollowed := true, recurses := true, apart := false }
def FnExactModelCallSaid : Prop := fnExactModelCallRow.holds Try.pinned (OpenSpec.ofChange fnExactModelCallSpec)

/-- ITS FALSE NEIGHBOUR: 'it returns false'. Refute it at one input. -/
def fnExactModelCallWrong : ChangeSpec := { name := "fnExactModelCall", fn := fun _ => fun
  | [d1, d2] => { results := [.lit (.bool false)], args := [d1, d2] }
  | _ => none }
def FnExactModelCallWrongFalsely : Prop := fnExactModelCallRow.holds Try.pinned (OpenSpec.ofChange fnExactModelCallWrong)

/-- 'laws.FnExactModelLeave': WHATEVER THE INPUT: true; the input reads as it did. -/
def fnExactModelLeaveSpec : ChangeSpec := { name := "fnExactModelLeave", fn := fun _ => fun
  | [d1, d2] => { results := [.lit (.bool true)], args := [d1, d2] }
  | _ => none }
def fnExactModelLeaveRow : OpenClaim := { program := "ytiogebflfnicgaa", sum := "82fdd3ddb3c2ef43298b13f756e50b675be7c64b21982c33f9e98745bd6f03ce", func := "loop.example/g00624/laws.FnExactModelLeave", spec := "fnExactModelLeave", unfollowed := true, recurses := true, apart := false }
def FnExactModelLeaveSaid : Prop := fnExactModelLeaveRow.holds Try.pinned (OpenSpec.ofChange fnExactModelLeaveSpec)

/-- ITS FALSE NEIGHBOUR: 'it returns false'. Refute it at one input. -/
def fnExactModelLeaveWrong : ChangeSpec := { name := "fnExactModelLeave", fn := fun _ => fun
  | [d1, d2] => { results := [.lit (.bool false)], args := [d1, d2] }
  | _ => none }
def FnExactModelLeaveWrongFalsely : Prop := fnExactModelLeaveRow.holds Try.pinned (OpenSpec.ofChange fnExactModelLeaveWrong)

/-- 'laws.FnModel': WHATEVER THE INPUT: true; the input reads as it did. -/
def fnModelSpec : ChangeSpec := { name := "fnModel", fn := fun _ => fun
  | [d1, d2] => { results := [.lit (.bool true)], args := [d1, d2] }
  | _ => none }
def fnModelRow : OpenClaim := { program := "ytiogebflfnicgaa", sum := "82fdd3ddb3c2ef43298b13f756e50b675be7c64b21982c33f9e98745bd6f03ce", func := "loop.example/g00624/laws.FnModel", spec := "fnModel", unfollowed := true, recurses := true, apart := false }
def FnModelSaid : Prop := fnModelRow.holds Try.pinned (OpenSpec.ofChange fnModelSpec)

/-- ITS FALSE NEIGHBOUR: 'it returns false'. Refute it at one input. -/
def fnModelWrong : ChangeSpec := { name := "fnModel", fn := fun _ => fun
  | [d1, d2] => { results := [.lit (.bool false)], args := [d1, d2] }
  | _ => none }
def FnModelWrongFalsely : Prop := fnModelRow.holds Try.pinned (OpenSpec.ofChange fnModelWrong)

/-- 'laws.FnExactSameMachine': WHATEVER THE INPUT: true; the input reads as it did. -/
def fnExactSameMachineSpec : ChangeSpec := { name := "fnExactSameMachine", fn := fun _ => fun
  | [d1, d2] => { results := [.lit (.bool true)], args := [d1, d2] }
  | _ => none }
def fnExactSameMachineRow : OpenClaim := { program := "ytiogebflfnicgaa", sum := "82fdd3ddb3c2ef43298b13f756e50b675be7c64b21982c33f9e98745bd6f03ce", func := "loop.example/g00624/laws.FnExactSameMachine", spec := "fnExactSameMachine", apart := false }
def FnExactSameMachineSaid : Prop := fnExactSameMachineRow.holds Try.pinned (OpenSpec.ofChange fnExactSameMachineSpec)

/-- ITS FALSE NEIGHBOUR: 'it returns false'. Refute it at one input. -/
def fnExactSameMachineWrong : ChangeSpec := { name := "fnExactSameMachine", fn := fun _ => fun
  | [d1, d2] => { results := [.lit (.bool false)], args := [d1, d2] }
  | _ => none }
def FnExactSameMachineWrongFalsely : Prop := fnExactSameMachineRow.holds Try.pinned (OpenSpec.ofChange fnExactSameMachineWrong)

/-- 'laws.FnExactConcurrent': WHATEVER THE INPUT: true; the input reads as it did. -/
def fnExactConcurrentSpec : ChangeSpec := { name := "fnExactConcurrent", fn := fun _ => fun
  | [d] => { results := [.lit (.bool true)], args := [d] }
  | _ => none }
def fnExactConcurrentRow : OpenClaim := { program := "ytiogebflfnicgaa", sum := "82fdd3ddb3c2ef43298b13f756e50b675be7c64b21982c33f9e98745bd6f03ce", func := "loop.example/g00624/laws.FnExactConcurrent", spec := "fnExactConcurrent", apart := false }
def FnExactConcurrentSaid : Prop := fnExactConcurrentRow.holds Try.pinned (OpenSpec.ofChange fnExactConcurrentSpec)

/-- ITS FALSE NEIGHBOUR: 'it returns false'. Refute it at one input. -/
def fnExactConcurrentWrong : ChangeSpec := { name := "fnExactConcurrent", fn := fun _ => fun
  | [d] => { results := [.lit (.bool false)], args := [d] }
  | _ => none }
def FnExactConcurrentWrongFalsely : Prop := fnExactConcurrentRow.holds Try.pinned (OpenSpec.ofChange fnExactConcurrentWrong)

/- THE SECOND FORM. 'bulk': how many values and letters a reading holds, each counted each time it is reached (what is shared counts as often as it is met; a slice's spare places count too). A statement '..UptoSaid' is the law's where the arguments, and the package variables that the reading takes, are together of bulk at most 1048576: NARROWER than '..Said'. Prove '..Said' where nothing that the law and all that it calls make is longer than what came in: it says more and counts as full. Else prove '..UptoSaid'. A law counts once. -/
mutual
def uptoBulk {H : Type} : DataW H → Nat
  | .lit (.string bytes) => bytes.length + 1
  | .lit _ => 1
  | .nil => 1
  | .ptr d => uptoBulk d + 1
  | .slice elems spare => uptoBulkAll elems + uptoBulkAll spare + 1
  | .agg parts => uptoBulkAll parts + 1
  | .iface _ d => uptoBulk d + 1
  | .map entries => uptoBulkEntries entries + 1
  | .held _ => 1
def uptoBulkAll {H : Type} : List (DataW H) → Nat
  | [] => 0
  | d :: r => uptoBulk d + uptoBulkAll r
def uptoBulkEntries {H : Type} : List (Lit × DataW H) → Nat
  | [] => 0
  | x :: r => uptoBulkEntry x + uptoBulkEntries r
def uptoBulkEntry {H : Type} : Lit × DataW H → Nat
  | (.string bytes, d) => bytes.length + uptoBulk d + 1
  | (_, d) => uptoBulk d + 1
 end
def uptoSmall : (H : Type) → List (DataW H) → Bool := fun _ ds => decide (uptoBulkAll ds ≤ 1048576)
def OpenSpec.upto (s : _root_.Go.ChangeSpec) : _root_.Go.OpenSpec := { _root_.Go.OpenSpec.ofChange s with cond := some uptoSmall }

/-- 'laws.FnExactModelOK', WHERE WHAT IT READS IS OF BULK AT MOST 1048576: true; the input reads as it did. -/
def fnExactModelOKUptoRow : OpenClaim := { program := "ytiogebflfnicgaa", sum := "82fdd3ddb3c2ef43298b13f756e50b675be7c64b21982c33f9e98745bd6f03ce", func := "loop.example/g00624/laws.FnExactModelOK", spec := "fnExactModelOK", unfollowed := true, recurses := true, apart := false, narrowed := true }
def FnExactModelOKUptoSaid : Prop := fnExactModelOKUptoRow.holds Try.pinned (OpenSpec.upto fnExactModelOKSpec)

/-- 'laws.FnExactModelHolds', WHERE WHAT IT READS IS OF BULK AT MOST 1048576: true; the input reads as it did. -/
def fnExactModelHoldsUptoRow : OpenClaim := { program := "ytiogebflfnicgaa", sum := "82fdd3ddb3c2ef43298b13f756e50b675be7c64b21982c33f9e98745bd6f03ce", func := "loop.example/g00624/laws.FnExactModelHolds", spec := "fnExactModelHolds", unfollowed := true, recurses := true, apart := false, narrowed := true }
def FnExactModelHoldsUptoSaid : Prop := fnExactModelHoldsUptoRow.holds Try.pinned (OpenSpec.upto fnExactModelHoldsSpec)

/-- 'laws.FnExactSameModel', WHERE WHAT IT READS IS OF BULK AT MOST 1048576: true; the input reads as it did. -/
def fnExactSameModelUptoRow : OpenClaim := { program := "ytiogebflfnicgaa", sum := "82fdd3ddb3c2ef43298b13f756e50b675be7c64b21982c33f9e98745bd6f03ce", func := "loop.example/g00624/laws.FnExactSameModel", spec := "fnExactSameModel", unfollowed := true, recurses := true, apart := false, narrowed := true }
def FnExactSameModelUptoSaid : Prop := fnExactSameModelUptoRow.holds Try.pinned (OpenSpec.upto fnExactSameModelSpec)

/-- 'laws.FnExactModelCall', WHERE WHAT IT READS IS OF BULK AT MOST 1048576: true; the input reads as it did. -/
def fnExactModelCallUptoRow : OpenClaim := { program := "ytiogebflfnicgaa", sum := "82fdd3ddb3c2ef43298b13f756e50b675be7c64b21982c33f9e98745bd6f03ce", func := "loop.example/g00624/laws.FnExactModelCall", spec := "fnExactModelCall", unfollowed := true, recurses := true, apart := false, narrowed := true }
def FnExactModelCallUptoSaid : Prop := fnExactModelCallUptoRow.holds Try.pinned (OpenSpec.upto fnExactModelCallSpec)

/-- 'laws.FnExactModelLeave', WHERE WHAT IT READS IS OF BULK AT MOST 1048576: true; the input reads as it did. -/
def fnExactModelLeaveUptoRow : OpenClaim := { program := "ytiogebflfnicgaa", sum := "82fdd3ddb3c2ef43298b13f756e50b675be7c64b21982c33f9e98745bd6f03ce", func := "loop.example/g00624/laws.FnExactModelLeave", spec := "fnExactModelLeave", unfollowed := true, recurses := true, apart := false, narrowed := true }
def FnExactModelLeaveUptoSaid : Prop := fnExactModelLeaveUptoRow.holds Try.pinned (OpenSpec.upto fnExactModelLeaveSpec)

/-- 'laws.FnModel', WHERE WHAT IT READS IS OF BULK AT MOST 1048576: true; the input reads as it did. -/
def fnModelUptoRow : OpenClaim := { program := "ytiogebflfnicgaa", sum := "82fdd3ddb3c2ef43298b13f756e50b675be7c64b21982c33f9e98745bd6f03ce", func := "loop.example/g00624/laws.FnModel", spec := "fnModel", unfollowed := true, recurses := true, apart := false, narrowed := true }
def FnModelUptoSaid : Prop := fnModelUptoRow.holds Try.pinned (OpenSpec.upto fnModelSpec)

/-- 'laws.FnExactSameMachine', WHERE WHAT IT READS IS OF BULK AT MOST 1048576: true; the input reads as it did. -/
def fnExactSameMachineUptoRow : OpenClaim := { program := "ytiogebflfnicgaa", sum := "82fdd3ddb3c2ef43298b13f756e50b675be7c64b21982c33f9e98745bd6f03ce", func := "loop.example/g00624/laws.FnExactSameMachine", spec := "fnExactSameMachine", apart := false, narrowed := true }
def FnExactSameMachineUptoSaid : Prop := fnExactSameMachineUptoRow.holds Try.pinned (OpenSpec.upto fnExactSameMachineSpec)

/-- 'laws.FnExactConcurrent', WHERE WHAT IT READS IS OF BULK AT MOST 1048576: true; the input reads as it did. -/
def fnExactConcurrentUptoRow : OpenClaim := { program := "ytiogebflfnicgaa", sum := "82fdd3ddb3c2ef43298b13f756e50b675be7c64b21982c33f9e98745bd6f03ce", func := "loop.example/g00624/laws.FnExactConcurrent", spec := "fnExactConcurrent", apart := false, narrowed := true }
def FnExactConcurrentUptoSaid : Prop := fnExactConcurrentUptoRow.holds Try.pinned (OpenSpec.upto fnExactConcurrentSpec)

end Rows
end Go.Proofs.Ytiogebflfnicgaa
