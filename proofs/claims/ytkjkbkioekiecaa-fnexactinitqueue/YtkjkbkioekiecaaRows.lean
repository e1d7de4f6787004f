/-
  No cell of these rows narrows 'for every input' (looked for: loops, veiled, ifaces, maps, wideKeys, modest, calm, conditions, laid).
  DERIVED. THE GIVEN ROWS OF THIS SEAT. 7 by the template 'for every input the law returns true; each argument reads behind the call as it read before'; 0 by the template 'total and deterministic' (their statements: YtkjkbkioekiecaaTotals.lean).
  GIVEN WITH THE SEED: the statements are not yours to turn. If you find one false, say at which input.
  Laid BY PROGRAM, IN A SANDBOX (cutbox-rows.mjs): the forced cells as the released guide's own fill.sh prints them over the translation 003bad468415b1dd… (all of the seat's roots in one cut). By AI agents, Wed Nov 11 2026. No macro, syntax, notation, axiom, sorry.
-/
import Derived.Test.YtkjkbkioekiecaaChecked
import GoSem.Claim
import GoSem.ClaimJoined
import GoSem.ClaimMapViews
import Derived.JoinedTies
import Derived.KernelRfl
namespace Go.Proofs.Ytkjkbkioekiecaa
/- THE CELL 'sum', in the pinned program and in every row, IS THE sha256 OF THE DUMP (.gsa) THAT YtkjkbkioekiecaaProg.lean LOADS. Nothing in Lean hashes anything: it is a label: what it is worth is what the hold of that sum in a sandbox is worth. -/
noncomputable def Try.pinned : Pinned := { name := "ytkjkbkioekiecaa", sum := "003bad468415b1dd6da7e69e1a81b9e92a6a99d2b43354dd30b84c841f145596", checked := Try.checked }
namespace Rows
def none {H : Type} : Left H := { results := [], args := [] }

/-- 'laws.FnRefs': WHATEVER THE INPUT: true; the input reads as it did. -/
def fnRefsSpec : ChangeSpec := { name := "fnRefs", fn := fun _ => fun
  | [d] => { results := [.lit (.bool true)], args := [d] }
  | _ => none }
def fnRefsRow : OpenClaim := { program := "ytkjkbkioekiecaa", sum := "003bad468415b1dd6da7e69e1a81b9e92a6a99d2b43354dd30b84c841f145596", func := "loop.example/g00624/laws.FnRefs", spec := "fnRefs", apart := false }
def FnRefsSaid : Prop := fnRefsRow.holds Try.pinned (OpenSpec.ofChange fnRefsSpec)

/-- ITS FALSE NEIGHBOUR: 'it returns false'. Refute it at one input. -/
def fnRefsWrong : ChangeSpec := { name := "fnRefs", fn := fun _ => fun
  | [d] => { results := [.lit (.bool false)], args := [d] }
  | _ => none }
def FnRefsWrongFalsely : Prop := fnRefsRow.holds Try.pinned (OpenSpec.ofChange fnRefsWrong)

/-- 'laws.FnAccess': WHATEVER THE INPUT: true; the input reads as it did. -/
def fnAccessSpec : ChangeSpec := { name := "fnAccess", fn := fun _ => fun
  | [d1, d2] => { results := [.lit (.bool true)], args := [d1, d2] }
  | _ => none }
def fnAccessRow : OpenClaim := { program := "ytkjkbkioekiecaa", sum := "003bad468415b1dd6da7e69e1a81b9e92a6a99d2b43354dd30b84c841f145596", func := "loop.example/g00624/laws.FnAccess", spec := "fnAccess", unfollowed := true, recurses := true, apart := false }
def FnAccessSaid : Prop := fnAccessRow.holds Try.pinned (OpenSpec.ofChange fnAccessSpec)

/-- ITS FALSE NEIGHBOUR: 'it returns false'. Refute it at one input. -/
def fnAccessWrong : ChangeSpec := { name := "fnAccess", fn := fun _ => fun
  | [d1, d2] => { results := [.lit (.bool false)], args := [d1, d2] }
  | _ => none }
def FnAccessWrongFalsely : Prop := fnAccessRow.holds Try.pinned (OpenSpec.ofChange fnAccessWrong)

/-- 'laws.FnExactNodeRef': WHATEVER THE INPUT: true; the input reads as it did. -/
def fnExactNodeRefSpec : ChangeSpec := { name := "fnExactNodeRef", fn := fun _ => fun
  | [d1, d2] => { results := [.lit (.bool true)], args := [d1, d2] }
  | _ => none }
def fnExactNodeRefRow : OpenClaim := { program := "ytkjkbkioekiecaa", sum := "003bad468415b1dd6da7e69e1a81b9e92a6a99d2b43354dd30b84c841f145596", func := "loop.example/g00624/laws.FnExactNodeRef", spec := "fnExactNodeRef", apart := false }
def FnExactNodeRefSaid : Prop := fnExactNodeRefRow.holds Try.pinned (OpenSpec.ofChange fnExactNodeRefSpec)

/-- ITS FALSE NEIGHBOUR: 'it returns false'. Refute it at one input. -/
def fnExactNodeRefWrong : ChangeSpec := { name := "fnExactNodeRef", fn := fun _ => fun
  | [d1, d2] => { results := [.lit (.bool false)], args := [d1, d2] }
  | _ => none }
def FnExactNodeRefWrongFalsely : Prop := fnExactNodeRefRow.holds Try.pinned (OpenSpec.ofChange fnExactNodeRefWrong)

/-- 'laws.FnExactNodeAt': WHATEVER THE INPUT: true; the input reads as it did. -/
def fnExactNodeAtSpec : ChangeSpec := { name := "fnExactNodeAt", fn := fun _ => fun
  | [d] => { results := [.lit (.bool true)], args := [d] }
  | _ => none }
def fnExactNodeAtRow : OpenClaim := { program := "ytkjkbkioekiecaa", sum := "003bad468415b1dd6da7e69e1a81b9e92a6a99d2b43354dd30b84c841f145596", func := "loop.example/g00624/laws.FnExactNodeAt", spec := "fnExactNodeAt", apart := false }
def FnExactNodeAtSaid : Prop := fnExactNodeAtRow.holds Try.pinned (OpenSpec.ofChange fnExactNodeAtSpec)

/-- ITS FALSE NEIGHBOUR: 'it returns false'. Refute it at one input. -/
def fnExactNodeAtWrong : ChangeSpec := { name := "fnExactNodeAt", fn := fun _ => fun
  | [d] => { results := [.lit (.bool false)], args := [d] }
  | _ => none }
def FnExactNodeAtWrongFalsely : Prop := fnExactNodeAtRow.holds Try.pinned (OpenSpec.ofChange fnExactNodeAtWrong)

/-- 'laws.FnExactItemWaits': WHATEVER THE INPUT: true; the input reads as it did. -/
def fnExactItemWaitsSpec : ChangeSpec := { name := "fnExactItemWaits", fn := fun _ => fun
  | [d1, d2] => { results := [.lit (.bool true)], args := [d1, d2] }
  | _ => none }
def fnExactItemWaitsRow : OpenClaim := { program := "ytkjkbkioekiecaa", sum := "003bad468415b1dd6da7e69e1a81b9e92a6a99d2b43354dd30b84c841f145596", func := "loop.example/g00624/laws.FnExactItemWaits", spec := "fnExactItemWaits", apart := false }
def FnExactItemWaitsSaid : Prop := fnExactItemWaitsRow.holds Try.pinned (OpenSpec.ofChange fnExactItemWaitsSpec)

/-- ITS FALSE NEIGHBOUR: 'it returns false'. Refute it at one input. -/
def fnExactItemWaitsWrong : ChangeSpec := { name := "fnExactItemWaits", fn := fun _ => fun
  | [d1, d2] => { results := [.lit (.bool false)], args := [d1, d2] }
  | _ => none }
def FnExactItemWaitsWrongFalsely : Prop := fnExactItemWaitsRow.holds Try.pinned (OpenSpec.ofChange fnExactItemWaitsWrong)

/-- 'laws.FnExactInitQueue': WHATEVER THE INPUT: true; the input reads as it did. -/
def fnExactInitQueueSpec : ChangeSpec := { name := "fnExactInitQueue", fn := fun _ => fun
  | [d] => { results := [.lit (.bool true)], args := [d] }
  | _ => none }
def fnExactInitQueueRow : OpenClaim := { program := "ytkjkbkioekiecaa", sum := "003bad468415b1dd6da7e69e1a81b9e92a6a99d2b43354dd30b84c841f145596", func := "loop.example/g00624/laws.FnExactInitQueue", spec := "fnExactInitQueue", apart := false }
def FnExactInitQueueSaid : Prop := fnExactInitQueueRow.holds Try.pinned (OpenSpec.ofChange fnExactInitQueueSpec)

/-- ITS FALSE NEIGHBOUR: 'it returns false'. Refute it at one input. -/
def fnExactInitQueueWrong : ChangeSpec := { name := "fnExactInitQueue", fn := fun _ => fun
  | [d] => { results := [.lit (.bool false)], args := [d] }
  | _ => none }
def FnExactInitQueueWrongFalsely : Prop := fnExactInitQueueRow.holds Try.pinned (OpenSpec.ofChange fnExactInitQueueWrong)

/-- 'laws.FnExactStepQueue': WHATEVER THE INPUT: true; the input reads as it did. -/
def fnExactStepQueueSpec : ChangeSpec := { name := "fnExactStepQueue", fn := fun _ => fun
  | [d1, d2, d3] => { results := [.lit (.bool true)], args := [d1, d2, d3] }
  | _ => none }
def fnExactStepQueueRow : OpenClaim := { program := "ytkjkbkioekiecaa", sum := "003bad468415b1dd6da7e69e1a81b9e92a6a99d2b43354dd30b84c841f145596", func := "loop.example/g00624/laws.FnExactStepQueue", spec := "fnExactStepQueue", unfollowed := true, recurses := true, apart := false }
def FnExactStepQueueSaid : Prop := fnExactStepQueueRow.holds Try.pinned (OpenSpec.ofChange fnExactStepQueueSpec)

/-- ITS FALSE NEIGHBOUR: 'it returns false'. Refute it at one input. -/
def fnExactStepQueueWrong : ChangeSpec := { name := "fnExactStepQueue", fn := fun _ => fun
  | [d1, d2, d3] => { results := [.lit (.bool false)], args := [d1, d2, d3] }
  | _ => none }
def FnExactStepQueueWrongFalsely : Prop := fnExactStepQueueRow.holds Try.pinned (OpenSpec.ofChange fnExactStepQueueWrong)

/- THE SECOND FORM. 'bulk': how many values and letters a reading holds, each counted each time it is reached (what is shared counts as often as it is met; a slice's spare places count too). A statement '..UptoSaid' is the law's where the arguments, and the package variables that the reading takes, are together of bulk at most 1048576: NARROWER than '..Said'. Prove '..Said' where nothing that the law and all that it calls make is longer than what came in: it says more and counts as full. Else prove '..UptoSaid'. A law counts once. -/
mutual
def uptoBulk {H : Type} : DataW H → Nat
  | .lit (.string bytes) => bytes.length + 1
  | .lit _ => 1
  | .nil => 1
  | .ptr d => uptoBulk d + 1
  | .slice elems spare => uptoBulkAll elems + uptoBulkAll spare + 1
  | .agg parts => uptoBulkAll parts + 1
  | .iface _ d => uptoBulk d + 1
  | .map entries => uptoBulkEntries entries + 1
  | .held _ => 1
def uptoBulkAll {H : Type} : List (DataW H) → Nat
  | [] => 0
  | d :: r => uptoBulk d + uptoBulkAll r
def uptoBulkEntries {H : Type} : List (Lit × DataW H) → Nat
  | [] => 0
  | x :: r => uptoBulkEntry x + uptoBulkEntries r
def uptoBulkEntry {H : Type} : Lit × DataW H → Nat
  | (.string bytes, d) => bytes.length + uptoBulk d + 1
  | (_, d) => uptoBulk d + 1
 end
def uptoSmall : (H : Type) → List (DataW H) → Bool := fun _ ds => decide (uptoBulkAll ds ≤ 1048576)
def OpenSpec.upto (s : _root_.Go.ChangeSpec) : _root_.Go.OpenSpec := { _root_.Go.OpenSpec.ofChange s with cond := some uptoSmall }

/-- 'laws.FnRefs', WHERE WHAT IT READS IS OF BULK AT MOST 1048576: true; the input reads as it did. -/
def fnRefsUptoRow : OpenClaim := { program := "ytkjkbkioekiecaa", sum := "003bad468415b1dd6da7e69e1a81b9e92a6a99d2b43354dd30b84c841f145596", func := "loop.example/g00624/laws.FnRefs", spec := "fnRefs", apart := false, narrowed := true }
def FnRefsUptoSaid : Prop := fnRefsUptoRow.holds Try.pinned (OpenSpec.upto fnRefsSpec)

/-- 'laws.FnAccess', WHERE WHAT IT READS IS OF BULK AT MOST 1048576: true; the input reads as it did. -/
def fnAccessUptoRow : OpenClaim := { program := "ytkjkbkioekiecaa", sum := "003bad468415b1dd6da7e69e1a81b9e92a6a99d2b43354dd30b84c841f145596", func := "loop.example/g00624/laws.FnAccess", spec := "fnAccess", unfollowed := true, recurses := true, apart := false, narrowed := true }
def FnAccessUptoSaid : Prop := fnAccessUptoRow.holds Try.pinned (OpenSpec.upto fnAccessSpec)

/-- 'laws.FnExactNodeRef', WHERE WHAT IT READS IS OF BULK AT MOST 1048576: true; the input reads as it did. -/
def fnExactNodeRefUptoRow : OpenClaim := { program := "ytkjkbkioekiecaa", sum := "003bad468415b1dd6da7e69e1a81b9e92a6a99d2b43354dd30b84c841f145596", func := "loop.example/g00624/laws.FnExactNodeRef", spec := "fnExactNodeRef", apart := false, narrowed := true }
def FnExactNodeRefUptoSaid : Prop := fnExactNodeRefUptoRow.holds Try.pinned (OpenSpec.upto fnExactNodeRefSpec)

/-- 'laws.FnExactNodeAt', WHERE WHAT IT READS IS OF BULK AT MOST 1048576: true; the input reads as it did. -/
def fnExactNodeAtUptoRow : OpenClaim := { program := "ytkjkbkioekiecaa", sum := "003bad468415b1dd6da7e69e1a81b9e92a6a99d2b43354dd30b84c841f145596", func := "loop.example/g00624/laws.FnExactNodeAt", spec := "fnExactNodeAt", apart := false, narrowed := true }
def FnExactNodeAtUptoSaid : Prop := fnExactNodeAtUptoRow.holds Try.pinned (OpenSpec.upto fnExactNodeAtSpec)

/-- 'laws.FnExactItemWaits', WHERE WHAT IT READS IS OF BULK AT MOST 1048576: true; the input reads as it did. -/
def fnExactItemWaitsUptoRow : OpenClaim := { program := "ytkjkbkioekiecaa", sum := "003bad468415b1dd6da7e69e1a81b9e92a6a99d2b43354dd30b84c841f145596", func := "loop.example/g00624/laws.FnExactItemWaits", spec := "fnExactItemWaits", apart := false, narrowed := true }
def FnExactItemWaitsUptoSaid : Prop := fnExactItemWaitsUptoRow.holds Try.pinned (OpenSpec.upto fnExactItemWaitsSpec)

/-- 'laws.FnExactInitQueue', WHERE WHAT IT READS IS OF BULK AT MOST 1048576: true; the input reads as it did. -/
def fnExactInitQueueUptoRow : OpenClaim := { program := "ytkjkbkioekiecaa", sum := "003bad468415b1dd6da7e69e1a81b9e92a6a99d2b43354dd30b84c841f145596", func := "loop.example/g00624/laws.FnExactInitQueue", spec := "fnExactInitQueue", apart := false, narrowed := true }
def FnExactInitQueueUptoSaid : Prop := fnExactInitQueueUptoRow.holds Try.pinned (OpenSpec.upto fnExactInitQueueSpec)

/-- 'laws.FnExactStepQueue', WHERE WHAT IT READS IS OF BULK AT MOST 1048576: true; the input reads as it did. -/
def fnExactStepQueueUptoRow : OpenClaim := { program := "ytkjkbkioekiecaa", sum := "003bad468415b1dd6da7e69e1a81b9e92a6a99d2b43354dd30b84c841f145596", func := "loop.example/g00624/laws.FnExactStepQueue", spec := "fnExactStepQueue", unfollowed := true, recurses := true, apart := false, narrowed := true }
def FnExactStepQueueUptoSaid : Prop := fnExactStepQueueUptoRow.holds Try.pinned (OpenSpec.upto fnExactStepQueueSpec)

end Rows
end Go.Proofs.Ytkjkbkioekiecaa
