/-
  No cell of these rows narrows 'for every input' (looked for: loops, veiled, ifaces, maps, wideKeys, modest, calm, conditions, laid).
  DERIVED. THE GIVEN ROWS OF THIS SEAT. 8 by the template 'for every input the law returns true; each argument reads behind the call as it read before'; 0 by the template 'total and deterministic' (their statements: YthianfhfamkcmaaTotals.lean).
  GIVEN WITH THE SEED: the statements are not yours to turn. If you find one false, say at which input.
  Laid BY PROGRAM, IN A SANDBOX (cutbox-rows.mjs): the forced cells as the released guide's own fill.sh prints them over the translation 219d0b7ee4e32886… (all of the seat's roots in one cut). By AI agents, Wed Nov 11 2026. No macro, syntax, notation, axiom, sorry.
-/
import Derived.Test.YthianfhfamkcmaaChecked
import GoSem.Claim
import GoSem.ClaimJoined
import GoSem.ClaimMapViews
import Derived.JoinedTies
import Derived.KernelRfl
namespace Go.Proofs.Ythianfhfamkcmaa
/- THE CELL 'sum', in the pinned program and in every row, IS THE sha256 OF THE DUMP (.gsa) THAT YthianfhfamkcmaaProg.lean LOADS. Nothing in Lean hashes anything: it is a label: what it is worth is what the hold of that sum in a sandbox is worth. -/
noncomputable def Try.pinned : Pinned := { name := "ythianfhfamkcmaa", sum := "219d0b7ee4e32886b9f1c5eff57e4c7ebb88ce47be1060d6c29360ef4e74533c", checked := Try.checked }
namespace Rows
def none {H : Type} : Left H := { results := [], args := [] }

/-- 'laws.FnExactModelCall': WHATEVER THE INPUT: true; the input reads as it did. -/
def fnExactModelCallSpec : ChangeSpec := { name := "fnExactModelCall", fn := fun _ => fun
  | [d1, d2] => { results := [.lit (.bool true)], args := [d1, d2] }
  | _ => none }
def fnExactModelCallRow : OpenClaim := { program := "ythianfhfamkcmaa", sum := "219d0b7ee4e32886b9f1c5eff57e4c7ebb88ce47be1060d6c29360ef4e74533c", func := "loop.example/g00624/laws.FnExactModelCall", spec := "fnExactModelCall", unfollowed := true, recurses := true, apart := false }
def FnExactModelCallSaid : Prop := fnExactModelCallRow.holds Try.pinned (OpenSpec.ofChange fnExactModelCallSpec)

/-- ITS FALSE NEIGHBOUR: 'it returns false'. Refute it at one input. -/
def fnExactModelCallWrong : ChangeSpec := { name := "fnExactModelCall", fn := fun _ => fun
  | [d1, d2] => { results := [.lit (.bool false)], args := [d1, d2] }
  | _ => none }
def FnExactModelCallWrongFalsely : Prop := fnExactModelCallRow.holds Try.pinned (OpenSpec.ofChange fnExactModelCallWrong)

/-- 'laws.FnExactModelLeave': WHATEVER THE INPUT: true; the input reads as it did. -/
def fnExactModelLeaveSpec : ChangeSpec := { name := "fnExactModelLeave", fn := fun _ => fun
  | [d1, d2] => { results := [.lit (.bool true)], args := [d1, d2] }
  | _ => none }
def fnExactModelLeaveRow : OpenClaim := { program := "ythianfhfamkcmaa", sum := "219d0b7ee4e32886b9f1c5eff57e4c7ebb88ce47be1060d6c29360ef4e74533c", func := "loop.example/g00624/laws.FnExactModelLeave", spec := "fnExactModelLeave", unfollowed := true, recurses := true, apart := false }
def FnExactModelLeaveSaid : Prop := fnExactModelLeaveRow.holds Try.pinned (OpenSpec.ofChange fnExactModelLeaveSpec)

/-- ITS FALSE NEIGHBOUR: 'it returns false'. Refute it at one input. -/
def fnExactModelLeaveWrong : ChangeSpec := { name := "fnExactModelLeave", fn := fun _ => fun
  | [d1, d2] => { results := [.lit (.bool false)], args := [d1, d2] }
  | _ => none }
def FnExactModelLeaveWrongFalsely : Prop := fnExactModelLeaveRow.holds Try.pinned (OpenSpec.ofChange fnExactModelLeaveWrong)

/-- 'laws.FnModel': WHATEVER THE INPUT: true; the input reads as it did. -/
def fnModelSpec : ChangeSpec := { name := "fnModel", fn := fun _ => fun
  | [d1, d2] => { results := [.lit (.bool true)], args := [d1, d2] }
  | _ => none }
def fnModelRow : OpenClaim := { program := "ythianfhfamkcmaa", sum := "219d0b7ee4e32886b9f1c5eff57e4c7ebb88ce47be1060d6c29360ef4e74533c", func := "loop.example/g00624/laws.FnModel", spec := "fnModel", unfollowed := true, recurses := true, apart := false }
def FnModelSaid : Prop := fnModelRow.holds Try.pinned (OpenSpec.ofChange fnModelSpec)

/-- ITS FALSE NEIGHBOUR: 'it returns false'. Refute it at one input. -/
def fnModelWrong : ChangeSpec := { name := "fnModel", fn := fun _ => fun
  | [d1, d2] => { results := [.lit (.bool false)], args := [d1, d2] }
  | _ => none }
def FnModelWrongFalsely : Prop := fnModelRow.holds Try.pinned (OpenSpec.ofChange fnModelWrong)

/-- 'laws.FnExactGiversOf': WHATEVER THE INPUT: true; the input reads as it did. -/
def fnExactGiversOfSpec : ChangeSpec := { name := "fnExactGiversOf", fn := fun _ => fun
  | [d1, d2] => { results := [.lit (.bool true)], args := [d1, d2] }
  | _ => none }
def fnExactGiversOfRow : OpenClaim := { program := "ythianfhfamkcmaa", sum := "219d0b7ee4e32886b9f1c5eff57e4c7ebb88ce47be1060d6c29360ef4e74533c", func := "loop.example/g00624/laws.FnExactGiversOf", spec := "fnExactGiversOf", unfollowed := true, recurses := true, apart := false }
def FnExactGiversOfSaid : Prop := fnExactGiversOfRow.holds Try.pinned (OpenSpec.ofChange fnExactGiversOfSpec)

/-- ITS FALSE NEIGHBOUR: 'it returns false'. Refute it at one input. -/
def fnExactGiversOfWrong : ChangeSpec := { name := "fnExactGiversOf", fn := fun _ => fun
  | [d1, d2] => { results := [.lit (.bool false)], args := [d1, d2] }
  | _ => none }
def FnExactGiversOfWrongFalsely : Prop := fnExactGiversOfRow.holds Try.pinned (OpenSpec.ofChange fnExactGiversOfWrong)

/-- 'laws.FnExactValuesOnce': WHATEVER THE INPUT: true; the input reads as it did. -/
def fnExactValuesOnceSpec : ChangeSpec := { name := "fnExactValuesOnce", fn := fun _ => fun
  | [d] => { results := [.lit (.bool true)], args := [d] }
  | _ => none }
def fnExactValuesOnceRow : OpenClaim := { program := "ythianfhfamkcmaa", sum := "219d0b7ee4e32886b9f1c5eff57e4c7ebb88ce47be1060d6c29360ef4e74533c", func := "loop.example/g00624/laws.FnExactValuesOnce", spec := "fnExactValuesOnce", unfollowed := true, recurses := true, apart := false }
def FnExactValuesOnceSaid : Prop := fnExactValuesOnceRow.holds Try.pinned (OpenSpec.ofChange fnExactValuesOnceSpec)

/-- ITS FALSE NEIGHBOUR: 'it returns false'. Refute it at one input. -/
def fnExactValuesOnceWrong : ChangeSpec := { name := "fnExactValuesOnce", fn := fun _ => fun
  | [d] => { results := [.lit (.bool false)], args := [d] }
  | _ => none }
def FnExactValuesOnceWrongFalsely : Prop := fnExactValuesOnceRow.holds Try.pinned (OpenSpec.ofChange fnExactValuesOnceWrong)

/-- 'laws.FnExactQueueTrue': WHATEVER THE INPUT: true; the input reads as it did. -/
def fnExactQueueTrueSpec : ChangeSpec := { name := "fnExactQueueTrue", fn := fun _ => fun
  | [d] => { results := [.lit (.bool true)], args := [d] }
  | _ => none }
def fnExactQueueTrueRow : OpenClaim := { program := "ythianfhfamkcmaa", sum := "219d0b7ee4e32886b9f1c5eff57e4c7ebb88ce47be1060d6c29360ef4e74533c", func := "loop.example/g00624/laws.FnExactQueueTrue", spec := "fnExactQueueTrue", unfollowed := true, recurses := true, apart := false }
def FnExactQueueTrueSaid : Prop := fnExactQueueTrueRow.holds Try.pinned (OpenSpec.ofChange fnExactQueueTrueSpec)

/-- ITS FALSE NEIGHBOUR: 'it returns false'. Refute it at one input. -/
def fnExactQueueTrueWrong : ChangeSpec := { name := "fnExactQueueTrue", fn := fun _ => fun
  | [d] => { results := [.lit (.bool false)], args := [d] }
  | _ => none }
def FnExactQueueTrueWrongFalsely : Prop := fnExactQueueTrueRow.holds Try.pinned (OpenSpec.ofChange fnExactQueueTrueWrong)

/-- 'laws.FnExactSwapsTrue': WHATEVER THE INPUT: true; the input reads as it did. -/
def fnExactSwapsTrueSpec : ChangeSpec := { name := "fnExactSwapsTrue", fn := fun _ => fun
  | [d] => { results := [.lit (.bool true)], args := [d] }
  | _ => none }
def fnExactSwapsTrueRow : OpenClaim := { program := "ythianfhfamkcmaa", sum := "219d0b7ee4e32886b9f1c5eff57e4c7ebb88ce47be1060d6c29360ef4e74533c", func := "loop.example/g00624/laws.FnExactSwapsTrue", spec := "fnExactSwapsTrue", unfollowed := true, recurses := true, apart := false }
def FnExactSwapsTrueSaid : Prop := fnExactSwapsTrueRow.holds Try.pinned (OpenSpec.ofChange fnExactSwapsTrueSpec)

/-- ITS FALSE NEIGHBOUR: 'it returns false'. Refute it at one input. -/
def fnExactSwapsTrueWrong : ChangeSpec := { name := "fnExactSwapsTrue", fn := fun _ => fun
  | [d] => { results := [.lit (.bool false)], args := [d] }
  | _ => none }
def FnExactSwapsTrueWrongFalsely : Prop := fnExactSwapsTrueRow.holds Try.pinned (OpenSpec.ofChange fnExactSwapsTrueWrong)

/-- 'laws.FnExactCountsTrue': WHATEVER THE INPUT: true; the input reads as it did. -/
def fnExactCountsTrueSpec : ChangeSpec := { name := "fnExactCountsTrue", fn := fun _ => fun
  | [d] => { results := [.lit (.bool true)], args := [d] }
  | _ => none }
def fnExactCountsTrueRow : OpenClaim := { program := "ythianfhfamkcmaa", sum := "219d0b7ee4e32886b9f1c5eff57e4c7ebb88ce47be1060d6c29360ef4e74533c", func := "loop.example/g00624/laws.FnExactCountsTrue", spec := "fnExactCountsTrue", unfollowed := true, recurses := true, apart := false }
def FnExactCountsTrueSaid : Prop := fnExactCountsTrueRow.holds Try.pinned (OpenSpec.ofChange fnExactCountsTrueSpec)

/-- ITS FALSE NEIGHBOUR: 'it returns false'. Refute it at one input. -/
def fnExactCountsTrueWrong : ChangeSpec := { name := "fnExactCountsTrue", fn := fun _ => fun
  | [d] => { results := [.lit (.bool false)], args := [d] }
  | _ => none }
def FnExactCountsTrueWrongFalsely : Prop := fnExactCountsTrueRow.holds Try.pinned (OpenSpec.ofChange fnExactCountsTrueWrong)

/- THE SECOND FORM. 'bulk': how many values and letters a reading holds, each counted each time it is reached (what is shared counts as often as it is met; a slice's spare places count too). A statement '..UptoSaid' is the law's where the arguments, and the package variables that the reading takes, are together of bulk at most 1048576: NARROWER than '..Said'. Prove '..Said' where nothing that the law and all that it calls make is longer than what came in: it says more and counts as full. Else prove '..UptoSaid'. A law counts once. -/
mutual
def uptoBulk {H : Type} : DataW H → Nat
  | .lit (.string bytes) => bytes.length + 1
  | .lit _ => 1
  | .nil => 1
  | .ptr d => uptoBulk d + 1
  | .slice elems spare => uptoBulkAll elems + uptoBulkAll spare + 1
  | .agg parts => uptoBulkAll parts + 1
  | .iface _ d => uptoBulk d + 1
  | .map entries => uptoBulkEntries entries + 1
  | .held _ => 1
def uptoBulkAll {H : Type} : List (DataW H) → Nat
  | [] => 0
  | d :: r => uptoBulk d + uptoBulkAll r
def uptoBulkEntries {H : Type} : List (Lit × DataW H) → Nat
  | [] => 0
  | x :: r => uptoBulkEntry x + uptoBulkEntries r
def uptoBulkEntry {H : Type} : Lit × DataW H → Nat
  | (.string bytes, d) => bytes.length + uptoBulk d + 1
  | (_, d) => uptoBulk d + 1
 end
def uptoSmall : (H : Type) → List (DataW H) → Bool := fun _ ds => decide (uptoBulkAll ds ≤ 1048576)
def OpenSpec.upto (s : _root_.Go.ChangeSpec) : _root_.Go.OpenSpec := { _root_.Go.OpenSpec.ofChange s with cond := some uptoSmall }

/-- 'laws.FnExactModelCall', WHERE WHAT IT READS IS OF BULK AT MOST 1048576: true; the input reads as it did. -/
def fnExactModelCallUptoRow : OpenClaim := { program := "ythianfhfamkcmaa", sum := "219d0b7ee4e32886b9f1c5eff57e4c7ebb88ce47be1060d6c29360ef4e74533c", func := "loop.example/g00624/laws.FnExactModelCall", spec := "fnExactModelCall", unfollowed := true, recurses := true, apart := false, narrowed := true }
def FnExactModelCallUptoSaid : Prop := fnExactModelCallUptoRow.holds Try.pinned (OpenSpec.upto fnExactModelCallSpec)

/-- 'laws.FnExactModelLeave', WHERE WHAT IT READS IS OF BULK AT MOST 1048576: true; the input reads as it did. -/
def fnExactModelLeaveUptoRow : OpenClaim := { program := "ythianfhfamkcmaa", sum := "219d0b7ee4e32886b9f1c5eff57e4c7ebb88ce47be1060d6c29360ef4e74533c", func := "loop.example/g00624/laws.FnExactModelLeave", spec := "fnExactModelLeave", unfollowed := true, recurses := true, apart := false, narrowed := true }
def FnExactModelLeaveUptoSaid : Prop := fnExactModelLeaveUptoRow.holds Try.pinned (OpenSpec.upto fnExactModelLeaveSpec)

/-- 'laws.FnModel', WHERE WHAT IT READS IS OF BULK AT MOST 1048576: true; the input reads as it did. -/
def fnModelUptoRow : OpenClaim := { program := "ythianfhfamkcmaa", sum := "219d0b7ee4e32886b9f1c5eff57e4c7ebb88ce47be1060d6c29360ef4e74533c", func := "loop.example/g00624/laws.FnModel", spec := "fnModel", unfollowed := true, recurses := true, apart := false, narrowed := true }
def FnModelUptoSaid : Prop := fnModelUptoRow.holds Try.pinned (OpenSpec.upto fnModelSpec)

/-- 'laws.FnExactGiversOf', WHERE WHAT IT READS IS OF BULK AT MOST 1048576: true; the input reads as it did. -/
def fnExactGiversOfUptoRow : OpenClaim := { program := "ythianfhfamkcmaa", sum := "219d0b7ee4e32886b9f1c5eff57e4c7ebb88ce47be1060d6c29360ef4e74533c", func := "loop.example/g00624/laws.FnExactGiversOf", spec := "fnExactGiversOf", unfollowed := true, recurses := true, apart := false, narrowed := true }
def FnExactGiversOfUptoSaid : Prop := fnExactGiversOfUptoRow.holds Try.pinned (OpenSpec.upto fnExactGiversOfSpec)

/-- 'laws.FnExactValuesOnce', WHERE WHAT IT READS IS OF BULK AT MOST 1048576: true; the input reads as it did. -/
def fnExactValuesOnceUptoRow : OpenClaim := { program := "ythianfhfamkcmaa", sum := "219d0b7ee4e32886b9f1c5eff57e4c7ebb88ce47be1060d6c29360ef4e74533c", func := "loop.example/g00624/laws.FnExactValuesOnce", spec := "fnExactValuesOnce", unfollowed := true, recurses := true, apart := false, narrowed := true }
def FnExactValuesOnceUptoSaid : Prop := fnExactValuesOnceUptoRow.holds Try.pinned (OpenSpec.upto fnExactValuesOnceSpec)

/-- 'laws.FnExactQueueTrue', WHERE WHAT IT READS IS OF BULK AT MOST 1048576: true; the input reads as it did. -/
def fnExactQueueTrueUptoRow : OpenClaim := { program := "ythianfhfamkcmaa", sum := "219d0b7ee4e32886b9f1c5eff57e4c7ebb88ce47be1060d6c29360ef4e74533c", func := "loop.example/g00624/laws.FnExactQueueTrue", spec := "fnExactQueueTrue", unfollowed := true, recurses := true, apart := false, narrowed := true }
def FnExactQueueTrueUptoSaid : Prop := fnExactQueueTrueUptoRow.holds Try.pinned (OpenSpec.upto fnExactQueueTrueSpec)

/-- 'laws.FnExactSwapsTrue', WHERE WHAT IT READS IS OF BULK AT MOST 1048576: true; the input reads as it did. -/
def fnExactSwapsTrueUptoRow : OpenClaim := { program := "ythianfhfamkcmaa", sum := "219d0b7ee4e32886b9f1c5eff57e4c7ebb88ce47be1060d6c29360ef4e74533c", func := "loop.example/g00624/laws.FnExactSwapsTrue", spec := "fnExactSwapsTrue", unfollowed := true, recurses := true, apart := false, narrowed := true }
def FnExactSwapsTrueUptoSaid : Prop := fnExactSwapsTrueUptoRow.holds Try.pinned (OpenSpec.upto fnExactSwapsTrueSpec)

/-- 'laws.FnExactCountsTrue', WHERE WHAT IT READS IS OF BULK AT MOST 1048576: true; the input reads as it did. -/
def fnExactCountsTrueUptoRow : OpenClaim := { program := "ythianfhfamkcmaa", sum := "219d0b7ee4e32886b9f1c5eff57e4c7ebb88ce47be1060d6c29360ef4e74533c", func := "loop.example/g00624/laws.FnExactCountsTrue", spec := "fnExactCountsTrue", unfollowed := true, recurses := true, apart := false, narrowed := true }
def FnExactCountsTrueUptoSaid : Prop := fnExactCountsTrueUptoRow.holds Try.pinned (OpenSpec.upto fnExactCountsTrueSpec)

end Rows
end Go.Proofs.Ythianfhfamkcmaa
