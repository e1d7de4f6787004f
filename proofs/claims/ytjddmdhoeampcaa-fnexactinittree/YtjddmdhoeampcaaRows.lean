/-
  No cell of these rows narrows 'for every input' (looked for: loops, veiled, ifaces, maps, wideKeys, modest, calm, conditions, laid).
  DERIVED. THE GIVEN ROWS OF THIS SEAT. 8 by the template 'for every input the law returns true; each argument reads behind the call as it read before'; 0 by the template 'total and deterministic' (their statements: YtjddmdhoeampcaaTotals.lean).
  GIVEN WITH THE SEED: the statements are not yours to turn. If you find one false, say at which input.
  Laid BY PROGRAM, IN A SANDBOX (cutbox-rows.mjs): the forced cells as the released guide's own fill.sh prints them over the translation 4f55d99c8d8042f2… (all of the seat's roots in one cut). By AI agents, Wed Nov 11 2026. No macro, syntax, notation, axiom, sorry.
-/
import Derived.Test.YtjddmdhoeampcaaChecked
import GoSem.Claim
import GoSem.ClaimJoined
import GoSem.ClaimMapViews
import Derived.JoinedTies
import Derived.KernelRfl
namespace Go.Proofs.Ytjddmdhoeampcaa
/- THE CELL 'sum', in the pinned program and in every row, IS THE sha256 OF THE DUMP (.gsa) THAT YtjddmdhoeampcaaProg.lean LOADS. Nothing in Lean hashes anything: it is a label: what it is worth is what the hold of that sum in a sandbox is worth. -/
noncomputable def Try.pinned : Pinned := { name := "ytjddmdhoeampcaa", sum := "4f55d99c8d8042f24f5aca51bc4234eb6d680e835eda4651a3c8bef969942c5c", checked := Try.checked }
namespace Rows
def none {H : Type} : Left H := { results := [], args := [] }

/-- 'laws.FnExactInitTree': WHATEVER THE INPUT: true; the input reads as it did. -/
def fnExactInitTreeSpec : ChangeSpec := { name := "fnExactInitTree", fn := fun _ => fun
  | [d] => { results := [.lit (.bool true)], args := [d] }
  | _ => none }
def fnExactInitTreeRow : OpenClaim := { program := "ytjddmdhoeampcaa", sum := "4f55d99c8d8042f24f5aca51bc4234eb6d680e835eda4651a3c8bef969942c5c", func := "loop.example/g00624/laws.FnExactInitTree", spec := "fnExactInitTree", apart := false }
def FnExactInitTreeSaid : Prop := fnExactInitTreeRow.holds Try.pinned (OpenSpec.ofChange fnExactInitTreeSpec)

/-- ITS FALSE NEIGHBOUR: 'it returns false'. Refute it at one input. -/
def fnExactInitTreeWrong : ChangeSpec := { name := "fnExactInitTree", fn := fun _ => fun
  | [d] => { results := [.lit (.bool false)], args := [d] }
  | _ => none }
def FnExactInitTreeWrongFalsely : Prop := fnExactInitTreeRow.holds Try.pinned (OpenSpec.ofChange fnExactInitTreeWrong)

/-- 'laws.FnExactTreeCount': WHATEVER THE INPUT: true; the input reads as it did. -/
def fnExactTreeCountSpec : ChangeSpec := { name := "fnExactTreeCount", fn := fun _ => fun
  | [d] => { results := [.lit (.bool true)], args := [d] }
  | _ => none }
def fnExactTreeCountRow : OpenClaim := { program := "ytjddmdhoeampcaa", sum := "4f55d99c8d8042f24f5aca51bc4234eb6d680e835eda4651a3c8bef969942c5c", func := "loop.example/g00624/laws.FnExactTreeCount", spec := "fnExactTreeCount", apart := false }
def FnExactTreeCountSaid : Prop := fnExactTreeCountRow.holds Try.pinned (OpenSpec.ofChange fnExactTreeCountSpec)

/-- ITS FALSE NEIGHBOUR: 'it returns false'. Refute it at one input. -/
def fnExactTreeCountWrong : ChangeSpec := { name := "fnExactTreeCount", fn := fun _ => fun
  | [d] => { results := [.lit (.bool false)], args := [d] }
  | _ => none }
def FnExactTreeCountWrongFalsely : Prop := fnExactTreeCountRow.holds Try.pinned (OpenSpec.ofChange fnExactTreeCountWrong)

/-- 'laws.FnExactLeafOf': WHATEVER THE INPUT: true; the input reads as it did. -/
def fnExactLeafOfSpec : ChangeSpec := { name := "fnExactLeafOf", fn := fun _ => fun
  | [d1, d2] => { results := [.lit (.bool true)], args := [d1, d2] }
  | _ => none }
def fnExactLeafOfRow : OpenClaim := { program := "ytjddmdhoeampcaa", sum := "4f55d99c8d8042f24f5aca51bc4234eb6d680e835eda4651a3c8bef969942c5c", func := "loop.example/g00624/laws.FnExactLeafOf", spec := "fnExactLeafOf", apart := false }
def FnExactLeafOfSaid : Prop := fnExactLeafOfRow.holds Try.pinned (OpenSpec.ofChange fnExactLeafOfSpec)

/-- ITS FALSE NEIGHBOUR: 'it returns false'. Refute it at one input. -/
def fnExactLeafOfWrong : ChangeSpec := { name := "fnExactLeafOf", fn := fun _ => fun
  | [d1, d2] => { results := [.lit (.bool false)], args := [d1, d2] }
  | _ => none }
def FnExactLeafOfWrongFalsely : Prop := fnExactLeafOfRow.holds Try.pinned (OpenSpec.ofChange fnExactLeafOfWrong)

/-- 'laws.FnExactNewMachine': WHATEVER THE INPUT: true; the input reads as it did. -/
def fnExactNewMachineSpec : ChangeSpec := { name := "fnExactNewMachine", fn := fun _ => fun
  | [] => { results := [.lit (.bool true)], args := [] }
  | _ => none }
def fnExactNewMachineRow : OpenClaim := { program := "ytjddmdhoeampcaa", sum := "4f55d99c8d8042f24f5aca51bc4234eb6d680e835eda4651a3c8bef969942c5c", func := "loop.example/g00624/laws.FnExactNewMachine", spec := "fnExactNewMachine", unfollowed := true, recurses := true, apart := false }
def FnExactNewMachineSaid : Prop := fnExactNewMachineRow.holds Try.pinned (OpenSpec.ofChange fnExactNewMachineSpec)

/-- ITS FALSE NEIGHBOUR: 'it returns false'. Refute it at one input. -/
def fnExactNewMachineWrong : ChangeSpec := { name := "fnExactNewMachine", fn := fun _ => fun
  | [] => { results := [.lit (.bool false)], args := [] }
  | _ => none }
def FnExactNewMachineWrongFalsely : Prop := fnExactNewMachineRow.holds Try.pinned (OpenSpec.ofChange fnExactNewMachineWrong)

/-- 'laws.FnExactCallOK': WHATEVER THE INPUT: true; the input reads as it did. -/
def fnExactCallOKSpec : ChangeSpec := { name := "fnExactCallOK", fn := fun _ => fun
  | [d] => { results := [.lit (.bool true)], args := [d] }
  | _ => none }
def fnExactCallOKRow : OpenClaim := { program := "ytjddmdhoeampcaa", sum := "4f55d99c8d8042f24f5aca51bc4234eb6d680e835eda4651a3c8bef969942c5c", func := "loop.example/g00624/laws.FnExactCallOK", spec := "fnExactCallOK", apart := false }
def FnExactCallOKSaid : Prop := fnExactCallOKRow.holds Try.pinned (OpenSpec.ofChange fnExactCallOKSpec)

/-- ITS FALSE NEIGHBOUR: 'it returns false'. Refute it at one input. -/
def fnExactCallOKWrong : ChangeSpec := { name := "fnExactCallOK", fn := fun _ => fun
  | [d] => { results := [.lit (.bool false)], args := [d] }
  | _ => none }
def FnExactCallOKWrongFalsely : Prop := fnExactCallOKRow.holds Try.pinned (OpenSpec.ofChange fnExactCallOKWrong)

/-- 'laws.FnExactMachineOK': WHATEVER THE INPUT: true; the input reads as it did. -/
def fnExactMachineOKSpec : ChangeSpec := { name := "fnExactMachineOK", fn := fun _ => fun
  | [d] => { results := [.lit (.bool true)], args := [d] }
  | _ => none }
def fnExactMachineOKRow : OpenClaim := { program := "ytjddmdhoeampcaa", sum := "4f55d99c8d8042f24f5aca51bc4234eb6d680e835eda4651a3c8bef969942c5c", func := "loop.example/g00624/laws.FnExactMachineOK", spec := "fnExactMachineOK", apart := false }
def FnExactMachineOKSaid : Prop := fnExactMachineOKRow.holds Try.pinned (OpenSpec.ofChange fnExactMachineOKSpec)

/-- ITS FALSE NEIGHBOUR: 'it returns false'. Refute it at one input. -/
def fnExactMachineOKWrong : ChangeSpec := { name := "fnExactMachineOK", fn := fun _ => fun
  | [d] => { results := [.lit (.bool false)], args := [d] }
  | _ => none }
def FnExactMachineOKWrongFalsely : Prop := fnExactMachineOKRow.holds Try.pinned (OpenSpec.ofChange fnExactMachineOKWrong)

/-- 'laws.FnExactEventOK': WHATEVER THE INPUT: true; the input reads as it did. -/
def fnExactEventOKSpec : ChangeSpec := { name := "fnExactEventOK", fn := fun _ => fun
  | [d] => { results := [.lit (.bool true)], args := [d] }
  | _ => none }
def fnExactEventOKRow : OpenClaim := { program := "ytjddmdhoeampcaa", sum := "4f55d99c8d8042f24f5aca51bc4234eb6d680e835eda4651a3c8bef969942c5c", func := "loop.example/g00624/laws.FnExactEventOK", spec := "fnExactEventOK", unfollowed := true, recurses := true, apart := false }
def FnExactEventOKSaid : Prop := fnExactEventOKRow.holds Try.pinned (OpenSpec.ofChange fnExactEventOKSpec)

/-- ITS FALSE NEIGHBOUR: 'it returns false'. Refute it at one input. -/
def fnExactEventOKWrong : ChangeSpec := { name := "fnExactEventOK", fn := fun _ => fun
  | [d] => { results := [.lit (.bool false)], args := [d] }
  | _ => none }
def FnExactEventOKWrongFalsely : Prop := fnExactEventOKRow.holds Try.pinned (OpenSpec.ofChange fnExactEventOKWrong)

/-- 'laws.FnExactSameMachine': WHATEVER THE INPUT: true; the input reads as it did. -/
def fnExactSameMachineSpec : ChangeSpec := { name := "fnExactSameMachine", fn := fun _ => fun
  | [d1, d2] => { results := [.lit (.bool true)], args := [d1, d2] }
  | _ => none }
def fnExactSameMachineRow : OpenClaim := { program := "ytjddmdhoeampcaa", sum := "4f55d99c8d8042f24f5aca51bc4234eb6d680e835eda4651a3c8bef969942c5c", func := "loop.example/g00624/laws.FnExactSameMachine", spec := "fnExactSameMachine", apart := false }
def FnExactSameMachineSaid : Prop := fnExactSameMachineRow.holds Try.pinned (OpenSpec.ofChange fnExactSameMachineSpec)

/-- ITS FALSE NEIGHBOUR: 'it returns false'. Refute it at one input. -/
def fnExactSameMachineWrong : ChangeSpec := { name := "fnExactSameMachine", fn := fun _ => fun
  | [d1, d2] => { results := [.lit (.bool false)], args := [d1, d2] }
  | _ => none }
def FnExactSameMachineWrongFalsely : Prop := fnExactSameMachineRow.holds Try.pinned (OpenSpec.ofChange fnExactSameMachineWrong)

/- THE SECOND FORM. 'bulk': how many values and letters a reading holds, each counted each time it is reached (what is shared counts as often as it is met; a slice's spare places count too). A statement '..UptoSaid' is the law's where the arguments, and the package variables that the reading takes, are together of bulk at most 1048576: NARROWER than '..Said'. Prove '..Said' where nothing that the law and all that it calls make is longer than what came in: it says more and counts as full. Else prove '..UptoSaid'. A law counts once. -/
mutual
def uptoBulk {H : Type} : DataW H → Nat
  | .lit (.string bytes) => bytes.length + 1
  | .lit _ => 1
  | .nil => 1
  | .ptr d => uptoBulk d + 1
  | .slice elems spare => uptoBulkAll elems + uptoBulkAll spare + 1
  | .agg parts => uptoBulkAll parts + 1
  | .iface _ d => uptoBulk d + 1
  | .map entries => uptoBulkEntries entries + 1
  | .held _ => 1
def uptoBulkAll {H : Type} : List (DataW H) → Nat
  | [] => 0
  | d :: r => uptoBulk d + uptoBulkAll r
def uptoBulkEntries {H : Type} : List (Lit × DataW H) → Nat
  | [] => 0
  | x :: r => uptoBulkEntry x + uptoBulkEntries r
def uptoBulkEntry {H : Type} : Lit × DataW H → Nat
  | (.string bytes, d) => bytes.length + uptoBulk d + 1
  | (_, d) => uptoBulk d + 1
 end
def uptoSmall : (H : Type) → List (DataW H) → Bool := fun _ ds => decide (uptoBulkAll ds ≤ 1048576)
def OpenSpec.upto (s : _root_.Go.ChangeSpec) : _root_.Go.OpenSpec := { _root_.Go.OpenSpec.ofChange s with cond := some uptoSmall }

/-- 'laws.FnExactInitTree', WHERE WHAT IT READS IS OF BULK AT MOST 1048576: true; the input reads as it did. -/
def fnExactInitTreeUptoRow : OpenClaim := { program := "ytjddmdhoeampcaa", sum := "4f55d99c8d8042f24f5aca51bc4234eb6d680e835eda4651a3c8bef969942c5c", func := "loop.example/g00624/laws.FnExactInitTree", spec := "fnExactInitTree", apart := false, narrowed := true }
def FnExactInitTreeUptoSaid : Prop := fnExactInitTreeUptoRow.holds Try.pinned (OpenSpec.upto fnExactInitTreeSpec)

/-- 'laws.FnExactTreeCount', WHERE WHAT IT READS IS OF BULK AT MOST 1048576: true; the input reads as it did. -/
def fnExactTreeCountUptoRow : OpenClaim := { program := "ytjddmdhoeampcaa", sum := "4f55d99c8d8042f24f5aca51bc4234eb6d680e835eda4651a3c8bef969942c5c", func := "loop.example/g00624/laws.FnExactTreeCount", spec := "fnExactTreeCount", apart := false, narrowed := true }
def FnExactTreeCountUptoSaid : Prop := fnExactTreeCountUptoRow.holds Try.pinned (OpenSpec.upto fnExactTreeCountSpec)

/-- 'laws.FnExactLeafOf', WHERE WHAT IT READS IS OF BULK AT MOST 1048576: true; the input reads as it did. -/
def fnExactLeafOfUptoRow : OpenClaim := { program := "ytjddmdhoeampcaa", sum := "4f55d99c8d8042f24f5aca51bc4234eb6d680e835eda4651a3c8bef969942c5c", func := "loop.example/g00624/laws.FnExactLeafOf", spec := "fnExactLeafOf", apart := false, narrowed := true }
def FnExactLeafOfUptoSaid : Prop := fnExactLeafOfUptoRow.holds Try.pinned (OpenSpec.upto fnExactLeafOfSpec)

/-- 'laws.FnExactNewMachine', WHERE WHAT IT READS IS OF BULK AT MOST 1048576: true; the input reads as it did. -/
def fnExactNewMachineUptoRow : OpenClaim := { program := "ytjddmdhoeampcaa", sum := "4f55d99c8d8042f24f5aca51bc4234eb6d680e835eda4651a3c8bef969942c5c", func := "loop.example/g00624/laws.FnExactNewMachine", spec := "fnExactNewMachine", unfollowed := true, recurses := true, apart := false, narrowed := true }
def FnExactNewMachineUptoSaid : Prop := fnExactNewMachineUptoRow.holds Try.pinned (OpenSpec.upto fnExactNewMachineSpec)

/-- 'laws.FnExactCallOK', WHERE WHAT IT READS IS OF BULK AT MOST 1048576: true; the input reads as it did. -/
def fnExactCallOKUptoRow : OpenClaim := { program := "ytjddmdhoeampcaa", sum := "4f55d99c8d8042f24f5aca51bc4234eb6d680e835eda4651a3c8bef969942c5c", func := "loop.example/g00624/laws.FnExactCallOK", spec := "fnExactCallOK", apart := false, narrowed := true }
def FnExactCallOKUptoSaid : Prop := fnExactCallOKUptoRow.holds Try.pinned (OpenSpec.upto fnExactCallOKSpec)

/-- 'laws.FnExactMachineOK', WHERE WHAT IT READS IS OF BULK AT MOST 1048576: true; the input reads as it did. -/
def fnExactMachineOKUptoRow : OpenClaim := { program := "ytjddmdhoeampcaa", sum := "4f55d99c8d8042f24f5aca51bc4234eb6d680e835eda4651a3c8bef969942c5c", func := "loop.example/g00624/laws.FnExactMachineOK", spec := "fnExactMachineOK", apart := false, narrowed := true }
def FnExactMachineOKUptoSaid : Prop := fnExactMachineOKUptoRow.holds Try.pinned (OpenSpec.upto fnExactMachineOKSpec)

/-- 'laws.FnExactEventOK', WHERE WHAT IT READS IS OF BULK AT MOST 1048576: true; the input reads as it did. -/
def fnExactEventOKUptoRow : OpenClaim := { program := "ytjddmdhoeampcaa", sum := "4f55d99c8d8042f24f5aca51bc4234eb6d680e835eda4651a3c8bef969942c5c", func := "loop.example/g00624/laws.FnExactEventOK", spec := "fnExactEventOK", unfollowed := true, recurses := true, apart := false, narrowed := true }
def FnExactEventOKUptoSaid : Prop := fnExactEventOKUptoRow.holds Try.pinned (OpenSpec.upto fnExactEventOKSpec)

/-- 'laws.FnExactSameMachine', WHERE WHAT IT READS IS OF BULK AT MOST 1048576: true; the input reads as it did. -/
def fnExactSameMachineUptoRow : OpenClaim := { program := "ytjddmdhoeampcaa", sum := "4f55d99c8d8042f24f5aca51bc4234eb6d680e835eda4651a3c8bef969942c5c", func := "loop.example/g00624/laws.FnExactSameMachine", spec := "fnExactSameMachine", apart := false, narrowed := true }
def FnExactSameMachineUptoSaid : Prop := fnExactSameMachineUptoRow.holds Try.pinned (OpenSpec.upto fnExactSameMachineSpec)

end Rows
end Go.Proofs.Ytjddmdhoeampcaa
