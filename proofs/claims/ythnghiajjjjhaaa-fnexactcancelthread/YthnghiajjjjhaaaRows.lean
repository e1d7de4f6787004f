/-
  No cell of these rows narrows 'for every input' (looked for: loops, veiled, ifaces, maps, wideKeys, modest, calm, conditions, laid).
  DERIVED. THE GIVEN ROWS OF THIS SEAT. 5 by the template 'for every input the law returns true; each argument reads behind the call as it read before'; 0 by the template 'total and deterministic' (their statements: YthnghiajjjjhaaaTotals.lean).
  GIVEN WITH THE SEED: the statements are not yours to turn. If you find one false, say at which input.
  Laid BY PROGRAM, IN A SANDBOX (cutbox-rows.mjs): the forced cells as the released guide's own fill.sh prints them over the translation 9bee7c3a958150c3… (all of the seat's roots in one cut). By AI agents, Wed Nov 11 2026. No macro, syntax, notation, axiom, sorry.
-/
import Derived.Test.YthnghiajjjjhaaaChecked
import GoSem.Claim
import GoSem.ClaimJoined
import GoSem.ClaimMapViews
import Derived.JoinedTies
import Derived.KernelRfl
namespace Go.Proofs.Ythnghiajjjjhaaa
/- THE CELL 'sum', in the pinned program and in every row, IS THE sha256 OF THE DUMP (.gsa) THAT YthnghiajjjjhaaaProg.lean LOADS. Nothing in Lean hashes anything: it is a label: what it is worth is what the hold of that sum in a sandbox is worth. -/
noncomputable def Try.pinned : Pinned := { name := "ythnghiajjjjhaaa", sum := "9bee7c3a958150c3d46117f51200944865de311eaff87264e85d79560d9199d1", checked := Try.checked }
namespace Rows
def none {H : Type} : Left H := { results := [], args := [] }

/-- 'laws.FnExactNewThread': WHATEVER THE INPUT: true; the input reads as it did. -/
def fnExactNewThreadSpec : ChangeSpec := { name := "fnExactNewThread", fn := fun _ => fun
  | [d] => { results := [.lit (.bool true)], args := [d] }
  | _ => none }
def fnExactNewThreadRow : OpenClaim := { program := "ythnghiajjjjhaaa", sum := "9bee7c3a958150c3d46117f51200944865de311eaff87264e85d79560d9199d1", func := "loop.example/g00624/laws.FnExactNewThread", spec := "fnExactNewThread", apart := false }
def FnExactNewThreadSaid : Prop := fnExactNewThreadRow.holds Try.pinned (OpenSpec.ofChange fnExactNewThreadSpec)

/-- ITS FALSE NEIGHBOUR: 'it returns false'. Refute it at one input. -/
def fnExactNewThreadWrong : ChangeSpec := { name := "fnExactNewThread", fn := fun _ => fun
  | [d] => { results := [.lit (.bool false)], args := [d] }
  | _ => none }
def FnExactNewThreadWrongFalsely : Prop := fnExactNewThreadRow.holds Try.pinned (OpenSpec.ofChange fnExactNewThreadWrong)

/-- 'laws.FnExactThreadOK': WHATEVER THE INPUT: true; the input reads as it did. -/
def fnExactThreadOKSpec : ChangeSpec := { name := "fnExactThreadOK", fn := fun _ => fun
  | [d] => { results := [.lit (.bool true)], args := [d] }
  | _ => none }
def fnExactThreadOKRow : OpenClaim := { program := "ythnghiajjjjhaaa", sum := "9bee7c3a958150c3d46117f51200944865de311eaff87264e85d79560d9199d1", func := "loop.example/g00624/laws.FnExactThreadOK", spec := "fnExactThreadOK", apart := false }
def FnExactThreadOKSaid : Prop := fnExactThreadOKRow.holds Try.pinned (OpenSpec.ofChange fnExactThreadOKSpec)

/-- ITS FALSE NEIGHBOUR: 'it returns false'. Refute it at one input. -/
def fnExactThreadOKWrong : ChangeSpec := { name := "fnExactThreadOK", fn := fun _ => fun
  | [d] => { results := [.lit (.bool false)], args := [d] }
  | _ => none }
def FnExactThreadOKWrongFalsely : Prop := fnExactThreadOKRow.holds Try.pinned (OpenSpec.ofChange fnExactThreadOKWrong)

/-- 'laws.FnExactBeginCall': WHATEVER THE INPUT: true; the input reads as it did. -/
def fnExactBeginCallSpec : ChangeSpec := { name := "fnExactBeginCall", fn := fun _ => fun
  | [d1, d2, d3, d4] => { results := [.lit (.bool true)], args := [d1, d2, d3, d4] }
  | _ => none }
def fnExactBeginCallRow : OpenClaim := { program := "ythnghiajjjjhaaa", sum := "9bee7c3a958150c3d46117f51200944865de311eaff87264e85d79560d9199d1", func := "loop.example/g00624/laws.FnExactBeginCall", spec := "fnExactBeginCall", apart := false }
def FnExactBeginCallSaid : Prop := fnExactBeginCallRow.holds Try.pinned (OpenSpec.ofChange fnExactBeginCallSpec)

/-- ITS FALSE NEIGHBOUR: 'it returns false'. Refute it at one input. -/
def fnExactBeginCallWrong : ChangeSpec := { name := "fnExactBeginCall", fn := fun _ => fun
  | [d1, d2, d3, d4] => { results := [.lit (.bool false)], args := [d1, d2, d3, d4] }
  | _ => none }
def FnExactBeginCallWrongFalsely : Prop := fnExactBeginCallRow.holds Try.pinned (OpenSpec.ofChange fnExactBeginCallWrong)

/-- 'laws.FnExactCancelThread': WHATEVER THE INPUT: true; the input reads as it did. -/
def fnExactCancelThreadSpec : ChangeSpec := { name := "fnExactCancelThread", fn := fun _ => fun
  | [d] => { results := [.lit (.bool true)], args := [d] }
  | _ => none }
def fnExactCancelThreadRow : OpenClaim := { program := "ythnghiajjjjhaaa", sum := "9bee7c3a958150c3d46117f51200944865de311eaff87264e85d79560d9199d1", func := "loop.example/g00624/laws.FnExactCancelThread", spec := "fnExactCancelThread", apart := false }
def FnExactCancelThreadSaid : Prop := fnExactCancelThreadRow.holds Try.pinned (OpenSpec.ofChange fnExactCancelThreadSpec)

/-- ITS FALSE NEIGHBOUR: 'it returns false'. Refute it at one input. -/
def fnExactCancelThreadWrong : ChangeSpec := { name := "fnExactCancelThread", fn := fun _ => fun
  | [d] => { results := [.lit (.bool false)], args := [d] }
  | _ => none }
def FnExactCancelThreadWrongFalsely : Prop := fnExactCancelThreadRow.holds Try.pinned (OpenSpec.ofChange fnExactCancelThreadWrong)

/-- 'laws.FnExactIsWaiting': WHATEVER THE INPUT: true; the input reads as it did. -/
def fnExactIsWaitingSpec : ChangeSpec := { name := "fnExactIsWaiting", fn := fun _ => fun
  | [d] => { results := [.lit (.bool true)], args := [d] }
  | _ => none }
def fnExactIsWaitingRow : OpenClaim := { program := "ythnghiajjjjhaaa", sum := "9bee7c3a958150c3d46117f51200944865de311eaff87264e85d79560d9199d1", func := "loop.example/g00624/laws.FnExactIsWaiting", spec := "fnExactIsWaiting", apart := false }
def FnExactIsWaitingSaid : Prop := fnExactIsWaitingRow.holds Try.pinned (OpenSpec.ofChange fnExactIsWaitingSpec)

/-- ITS FALSE NEIGHBOUR: 'it returns false'. Refute it at one input. -/
def fnExactIsWaitingWrong : ChangeSpec := { name := "fnExactIsWaiting", fn := fun _ => fun
  | [d] => { results := [.lit (.bool false)], args := [d] }
  | _ => none }
def FnExactIsWaitingWrongFalsely : Prop := fnExactIsWaitingRow.holds Try.pinned (OpenSpec.ofChange fnExactIsWaitingWrong)

/- THE SECOND FORM. 'bulk': how many values and letters a reading holds, each counted each time it is reached (what is shared counts as often as it is met; a slice's spare places count too). A statement '..UptoSaid' is the law's where the arguments, and the package variables that the reading takes, are together of bulk at most 1048576: NARROWER than '..Said'. Prove '..Said' where nothing that the law and all that it calls make is longer than what came in: it says more and counts as full. Else prove '..UptoSaid'. A law counts once. -/
mutual
def uptoBulk {H : Type} : DataW H → Nat
  | .lit (.string bytes) => bytes.length + 1
  | .lit _ => 1
  | .nil => 1
  | .ptr d => uptoBulk d + 1
  | .slice elems spare => uptoBulkAll elems + uptoBulkAll spare + 1
  | .agg parts => uptoBulkAll parts + 1
  | .iface _ d => uptoBulk d + 1
  | .map entries => uptoBulkEntries entries + 1
  | .held _ => 1
def uptoBulkAll {H : Type} : List (DataW H) → Nat
  | [] => 0
  | d :: r => uptoBulk d + uptoBulkAll r
def uptoBulkEntries {H : Type} : List (Lit × DataW H) → Nat
  | [] => 0
  | x :: r => uptoBulkEntry x + uptoBulkEntries r
def uptoBulkEntry {H : Type} : Lit × DataW H → Nat
  | (.string bytes, d) => bytes.length + uptoBulk d + 1
  | (_, d) => uptoBulk d + 1
 end
def uptoSmall : (H : Type) → List (DataW H) → Bool := fun _ ds => decide (uptoBulkAll ds ≤ 1048576)
def OpenSpec.upto (s : _root_.Go.ChangeSpec) : _root_.Go.OpenSpec := { _root_.Go.OpenSpec.ofChange s with cond := some uptoSmall }

/-- 'laws.FnExactNewThread', WHERE WHAT IT READS IS OF BULK AT MOST 1048576: true; the input reads as it did. -/
def fnExactNewThreadUptoRow : OpenClaim := { program := "ythnghiajjjjhaaa", sum := "9bee7c3a958150c3d46117f51200944865de311eaff87264e85d79560d9199d1", func := "loop.example/g00624/laws.FnExactNewThread", spec := "fnExactNewThread", apart := false, narrowed := true }
def FnExactNewThreadUptoSaid : Prop := fnExactNewThreadUptoRow.holds Try.pinned (OpenSpec.upto fnExactNewThreadSpec)

/-- 'laws.FnExactThreadOK', WHERE WHAT IT READS IS OF BULK AT MOST 1048576: true; the input reads as it did. -/
def fnExactThreadOKUptoRow : OpenClaim := { program := "ythnghiajjjjhaaa", sum := "9bee7c3a958150c3d46117f51200944865de311eaff87264e85d79560d9199d1", func := "loop.example/g00624/laws.FnExactThreadOK", spec := "fnExactThreadOK", apart := false, narrowed := true }
def FnExactThreadOKUptoSaid : Prop := fnExactThreadOKUptoRow.holds Try.pinned (OpenSpec.upto fnExactThreadOKSpec)

/-- 'laws.FnExactBeginCall', WHERE WHAT IT READS IS OF BULK AT MOST 1048576: true; the input reads as it did. -/
def fnExactBeginCallUptoRow : OpenClaim := { program := "ythnghiajjjjhaaa", sum := "9bee7c3a958150c3d46117f51200944865de311eaff87264e85d79560d9199d1", func := "loop.example/g00624/laws.FnExactBeginCall", spec := "fnExactBeginCall", apart := false, narrowed := true }
def FnExactBeginCallUptoSaid : Prop := fnExactBeginCallUptoRow.holds Try.pinned (OpenSpec.upto fnExactBeginCallSpec)

/-- 'laws.FnExactCancelThread', WHERE WHAT IT READS IS OF BULK AT MOST 1048576: true; the input reads as it did. -/
def fnExactCancelThreadUptoRow : OpenClaim := { program := "ythnghiajjjjhaaa", sum := "9bee7c3a958150c3d46117f51200944865de311eaff87264e85d79560d9199d1", func := "loop.example/g00624/laws.FnExactCancelThread", spec := "fnExactCancelThread", apart := false, narrowed := true }
def FnExactCancelThreadUptoSaid : Prop := fnExactCancelThreadUptoRow.holds Try.pinned (OpenSpec.upto fnExactCancelThreadSpec)

/-- 'laws.FnExactIsWaiting', WHERE WHAT IT READS IS OF BULK AT MOST 1048576: true; the input reads as it did. -/
def fnExactIsWaitingUptoRow : OpenClaim := { program := "ythnghiajjjjhaaa", sum := "9bee7c3a958150c3d46117f51200944865de311eaff87264e85d79560d9199d1", func := "loop.example/g00624/laws.FnExactIsWaiting", spec := "fnExactIsWaiting", apart := false, narrowed := true }
def FnExactIsWaitingUptoSaid : Prop := fnExactIsWaitingUptoRow.holds Try.pinned (OpenSpec.upto fnExactIsWaitingSpec)

end Rows
end Go.Proofs.Ythnghiajjjjhaaa
