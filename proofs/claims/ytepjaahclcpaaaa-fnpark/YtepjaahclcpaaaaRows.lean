/-
  No cell of these rows narrows 'for every input' (looked for: loops, veiled, ifaces, maps, wideKeys, modest, calm, conditions, laid).
  DERIVED. THE GIVEN ROWS OF THIS SEAT. 8 by the template 'for every input the law returns true; each argument reads behind the call as it read before'; 0 by the template 'total and deterministic' (their statements: YtepjaahclcpaaaaTotals.lean).
  GIVEN WITH THE SEED: the statements are not yours to turn. If you find one false, say at which input.
  Laid BY PROGRAM, IN A SANDBOX (cutbox-rows.mjs): the forced cells as the released guide's own fill.sh prints them over the translation a66d2cd1198aff18… (all of the seat's roots in one cut). By AI agents, Wed Nov 11 2026. No macro, syntax, notation, axiom, sorry.
-/
import Derived.Test.YtepjaahclcpaaaaChecked
import GoSem.Claim
import GoSem.ClaimJoined
import GoSem.ClaimMapViews
import Derived.JoinedTies
import Derived.KernelRfl
namespace Go.Proofs.Ytepjaahclcpaaaa
/- THE CELL 'sum', in the pinned program and in every row, IS THE sha256 OF THE DUMP (.gsa) THAT YtepjaahclcpaaaaProg.lean LOADS. Nothing in Lean hashes anything: it is a label: what it is worth is what the hold of that sum in a sandbox is worth. -/
noncomputable def Try.pinned : Pinned := { name := "ytepjaahclcpaaaa", sum := "a66d2cd1198aff1859cf580378b661fe53732326d33e733a827c0f5b771059ae", checked := Try.checked }
namespace Rows
def none {H : Type} : Left H := { results := [], args := [] }

/-- 'laws.FnPark': WHATEVER THE INPUT: true; the input reads as it did. -/
def fnParkSpec : ChangeSpec := { name := "fnPark", fn := fun _ => fun
  | [d1, d2] => { results := [.lit (.bool true)], args := [d1, d2] }
  | _ => none }
def fnParkRow : OpenClaim := { program := "ytepjaahclcpaaaa", sum := "a66d2cd1198aff1859cf580378b661fe53732326d33e733a827c0f5b771059ae", func := "loop.example/g00624/laws.FnPark", spec := "fnPark", unfollowed := true, recurses := true, apart := false }
def FnParkSaid : Prop := fnParkRow.holds Try.pinned (OpenSpec.ofChange fnParkSpec)

/-- ITS FALSE NEIGHBOUR: 'it returns false'. Refute it at one input. -/
def fnParkWrong : ChangeSpec := { name := "fnPark", fn := fun _ => fun
  | [d1, d2] => { results := [.lit (.bool false)], args := [d1, d2] }
  | _ => none }
def FnParkWrongFalsely : Prop := fnParkRow.holds Try.pinned (OpenSpec.ofChange fnParkWrong)

/-- 'laws.FnExpire': WHATEVER THE INPUT: true; the input reads as it did. -/
def fnExpireSpec : ChangeSpec := { name := "fnExpire", fn := fun _ => fun
  | [d1, d2] => { results := [.lit (.bool true)], args := [d1, d2] }
  | _ => none }
def fnExpireRow : OpenClaim := { program := "ytepjaahclcpaaaa", sum := "a66d2cd1198aff1859cf580378b661fe53732326d33e733a827c0f5b771059ae", func := "loop.example/g00624/laws.FnExpire", spec := "fnExpire", unfollowed := true, recurses := true, apart := false }
def FnExpireSaid : Prop := fnExpireRow.holds Try.pinned (OpenSpec.ofChange fnExpireSpec)

/-- ITS FALSE NEIGHBOUR: 'it returns false'. Refute it at one input. -/
def fnExpireWrong : ChangeSpec := { name := "fnExpire", fn := fun _ => fun
  | [d1, d2] => { results := [.lit (.bool false)], args := [d1, d2] }
  | _ => none }
def FnExpireWrongFalsely : Prop := fnExpireRow.holds Try.pinned (OpenSpec.ofChange fnExpireWrong)

/-- 'laws.FnExactBeginCall': WHATEVER THE INPUT: true; the input reads as it did. -/
def fnExactBeginCallSpec : ChangeSpec := { name := "fnExactBeginCall", fn := fun _ => fun
  | [d1, d2, d3, d4] => { results := [.lit (.bool true)], args := [d1, d2, d3, d4] }
  | _ => none }
def fnExactBeginCallRow : OpenClaim := { program := "ytepjaahclcpaaaa", sum := "a66d2cd1198aff1859cf580378b661fe53732326d33e733a827c0f5b771059ae", func := "loop.example/g00624/laws.FnExactBeginCall", spec := "fnExactBeginCall", apart := false }
def FnExactBeginCallSaid : Prop := fnExactBeginCallRow.holds Try.pinned (OpenSpec.ofChange fnExactBeginCallSpec)

/-- ITS FALSE NEIGHBOUR: 'it returns false'. Refute it at one input. -/
def fnExactBeginCallWrong : ChangeSpec := { name := "fnExactBeginCall", fn := fun _ => fun
  | [d1, d2, d3, d4] => { results := [.lit (.bool false)], args := [d1, d2, d3, d4] }
  | _ => none }
def FnExactBeginCallWrongFalsely : Prop := fnExactBeginCallRow.holds Try.pinned (OpenSpec.ofChange fnExactBeginCallWrong)

/-- 'laws.FnExactParkThread': WHATEVER THE INPUT: true; the input reads as it did. -/
def fnExactParkThreadSpec : ChangeSpec := { name := "fnExactParkThread", fn := fun _ => fun
  | [d] => { results := [.lit (.bool true)], args := [d] }
  | _ => none }
def fnExactParkThreadRow : OpenClaim := { program := "ytepjaahclcpaaaa", sum := "a66d2cd1198aff1859cf580378b661fe53732326d33e733a827c0f5b771059ae", func := "loop.example/g00624/laws.FnExactParkThread", spec := "fnExactParkThread", unfollowed := true, recurses := true, apart := false }
def FnExactParkThreadSaid : Prop := fnExactParkThreadRow.holds Try.pinned (OpenSpec.ofChange fnExactParkThreadSpec)

/-- ITS FALSE NEIGHBOUR: 'it returns false'. Refute it at one input. -/
def fnExactParkThreadWrong : ChangeSpec := { name := "fnExactParkThread", fn := fun _ => fun
  | [d] => { results := [.lit (.bool false)], args := [d] }
  | _ => none }
def FnExactParkThreadWrongFalsely : Prop := fnExactParkThreadRow.holds Try.pinned (OpenSpec.ofChange fnExactParkThreadWrong)

/-- 'laws.FnExactUnparkThread': WHATEVER THE INPUT: true; the input reads as it did. -/
def fnExactUnparkThreadSpec : ChangeSpec := { name := "fnExactUnparkThread", fn := fun _ => fun
  | [d] => { results := [.lit (.bool true)], args := [d] }
  | _ => none }
def fnExactUnparkThreadRow : OpenClaim := { program := "ytepjaahclcpaaaa", sum := "a66d2cd1198aff1859cf580378b661fe53732326d33e733a827c0f5b771059ae", func := "loop.example/g00624/laws.FnExactUnparkThread", spec := "fnExactUnparkThread", unfollowed := true, recurses := true, apart := false }
def FnExactUnparkThreadSaid : Prop := fnExactUnparkThreadRow.holds Try.pinned (OpenSpec.ofChange fnExactUnparkThreadSpec)

/-- ITS FALSE NEIGHBOUR: 'it returns false'. Refute it at one input. -/
def fnExactUnparkThreadWrong : ChangeSpec := { name := "fnExactUnparkThread", fn := fun _ => fun
  | [d] => { results := [.lit (.bool false)], args := [d] }
  | _ => none }
def FnExactUnparkThreadWrongFalsely : Prop := fnExactUnparkThreadRow.holds Try.pinned (OpenSpec.ofChange fnExactUnparkThreadWrong)

/-- 'laws.FnExactWakeThread': WHATEVER THE INPUT: true; the input reads as it did. -/
def fnExactWakeThreadSpec : ChangeSpec := { name := "fnExactWakeThread", fn := fun _ => fun
  | [d] => { results := [.lit (.bool true)], args := [d] }
  | _ => none }
def fnExactWakeThreadRow : OpenClaim := { program := "ytepjaahclcpaaaa", sum := "a66d2cd1198aff1859cf580378b661fe53732326d33e733a827c0f5b771059ae", func := "loop.example/g00624/laws.FnExactWakeThread", spec := "fnExactWakeThread", unfollowed := true, recurses := true, apart := false }
def FnExactWakeThreadSaid : Prop := fnExactWakeThreadRow.holds Try.pinned (OpenSpec.ofChange fnExactWakeThreadSpec)

/-- ITS FALSE NEIGHBOUR: 'it returns false'. Refute it at one input. -/
def fnExactWakeThreadWrong : ChangeSpec := { name := "fnExactWakeThread", fn := fun _ => fun
  | [d] => { results := [.lit (.bool false)], args := [d] }
  | _ => none }
def FnExactWakeThreadWrongFalsely : Prop := fnExactWakeThreadRow.holds Try.pinned (OpenSpec.ofChange fnExactWakeThreadWrong)

/-- 'laws.FnExactGivesUp': WHATEVER THE INPUT: true; the input reads as it did. -/
def fnExactGivesUpSpec : ChangeSpec := { name := "fnExactGivesUp", fn := fun _ => fun
  | [d1, d2] => { results := [.lit (.bool true)], args := [d1, d2] }
  | _ => none }
def fnExactGivesUpRow : OpenClaim := { program := "ytepjaahclcpaaaa", sum := "a66d2cd1198aff1859cf580378b661fe53732326d33e733a827c0f5b771059ae", func := "loop.example/g00624/laws.FnExactGivesUp", spec := "fnExactGivesUp", apart := false }
def FnExactGivesUpSaid : Prop := fnExactGivesUpRow.holds Try.pinned (OpenSpec.ofChange fnExactGivesUpSpec)

/-- ITS FALSE NEIGHBOUR: 'it returns false'. Refute it at one input. -/
def fnExactGivesUpWrong : ChangeSpec := { name := "fnExactGivesUp", fn := fun _ => fun
  | [d1, d2] => { results := [.lit (.bool false)], args := [d1, d2] }
  | _ => none }
def FnExactGivesUpWrongFalsely : Prop := fnExactGivesUpRow.holds Try.pinned (OpenSpec.ofChange fnExactGivesUpWrong)

/-- 'laws.FnExactExpireThread': WHATEVER THE INPUT: true; the input reads as it did. -/
def fnExactExpireThreadSpec : ChangeSpec := { name := "fnExactExpireThread", fn := fun _ => fun
  | [d1, d2] => { results := [.lit (.bool true)], args := [d1, d2] }
  | _ => none }
def fnExactExpireThreadRow : OpenClaim := { program := "ytepjaahclcpaaaa", sum := "a66d2cd1198aff1859cf580378b661fe53732326d33e733a827c0f5b771059ae", func := "loop.example/g00624/laws.FnExactExpireThread", spec := "fnExactExpireThread", apart := false }
def FnExactExpireThreadSaid : Prop := fnExactExpireThreadRow.holds Try.pinned (OpenSpec.ofChange fnExactExpireThreadSpec)

/-- ITS FALSE NEIGHBOUR: 'it returns false'. Refute it at one input. -/
def fnExactExpireThreadWrong : ChangeSpec := { name := "fnExactExpireThread", fn := fun _ => fun
  | [d1, d2] => { results := [.lit (.bool false)], args := [d1, d2] }
  | _ => none }
def FnExactExpireThreadWrongFalsely : Prop := fnExactExpireThreadRow.holds Try.pinned (OpenSpec.ofChange fnExactExpireThreadWrong)

/- THE SECOND FORM. 'bulk': how many values and letters a reading holds, each counted each time it is reached (what is shared counts as often as it is met; a slice's spare places count too). A statement '..UptoSaid' is the law's where the arguments, and the package variables that the reading takes, are together of bulk at most 1048576: NARROWER than '..Said'. Prove '..Said' where nothing that the law and all that it calls make is longer than what came in: it says more and counts as full. Else prove '..UptoSaid'. A law counts once. -/
mutual
def uptoBulk {H : Type} : DataW H → Nat
  | .lit (.string bytes) => bytes.length + 1
  | .lit _ => 1
  | .nil => 1
  | .ptr d => uptoBulk d + 1
  | .slice elems spare => uptoBulkAll elems + uptoBulkAll spare + 1
  | .agg parts => uptoBulkAll parts + 1
  | .iface _ d => uptoBulk d + 1
  | .map entries => uptoBulkEntries entries + 1
  | .held _ => 1
def uptoBulkAll {H : Type} : List (DataW H) → Nat
  | [] => 0
  | d :: r => uptoBulk d + uptoBulkAll r
def uptoBulkEntries {H : Type} : List (Lit × DataW H) → Nat
  | [] => 0
  | x :: r => uptoBulkEntry x + uptoBulkEntries r
def uptoBulkEntry {H : Type} : Lit × DataW H → Nat
  | (.string bytes, d) => bytes.length + uptoBulk d + 1
  | (_, d) => uptoBulk d + 1
 end
def uptoSmall : (H : Type) → List (DataW H) → Bool := fun _ ds => decide (uptoBulkAll ds ≤ 1048576)
def OpenSpec.upto (s : _root_.Go.ChangeSpec) : _root_.Go.OpenSpec := { _root_.Go.OpenSpec.ofChange s with cond := some uptoSmall }

/-- 'laws.FnPark', WHERE WHAT IT READS IS OF BULK AT MOST 1048576: true; the input reads as it did. -/
def fnParkUptoRow : OpenClaim := { program := "ytepjaahclcpaaaa", sum := "a66d2cd1198aff1859cf580378b661fe53732326d33e733a827c0f5b771059ae", func := "loop.example/g00624/laws.FnPark", spec := "fnPark", unfollowed := true, recurses := true, apart := false, narrowed := true }
def FnParkUptoSaid : Prop := fnParkUptoRow.holds Try.pinned (OpenSpec.upto fnParkSpec)

/-- 'laws.FnExpire', WHERE WHAT IT READS IS OF BULK AT MOST 1048576: true; the input reads as it did. -/
def fnExpireUptoRow : OpenClaim := { program := "ytepjaahclcpaaaa", sum := "a66d2cd1198aff1859cf580378b661fe53732326d33e733a827c0f5b771059ae", func := "loop.example/g00624/laws.FnExpire", spec := "fnExpire", unfollowed := true, recurses := true, apart := false, narrowed := true }
def FnExpireUptoSaid : Prop := fnExpireUptoRow.holds Try.pinned (OpenSpec.upto fnExpireSpec)

/-- 'laws.FnExactBeginCall', WHERE WHAT IT READS IS OF BULK AT MOST 1048576: true; the input reads as it did. -/
def fnExactBeginCallUptoRow : OpenClaim := { program := "ytepjaahclcpaaaa", sum := "a66d2cd1198aff1859cf580378b661fe53732326d33e733a827c0f5b771059ae", func := "loop.example/g00624/laws.FnExactBeginCall", spec := "fnExactBeginCall", apart := false, narrowed := true }
def FnExactBeginCallUptoSaid : Prop := fnExactBeginCallUptoRow.holds Try.pinned (OpenSpec.upto fnExactBeginCallSpec)

/-- 'laws.FnExactParkThread', WHERE WHAT IT READS IS OF BULK AT MOST 1048576: true; the input reads as it did. -/
def fnExactParkThreadUptoRow : OpenClaim := { program := "ytepjaahclcpaaaa", sum := "a66d2cd1198aff1859cf580378b661fe53732326d33e733a827c0f5b771059ae", func := "loop.example/g00624/laws.FnExactParkThread", spec := "fnExactParkThread", unfollowed := true, recurses := true, apart := false, narrowed := true }
def FnExactParkThreadUptoSaid : Prop := fnExactParkThreadUptoRow.holds Try.pinned (OpenSpec.upto fnExactParkThreadSpec)

/-- 'laws.FnExactUnparkThread', WHERE WHAT IT READS IS OF BULK AT MOST 1048576: true; the input reads as it did. -/
def fnExactUnparkThreadUptoRow : OpenClaim := { program := "ytepjaahclcpaaaa", sum := "a66d2cd1198aff1859cf580378b661fe53732326d33e733a827c0f5b771059ae", func := "loop.example/g00624/laws.FnExactUnparkThread", spec := "fnExactUnparkThread", unfollowed := true, recurses := true, apart := false, narrowed := true }
def FnExactUnparkThreadUptoSaid : Prop := fnExactUnparkThreadUptoRow.holds Try.pinned (OpenSpec.upto fnExactUnparkThreadSpec)

/-- 'laws.FnExactWakeThread', WHERE WHAT IT READS IS OF BULK AT MOST 1048576: true; the input reads as it did. -/
def fnExactWakeThreadUptoRow : OpenClaim := { program := "ytepjaahclcpaaaa", sum := "a66d2cd1198aff1859cf580378b661fe53732326d33e733a827c0f5b771059ae", func := "loop.example/g00624/laws.FnExactWakeThread", spec := "fnExactWakeThread", unfollowed := true, recurses := true, apart := false, narrowed := true }
def FnExactWakeThreadUptoSaid : Prop := fnExactWakeThreadUptoRow.holds Try.pinned (OpenSpec.upto fnExactWakeThreadSpec)

/-- 'laws.FnExactGivesUp', WHERE WHAT IT READS IS OF BULK AT MOST 1048576: true; the input reads as it did. -/
def fnExactGivesUpUptoRow : OpenClaim := { program := "ytepjaahclcpaaaa", sum := "a66d2cd1198aff1859cf580378b661fe53732326d33e733a827c0f5b771059ae", func := "loop.example/g00624/laws.FnExactGivesUp", spec := "fnExactGivesUp", apart := false, narrowed := true }
def FnExactGivesUpUptoSaid : Prop := fnExactGivesUpUptoRow.holds Try.pinned (OpenSpec.upto fnExactGivesUpSpec)

/-- 'laws.FnExactExpireThread', WHERE WHAT IT READS IS OF BULK AT MOST 1048576: true; the input reads as it did. -/
def fnExactExpireThreadUptoRow : OpenClaim := { program := "ytepjaahclcpaaaa", sum := "a66d2cd1198aff1859cf580378b661fe53732326d33e733a827c0f5b771059ae", func := "loop.example/g00624/laws.FnExactExpireThread", spec := "fnExactExpireThread", apart := false, narrowed := true }
def FnExactExpireThreadUptoSaid : Prop := fnExactExpireThreadUptoRow.holds Try.pinned (OpenSpec.upto fnExactExpireThreadSpec)

end Rows
end Go.Proofs.Ytepjaahclcpaaaa
