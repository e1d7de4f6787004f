/-
  No cell of these rows narrows 'for every input' (looked for: loops, veiled, ifaces, maps, wideKeys, modest, calm, conditions, laid).
  DERIVED. THE GIVEN ROWS OF THIS SEAT. 13 by the template 'for every input the law returns true; each argument reads behind the call as it read before'; 0 by the template 'total and deterministic' (their statements: YtnahdbkdonbofaaTotals.lean).
  GIVEN WITH THE SEED: the statements are not yours to turn. If you find one false, say at which input.
  Laid BY PROGRAM, IN A SANDBOX (cutbox-rows.mjs): the forced cells as the released guide's own fill.sh prints them over the translation 79449660c4460f69… (all of the seat's roots in one cut). By AI agents, Wed Nov 11 2026. No macro, syntax, notation, axiom, sorry.
-/
import Derived.Test.YtnahdbkdonbofaaChecked
import GoSem.Claim
import GoSem.ClaimJoined
import GoSem.ClaimMapViews
import Derived.JoinedTies
import Derived.KernelRfl
namespace Go.Proofs.Ytnahdbkdonbofaa
/- THE CELL 'sum', in the pinned program and in every row, IS THE sha256 OF THE DUMP (.gsa) THAT YtnahdbkdonbofaaProg.lean LOADS. Nothing in Lean hashes anything: it is a label: what it is worth is what the hold of that sum in a sandbox is worth. -/
noncomputable def Try.pinned : Pinned := { name := "ytnahdbkdonbofaa", sum := "79449660c4460f69b6255ef80895e6e4949f40f6d2f415f9fd8a52df436f0092", checked := Try.checked }
namespace Rows
def none {H : Type} : Left H := { results := [], args := [] }

/-- 'laws.FnCell': WHATEVER THE INPUT: true; the input reads as it did. -/
def fnCellSpec : ChangeSpec := { name := "fnCell", fn := fun _ => fun
  | [d1, d2] => { results := [.lit (.bool true)], args := [d1, d2] }
  | _ => none }
def fnCellRow : OpenClaim := { program := "ytnahdbkdonbofaa", sum := "79449660c4460f69b6255ef80895e6e4949f40f6d2f415f9fd8a52df436f0092", func := "loop.example/g00624/laws.FnCell", spec := "fnCell", apart := false }
def FnCellSaid : Prop := fnCellRow.holds Try.pinned (OpenSpec.ofChange fnCellSpec)

/-- ITS FALSE NEIGHBOUR: 'it returns false'. Refute it at one input. -/
def fnCellWrong : ChangeSpec := { name := "fnCell", fn := fun _ => fun
  | [d1, d2] => { results := [.lit (.bool false)], args := [d1, d2] }
  | _ => none }
def FnCellWrongFalsely : Prop := fnCellRow.holds Try.pinned (OpenSpec.ofChange fnCellWrong)

/-- 'laws.FnCas': WHATEVER THE INPUT: true; the input reads as it did. -/
def fnCasSpec : ChangeSpec := { name := "fnCas", fn := fun _ => fun
  | [d1, d2] => { results := [.lit (.bool true)], args := [d1, d2] }
  | _ => none }
def fnCasRow : OpenClaim := { program := "ytnahdbkdonbofaa", sum := "79449660c4460f69b6255ef80895e6e4949f40f6d2f415f9fd8a52df436f0092", func := "loop.example/g00624/laws.FnCas", spec := "fnCas", apart := false }
def FnCasSaid : Prop := fnCasRow.holds Try.pinned (OpenSpec.ofChange fnCasSpec)

/-- ITS FALSE NEIGHBOUR: 'it returns false'. Refute it at one input. -/
def fnCasWrong : ChangeSpec := { name := "fnCas", fn := fun _ => fun
  | [d1, d2] => { results := [.lit (.bool false)], args := [d1, d2] }
  | _ => none }
def FnCasWrongFalsely : Prop := fnCasRow.holds Try.pinned (OpenSpec.ofChange fnCasWrong)

/-- 'laws.FnAdd': WHATEVER THE INPUT: true; the input reads as it did. -/
def fnAddSpec : ChangeSpec := { name := "fnAdd", fn := fun _ => fun
  | [d1, d2] => { results := [.lit (.bool true)], args := [d1, d2] }
  | _ => none }
def fnAddRow : OpenClaim := { program := "ytnahdbkdonbofaa", sum := "79449660c4460f69b6255ef80895e6e4949f40f6d2f415f9fd8a52df436f0092", func := "loop.example/g00624/laws.FnAdd", spec := "fnAdd", apart := false }
def FnAddSaid : Prop := fnAddRow.holds Try.pinned (OpenSpec.ofChange fnAddSpec)

/-- ITS FALSE NEIGHBOUR: 'it returns false'. Refute it at one input. -/
def fnAddWrong : ChangeSpec := { name := "fnAdd", fn := fun _ => fun
  | [d1, d2] => { results := [.lit (.bool false)], args := [d1, d2] }
  | _ => none }
def FnAddWrongFalsely : Prop := fnAddRow.holds Try.pinned (OpenSpec.ofChange fnAddWrong)

/-- 'laws.FnAlloc': WHATEVER THE INPUT: true; the input reads as it did. -/
def fnAllocSpec : ChangeSpec := { name := "fnAlloc", fn := fun _ => fun
  | [d1, d2] => { results := [.lit (.bool true)], args := [d1, d2] }
  | _ => none }
def fnAllocRow : OpenClaim := { program := "ytnahdbkdonbofaa", sum := "79449660c4460f69b6255ef80895e6e4949f40f6d2f415f9fd8a52df436f0092", func := "loop.example/g00624/laws.FnAlloc", spec := "fnAlloc", apart := false }
def FnAllocSaid : Prop := fnAllocRow.holds Try.pinned (OpenSpec.ofChange fnAllocSpec)

/-- ITS FALSE NEIGHBOUR: 'it returns false'. Refute it at one input. -/
def fnAllocWrong : ChangeSpec := { name := "fnAlloc", fn := fun _ => fun
  | [d1, d2] => { results := [.lit (.bool false)], args := [d1, d2] }
  | _ => none }
def FnAllocWrongFalsely : Prop := fnAllocRow.holds Try.pinned (OpenSpec.ofChange fnAllocWrong)

/-- 'laws.FnExactNameOK': WHATEVER THE INPUT: true; the input reads as it did. -/
def fnExactNameOKSpec : ChangeSpec := { name := "fnExactNameOK", fn := fun _ => fun
  | [d] => { results := [.lit (.bool true)], args := [d] }
  | _ => none }
def fnExactNameOKRow : OpenClaim := { program := "ytnahdbkdonbofaa", sum := "79449660c4460f69b6255ef80895e6e4949f40f6d2f415f9fd8a52df436f0092", func := "loop.example/g00624/laws.FnExactNameOK", spec := "fnExactNameOK", apart := false }
def FnExactNameOKSaid : Prop := fnExactNameOKRow.holds Try.pinned (OpenSpec.ofChange fnExactNameOKSpec)

/-- ITS FALSE NEIGHBOUR: 'it returns false'. Refute it at one input. -/
def fnExactNameOKWrong : ChangeSpec := { name := "fnExactNameOK", fn := fun _ => fun
  | [d] => { results := [.lit (.bool false)], args := [d] }
  | _ => none }
def FnExactNameOKWrongFalsely : Prop := fnExactNameOKRow.holds Try.pinned (OpenSpec.ofChange fnExactNameOKWrong)

/-- 'laws.FnExactNewArena': WHATEVER THE INPUT: true; the input reads as it did. -/
def fnExactNewArenaSpec : ChangeSpec := { name := "fnExactNewArena", fn := fun _ => fun
  | [] => { results := [.lit (.bool true)], args := [] }
  | _ => none }
def fnExactNewArenaRow : OpenClaim := { program := "ytnahdbkdonbofaa", sum := "79449660c4460f69b6255ef80895e6e4949f40f6d2f415f9fd8a52df436f0092", func := "loop.example/g00624/laws.FnExactNewArena", spec := "fnExactNewArena", apart := false }
def FnExactNewArenaSaid : Prop := fnExactNewArenaRow.holds Try.pinned (OpenSpec.ofChange fnExactNewArenaSpec)

/-- ITS FALSE NEIGHBOUR: 'it returns false'. Refute it at one input. -/
def fnExactNewArenaWrong : ChangeSpec := { name := "fnExactNewArena", fn := fun _ => fun
  | [] => { results := [.lit (.bool false)], args := [] }
  | _ => none }
def FnExactNewArenaWrongFalsely : Prop := fnExactNewArenaRow.holds Try.pinned (OpenSpec.ofChange fnExactNewArenaWrong)

/-- 'laws.FnExactArenaOK': WHATEVER THE INPUT: true; the input reads as it did. -/
def fnExactArenaOKSpec : ChangeSpec := { name := "fnExactArenaOK", fn := fun _ => fun
  | [d] => { results := [.lit (.bool true)], args := [d] }
  | _ => none }
def fnExactArenaOKRow : OpenClaim := { program := "ytnahdbkdonbofaa", sum := "79449660c4460f69b6255ef80895e6e4949f40f6d2f415f9fd8a52df436f0092", func := "loop.example/g00624/laws.FnExactArenaOK", spec := "fnExactArenaOK", apart := false }
def FnExactArenaOKSaid : Prop := fnExactArenaOKRow.holds Try.pinned (OpenSpec.ofChange fnExactArenaOKSpec)

/-- ITS FALSE NEIGHBOUR: 'it returns false'. Refute it at one input. -/
def fnExactArenaOKWrong : ChangeSpec := { name := "fnExactArenaOK", fn := fun _ => fun
  | [d] => { results := [.lit (.bool false)], args := [d] }
  | _ => none }
def FnExactArenaOKWrongFalsely : Prop := fnExactArenaOKRow.holds Try.pinned (OpenSpec.ofChange fnExactArenaOKWrong)

/-- 'laws.FnExactLoadCell': WHATEVER THE INPUT: true; the input reads as it did. -/
def fnExactLoadCellSpec : ChangeSpec := { name := "fnExactLoadCell", fn := fun _ => fun
  | [d1, d2] => { results := [.lit (.bool true)], args := [d1, d2] }
  | _ => none }
def fnExactLoadCellRow : OpenClaim := { program := "ytnahdbkdonbofaa", sum := "79449660c4460f69b6255ef80895e6e4949f40f6d2f415f9fd8a52df436f0092", func := "loop.example/g00624/laws.FnExactLoadCell", spec := "fnExactLoadCell", apart := false }
def FnExactLoadCellSaid : Prop := fnExactLoadCellRow.holds Try.pinned (OpenSpec.ofChange fnExactLoadCellSpec)

/-- ITS FALSE NEIGHBOUR: 'it returns false'. Refute it at one input. -/
def fnExactLoadCellWrong : ChangeSpec := { name := "fnExactLoadCell", fn := fun _ => fun
  | [d1, d2] => { results := [.lit (.bool false)], args := [d1, d2] }
  | _ => none }
def FnExactLoadCellWrongFalsely : Prop := fnExactLoadCellRow.holds Try.pinned (OpenSpec.ofChange fnExactLoadCellWrong)

/-- 'laws.FnExactStoreCell': WHATEVER THE INPUT: true; the input reads as it did. -/
def fnExactStoreCellSpec : ChangeSpec := { name := "fnExactStoreCell", fn := fun _ => fun
  | [d1, d2, d3] => { results := [.lit (.bool true)], args := [d1, d2, d3] }
  | _ => none }
def fnExactStoreCellRow : OpenClaim := { program := "ytnahdbkdonbofaa", sum := "79449660c4460f69b6255ef80895e6e4949f40f6d2f415f9fd8a52df436f0092", func := "loop.example/g00624/laws.FnExactStoreCell", spec := "fnExactStoreCell", apart := false }
def FnExactStoreCellSaid : Prop := fnExactStoreCellRow.holds Try.pinned (OpenSpec.ofChange fnExactStoreCellSpec)

/-- ITS FALSE NEIGHBOUR: 'it returns false'. Refute it at one input. -/
def fnExactStoreCellWrong : ChangeSpec := { name := "fnExactStoreCell", fn := fun _ => fun
  | [d1, d2, d3] => { results := [.lit (.bool false)], args := [d1, d2, d3] }
  | _ => none }
def FnExactStoreCellWrongFalsely : Prop := fnExactStoreCellRow.holds Try.pinned (OpenSpec.ofChange fnExactStoreCellWrong)

/-- 'laws.FnExactCasCell': WHATEVER THE INPUT: true; the input reads as it did. -/
def fnExactCasCellSpec : ChangeSpec := { name := "fnExactCasCell", fn := fun _ => fun
  | [d1, d2, d3, d4] => { results := [.lit (.bool true)], args := [d1, d2, d3, d4] }
  | _ => none }
def fnExactCasCellRow : OpenClaim := { program := "ytnahdbkdonbofaa", sum := "79449660c4460f69b6255ef80895e6e4949f40f6d2f415f9fd8a52df436f0092", func := "loop.example/g00624/laws.FnExactCasCell", spec := "fnExactCasCell", apart := false }
def FnExactCasCellSaid : Prop := fnExactCasCellRow.holds Try.pinned (OpenSpec.ofChange fnExactCasCellSpec)

/-- ITS FALSE NEIGHBOUR: 'it returns false'. Refute it at one input. -/
def fnExactCasCellWrong : ChangeSpec := { name := "fnExactCasCell", fn := fun _ => fun
  | [d1, d2, d3, d4] => { results := [.lit (.bool false)], args := [d1, d2, d3, d4] }
  | _ => none }
def FnExactCasCellWrongFalsely : Prop := fnExactCasCellRow.holds Try.pinned (OpenSpec.ofChange fnExactCasCellWrong)

/-- 'laws.FnExactAddCell': WHATEVER THE INPUT: true; the input reads as it did. -/
def fnExactAddCellSpec : ChangeSpec := { name := "fnExactAddCell", fn := fun _ => fun
  | [d1, d2, d3] => { results := [.lit (.bool true)], args := [d1, d2, d3] }
  | _ => none }
def fnExactAddCellRow : OpenClaim := { program := "ytnahdbkdonbofaa", sum := "79449660c4460f69b6255ef80895e6e4949f40f6d2f415f9fd8a52df436f0092", func := "loop.example/g00624/laws.FnExactAddCell", spec := "fnExactAddCell", apart := false }
def FnExactAddCellSaid : Prop := fnExactAddCellRow.holds Try.pinned (OpenSpec.ofChange fnExactAddCellSpec)

/-- ITS FALSE NEIGHBOUR: 'it returns false'. Refute it at one input. -/
def fnExactAddCellWrong : ChangeSpec := { name := "fnExactAddCell", fn := fun _ => fun
  | [d1, d2, d3] => { results := [.lit (.bool false)], args := [d1, d2, d3] }
  | _ => none }
def FnExactAddCellWrongFalsely : Prop := fnExactAddCellRow.holds Try.pinned (OpenSpec.ofChange fnExactAddCellWrong)

/-- 'laws.FnExactAllocCells': WHATEVER THE INPUT: true; the input reads as it did. -/
def fnExactAllocCellsSpec : ChangeSpec := { name := "fnExactAllocCells", fn := fun _ => fun
  | [d1, d2] => { results := [.lit (.bool true)], args := [d1, d2] }
  | _ => none }
def fnExactAllocCellsRow : OpenClaim := { program := "ytnahdbkdonbofaa", sum := "79449660c4460f69b6255ef80895e6e4949f40f6d2f415f9fd8a52df436f0092", func := "loop.example/g00624/laws.FnExactAllocCells", spec := "fnExactAllocCells", apart := false }
def FnExactAllocCellsSaid : Prop := fnExactAllocCellsRow.holds Try.pinned (OpenSpec.ofChange fnExactAllocCellsSpec)

/-- ITS FALSE NEIGHBOUR: 'it returns false'. Refute it at one input. -/
def fnExactAllocCellsWrong : ChangeSpec := { name := "fnExactAllocCells", fn := fun _ => fun
  | [d1, d2] => { results := [.lit (.bool false)], args := [d1, d2] }
  | _ => none }
def FnExactAllocCellsWrongFalsely : Prop := fnExactAllocCellsRow.holds Try.pinned (OpenSpec.ofChange fnExactAllocCellsWrong)

/-- 'laws.FnExactSameArena': WHATEVER THE INPUT: true; the input reads as it did. -/
def fnExactSameArenaSpec : ChangeSpec := { name := "fnExactSameArena", fn := fun _ => fun
  | [d1, d2] => { results := [.lit (.bool true)], args := [d1, d2] }
  | _ => none }
def fnExactSameArenaRow : OpenClaim := { program := "ytnahdbkdonbofaa", sum := "79449660c4460f69b6255ef80895e6e4949f40f6d2f415f9fd8a52df436f0092", func := "loop.example/g00624/laws.FnExactSameArena", spec := "fnExactSameArena", apart := false }
def FnExactSameArenaSaid : Prop := fnExactSameArenaRow.holds Try.pinned (OpenSpec.ofChange fnExactSameArenaSpec)

/-- ITS FALSE NEIGHBOUR: 'it returns false'. Refute it at one input. -/
def fnExactSameArenaWrong : ChangeSpec := { name := "fnExactSameArena", fn := fun _ => fun
  | [d1, d2] => { results := [.lit (.bool false)], args := [d1, d2] }
  | _ => none }
def FnExactSameArenaWrongFalsely : Prop := fnExactSameArenaRow.holds Try.pinned (OpenSpec.ofChange fnExactSameArenaWrong)

/- THE SECOND FORM. 'bulk': how many values and letters a reading holds, each counted each time it is reached (what is shared counts as often as it is met; a slice's spare places count too). A statement '..UptoSaid' is the law's where the arguments, and the package variables that the reading takes, are together of bulk at most 1048576: NARROWER than '..Said'. Prove '..Said' where nothing that the law and all that it calls make is longer than what came in: it says more and counts as full. Else prove '..UptoSaid'. A law counts once. -/
mutual
def uptoBulk {H : Type} : DataW H → Nat
  | .lit (.string bytes) => bytes.length + 1
  | .lit _ => 1
  | .nil => 1
  | .ptr d => uptoBulk d + 1
  | .slice elems spare => uptoBulkAll elems + uptoBulkAll spare + 1
  | .agg parts => uptoBulkAll parts + 1
  | .iface _ d => uptoBulk d + 1
  | .map entries => uptoBulkEntries entries + 1
  | .held _ => 1
def uptoBulkAll {H : Type} : List (DataW H) → Nat
  | [] => 0
  | d :: r => uptoBulk d + uptoBulkAll r
def uptoBulkEntries {H : Type} : List (Lit × DataW H) → Nat
  | [] => 0
  | x :: r => uptoBulkEntry x + uptoBulkEntries r
def uptoBulkEntry {H : Type} : Lit × DataW H → Nat
  | (.string bytes, d) => bytes.length + uptoBulk d + 1
  | (_, d) => uptoBulk d + 1
 end
def uptoSmall : (H : Type) → List (DataW H) → Bool := fun _ ds => decide (uptoBulkAll ds ≤ 1048576)
def OpenSpec.upto (s : _root_.Go.ChangeSpec) : _root_.Go.OpenSpec := { _root_.Go.OpenSpec.ofChange s with cond := some uptoSmall }

/-- 'laws.FnCell', WHERE WHAT IT READS IS OF BULK AT MOST 1048576: true; the input reads as it did. -/
def fnCellUptoRow : OpenClaim := { program := "ytnahdbkdonbofaa", sum := "79449660c4460f69b6255ef80895e6e4949f40f6d2f415f9fd8a52df436f0092", func := "loop.example/g00624/laws.FnCell", spec := "fnCell", apart := false, narrowed := true }
def FnCellUptoSaid : Prop := fnCellUptoRow.holds Try.pinned (OpenSpec.upto fnCellSpec)

/-- 'laws.FnCas', WHERE WHAT IT READS IS OF BULK AT MOST 1048576: true; the input reads as it did. -/
def fnCasUptoRow : OpenClaim := { program := "ytnahdbkdonbofaa", sum := "79449660c4460f69b6255ef80895e6e4949f40f6d2f415f9fd8a52df436f0092", func := "loop.example/g00624/laws.FnCas", spec := "fnCas", apart := false, narrowed := true }
def FnCasUptoSaid : Prop := fnCasUptoRow.holds Try.pinned (OpenSpec.upto fnCasSpec)

/-- 'laws.FnAdd', WHERE WHAT IT READS IS OF BULK AT MOST 1048576: true; the input reads as it did. -/
def fnAddUptoRow : OpenClaim := { program := "ytnahdbkdonbofaa", sum := "79449660c4460f69b6255ef80895e6e4949f40f6d2f415f9fd8a52df436f0092", func := "loop.example/g00624/laws.FnAdd", spec := "fnAdd", apart := false, narrowed := true }
def FnAddUptoSaid : Prop := fnAddUptoRow.holds Try.pinned (OpenSpec.upto fnAddSpec)

/-- 'laws.FnAlloc', WHERE WHAT IT READS IS OF BULK AT MOST 1048576: true; the input reads as it did. -/
def fnAllocUptoRow : OpenClaim := { program := "ytnahdbkdonbofaa", sum := "79449660c4460f69b6255ef80895e6e4949f40f6d2f415f9fd8a52df436f0092", func := "loop.example/g00624/laws.FnAlloc", spec := "fnAlloc", apart := false, narrowed := true }
def FnAllocUptoSaid : Prop := fnAllocUptoRow.holds Try.pinned (OpenSpec.upto fnAllocSpec)

/-- 'laws.FnExactNameOK', WHERE WHAT IT READS IS OF BULK AT MOST 1048576: true; the input reads as it did. -/
def fnExactNameOKUptoRow : OpenClaim := { program := "ytnahdbkdonbofaa", sum := "79449660c4460f69b6255ef80895e6e4949f40f6d2f415f9fd8a52df436f0092", func := "loop.example/g00624/laws.FnExactNameOK", spec := "fnExactNameOK", apart := false, narrowed := true }
def FnExactNameOKUptoSaid : Prop := fnExactNameOKUptoRow.holds Try.pinned (OpenSpec.upto fnExactNameOKSpec)

/-- 'laws.FnExactNewArena', WHERE WHAT IT READS IS OF BULK AT MOST 1048576: true; the input reads as it did. -/
def fnExactNewArenaUptoRow : OpenClaim := { program := "ytnahdbkdonbofaa", sum := "79449660c4460f69b6255ef80895e6e4949f40f6d2f415f9fd8a52df436f0092", func := "loop.example/g00624/laws.FnExactNewArena", spec := "fnExactNewArena", apart := false, narrowed := true }
def FnExactNewArenaUptoSaid : Prop := fnExactNewArenaUptoRow.holds Try.pinned (OpenSpec.upto fnExactNewArenaSpec)

/-- 'laws.FnExactArenaOK', WHERE WHAT IT READS IS OF BULK AT MOST 1048576: true; the input reads as it did. -/
def fnExactArenaOKUptoRow : OpenClaim := { program := "ytnahdbkdonbofaa", sum := "79449660c4460f69b6255ef80895e6e4949f40f6d2f415f9fd8a52df436f0092", func := "loop.example/g00624/laws.FnExactArenaOK", spec := "fnExactArenaOK", apart := false, narrowed := true }
def FnExactArenaOKUptoSaid : Prop := fnExactArenaOKUptoRow.holds Try.pinned (OpenSpec.upto fnExactArenaOKSpec)

/-- 'laws.FnExactLoadCell', WHERE WHAT IT READS IS OF BULK AT MOST 1048576: true; the input reads as it did. -/
def fnExactLoadCellUptoRow : OpenClaim := { program := "ytnahdbkdonbofaa", sum := "79449660c4460f69b6255ef80895e6e4949f40f6d2f415f9fd8a52df436f0092", func := "loop.example/g00624/laws.FnExactLoadCell", spec := "fnExactLoadCell", apart := false, narrowed := true }
def FnExactLoadCellUptoSaid : Prop := fnExactLoadCellUptoRow.holds Try.pinned (OpenSpec.upto fnExactLoadCellSpec)

/-- 'laws.FnExactStoreCell', WHERE WHAT IT READS IS OF BULK AT MOST 1048576: true; the input reads as it did. -/
def fnExactStoreCellUptoRow : OpenClaim := { program := "ytnahdbkdonbofaa", sum := "79449660c4460f69b6255ef80895e6e4949f40f6d2f415f9fd8a52df436f0092", func := "loop.example/g00624/laws.FnExactStoreCell", spec := "fnExactStoreCell", apart := false, narrowed := true }
def FnExactStoreCellUptoSaid : Prop := fnExactStoreCellUptoRow.holds Try.pinned (OpenSpec.upto fnExactStoreCellSpec)

/-- 'laws.FnExactCasCell', WHERE WHAT IT READS IS OF BULK AT MOST 1048576: true; the input reads as it did. -/
def fnExactCasCellUptoRow : OpenClaim := { program := "ytnahdbkdonbofaa", sum := "79449660c4460f69b6255ef80895e6e4949f40f6d2f415f9fd8a52df436f0092", func := "loop.example/g00624/laws.FnExactCasCell", spec := "fnExactCasCell", apart := false, narrowed := true }
def FnExactCasCellUptoSaid : Prop := fnExactCasCellUptoRow.holds Try.pinned (OpenSpec.upto fnExactCasCellSpec)

/-- 'laws.FnExactAddCell', WHERE WHAT IT READS IS OF BULK AT MOST 1048576: true; the input reads as it did. -/
def fnExactAddCellUptoRow : OpenClaim := { program := "ytnahdbkdonbofaa", sum := "79449660c4460f69b6255ef80895e6e4949f40f6d2f415f9fd8a52df436f0092", func := "loop.example/g00624/laws.FnExactAddCell", spec := "fnExactAddCell", apart := false, narrowed := true }
def FnExactAddCellUptoSaid : Prop := fnExactAddCellUptoRow.holds Try.pinned (OpenSpec.upto fnExactAddCellSpec)

/-- 'laws.FnExactAllocCells', WHERE WHAT IT READS IS OF BULK AT MOST 1048576: true; the input reads as it did. -/
def fnExactAllocCellsUptoRow : OpenClaim := { program := "ytnahdbkdonbofaa", sum := "79449660c4460f69b6255ef80895e6e4949f40f6d2f415f9fd8a52df436f0092", func := "loop.example/g00624/laws.FnExactAllocCells", spec := "fnExactAllocCells", apart := false, narrowed := true }
def FnExactAllocCellsUptoSaid : Prop := fnExactAllocCellsUptoRow.holds Try.pinned (OpenSpec.upto fnExactAllocCellsSpec)

/-- 'laws.FnExactSameArena', WHERE WHAT IT READS IS OF BULK AT MOST 1048576: true; the input reads as it did. -/
def fnExactSameArenaUptoRow : OpenClaim := { program := "ytnahdbkdonbofaa", sum := "79449660c4460f69b6255ef80895e6e4949f40f6d2f415f9fd8a52df436f0092", func := "loop.example/g00624/laws.FnExactSameArena", spec := "fnExactSameArena", apart := false, narrowed := true }
def FnExactSameArenaUptoSaid : Prop := fnExactSameArenaUptoRow.holds Try.pinned (OpenSpec.upto fnExactSameArenaSpec)

end Rows
end Go.Proofs.Ytnahdbkdonbofaa
