/-
  DERIVED. GIVEN WITH THE SEED: THE CARDS: each row of YtepjaahclcpaaaaDoorRows.lean that lists a variable, with what it lists TIED to the program's text (the seventh form; the later family's looks); each row that meets fmt, with fmt's text TOLD by the authors' own Lean function (tested against real Go, not proved from fmt's source: count such statements apart). THE CARD IS WHAT COUNTS. Prove the row's statement (the work); the ties are given (YtepjaahclcpaaaaDoorTie.lean); close each card by the builder's one call (the guide's Derived/Test/ToyasCard.lean, 'card_holds'). Laid BY PROGRAM, IN A SANDBOX (cutbox-door.mjs). By AI agents, Wed Nov 11 2026. No macro, syntax, notation, axiom, sorry.
-/
import Derived.Test.YtepjaahclcpaaaaDoorRows
import GoSem.ClaimSeven
namespace Go.Proofs.YtepjaahclcpaaaaDoor
namespace Rows

/-- THE TIED CARD OF 'laws.FnBegin'. -/
def fnBeginCard : Claim7 := { stood := { row := fnBeginRow, standIns := [], harness := (true, "c9beaea0ddcba653c482299c9b370a5b634ddaef9377dab80e74477c30feb1e3"), looks := false }, kinds := [], alts := [], laidByText := true, laidKinds := [.data], laidTests := true, laidLooks := .later }
def FnBeginCardSaid : Prop := Claim7.holds Tryd.pinned (.plain (OpenSpec.ofChange fnBeginSpec)) fnBeginCard

/-- THE SECOND FORM's CARD OF 'laws.FnBegin'. -/
def fnBeginUptoCard : Claim7 := { stood := { row := fnBeginUptoRow, standIns := [], harness := (true, "c9beaea0ddcba653c482299c9b370a5b634ddaef9377dab80e74477c30feb1e3"), looks := false }, kinds := [], alts := [], laidByText := true, laidKinds := [.data], laidTests := true, laidLooks := .later }
def FnBeginUptoCardSaid : Prop := Claim7.holds Tryd.pinned (.plain (OpenSpec.upto fnBeginSpec)) fnBeginUptoCard
end Rows
end Go.Proofs.YtepjaahclcpaaaaDoor
