/-
  DERIVED. GIVEN WITH THE SEED: THE CARDS: each row of YthnghiajjjjhaaaDoorRows.lean that lists a variable, with what it lists TIED to the program's text (the seventh form; the later family's looks); each row that meets fmt, with fmt's text TOLD by the authors' own Lean function (tested against real Go, not proved from fmt's source: count such statements apart). THE CARD IS WHAT COUNTS. Prove the row's statement (the work); the ties are given (YthnghiajjjjhaaaDoorTie.lean); close each card by the builder's one call (the guide's Derived/Test/ToyasCard.lean, 'card_holds'). Laid BY PROGRAM, IN A SANDBOX (cutbox-door.mjs). By AI agents, Wed Nov 11 2026. No macro, syntax, notation, axiom, sorry.
-/
import Derived.Test.YthnghiajjjjhaaaDoorRows
import GoSem.ClaimSeven
namespace Go.Proofs.YthnghiajjjjhaaaDoor
namespace Rows

/-- THE TIED CARD OF 'laws.FnBegin'. -/
def fnBeginCard : Claim7 := { stood := { row := fnBeginRow, standIns := [], harness := (true, "ff5587b06bb4cfb486cbd455ef0b5a0d1c916f1ccf71098ca79eedf268496b2d"), looks := false }, kinds := [], alts := [], laidByText := true, laidKinds := [.data], laidTests := true, laidLooks := .later }
def FnBeginCardSaid : Prop := Claim7.holds Tryd.pinned (.plain (OpenSpec.ofChange fnBeginSpec)) fnBeginCard

/-- THE TIED CARD OF 'laws.FnExactCodeWord'. -/
def fnExactCodeWordCard : Claim7 := { stood := { row := fnExactCodeWordRow, standIns := [], harness := (true, "ff5587b06bb4cfb486cbd455ef0b5a0d1c916f1ccf71098ca79eedf268496b2d"), looks := false }, kinds := [], alts := [], laidByText := true, laidKinds := [.data], laidTests := true, laidLooks := .later }
def FnExactCodeWordCardSaid : Prop := Claim7.holds Tryd.pinned (.plain (OpenSpec.ofChange fnExactCodeWordSpec)) fnExactCodeWordCard

/-- THE TIED CARD OF 'laws.FnExactOpWord'. -/
def fnExactOpWordCard : Claim7 := { stood := { row := fnExactOpWordRow, standIns := [], harness := (true, "ff5587b06bb4cfb486cbd455ef0b5a0d1c916f1ccf71098ca79eedf268496b2d"), looks := false }, kinds := [], alts := [], laidByText := true, laidKinds := [.data], laidTests := true, laidLooks := .later }
def FnExactOpWordCardSaid : Prop := Claim7.holds Tryd.pinned (.plain (OpenSpec.ofChange fnExactOpWordSpec)) fnExactOpWordCard

/-- THE TIED CARD OF 'laws.FnExactOpOf'. -/
def fnExactOpOfCard : Claim7 := { stood := { row := fnExactOpOfRow, standIns := [], harness := (true, "ff5587b06bb4cfb486cbd455ef0b5a0d1c916f1ccf71098ca79eedf268496b2d"), looks := false }, kinds := [], alts := [], laidByText := true, laidKinds := [.data], laidTests := true, laidLooks := .later }
def FnExactOpOfCardSaid : Prop := Claim7.holds Tryd.pinned (.plain (OpenSpec.ofChange fnExactOpOfSpec)) fnExactOpOfCard

/-- THE SECOND FORM's CARD OF 'laws.FnBegin'. -/
def fnBeginUptoCard : Claim7 := { stood := { row := fnBeginUptoRow, standIns := [], harness := (true, "ff5587b06bb4cfb486cbd455ef0b5a0d1c916f1ccf71098ca79eedf268496b2d"), looks := false }, kinds := [], alts := [], laidByText := true, laidKinds := [.data], laidTests := true, laidLooks := .later }
def FnBeginUptoCardSaid : Prop := Claim7.holds Tryd.pinned (.plain (OpenSpec.upto fnBeginSpec)) fnBeginUptoCard

/-- THE SECOND FORM's CARD OF 'laws.FnExactCodeWord'. -/
def fnExactCodeWordUptoCard : Claim7 := { stood := { row := fnExactCodeWordUptoRow, standIns := [], harness := (true, "ff5587b06bb4cfb486cbd455ef0b5a0d1c916f1ccf71098ca79eedf268496b2d"), looks := false }, kinds := [], alts := [], laidByText := true, laidKinds := [.data], laidTests := true, laidLooks := .later }
def FnExactCodeWordUptoCardSaid : Prop := Claim7.holds Tryd.pinned (.plain (OpenSpec.upto fnExactCodeWordSpec)) fnExactCodeWordUptoCard

/-- THE SECOND FORM's CARD OF 'laws.FnExactOpWord'. -/
def fnExactOpWordUptoCard : Claim7 := { stood := { row := fnExactOpWordUptoRow, standIns := [], harness := (true, "ff5587b06bb4cfb486cbd455ef0b5a0d1c916f1ccf71098ca79eedf268496b2d"), looks := false }, kinds := [], alts := [], laidByText := true, laidKinds := [.data], laidTests := true, laidLooks := .later }
def FnExactOpWordUptoCardSaid : Prop := Claim7.holds Tryd.pinned (.plain (OpenSpec.upto fnExactOpWordSpec)) fnExactOpWordUptoCard

/-- THE SECOND FORM's CARD OF 'laws.FnExactOpOf'. -/
def fnExactOpOfUptoCard : Claim7 := { stood := { row := fnExactOpOfUptoRow, standIns := [], harness := (true, "ff5587b06bb4cfb486cbd455ef0b5a0d1c916f1ccf71098ca79eedf268496b2d"), looks := false }, kinds := [], alts := [], laidByText := true, laidKinds := [.data], laidTests := true, laidLooks := .later }
def FnExactOpOfUptoCardSaid : Prop := Claim7.holds Tryd.pinned (.plain (OpenSpec.upto fnExactOpOfSpec)) fnExactOpOfUptoCard
end Rows
end Go.Proofs.YthnghiajjjjhaaaDoor
