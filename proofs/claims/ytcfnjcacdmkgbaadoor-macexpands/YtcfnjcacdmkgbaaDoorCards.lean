/-
  DERIVED. GIVEN WITH THE SEED: THE CARDS: each row of YtcfnjcacdmkgbaaDoorRows.lean that lists a variable, with what it lists TIED to the program's text (the seventh form; the later family's looks); each row that meets fmt, with fmt's text TOLD by the authors' own Lean function (tested against real Go, not proved from fmt's source: count such statements apart). THE CARD IS WHAT COUNTS. Prove the row's statement (the work); the ties are given (YtcfnjcacdmkgbaaDoorTie.lean); close each card by the builder's one call (the guide's Derived/Test/ToyasCard.lean, 'card_holds'). Laid BY PROGRAM, IN A SANDBOX (cutbox-door.mjs). By AI agents, Wed Nov 11 2026. No macro, syntax, notation, axiom, sorry.
-/
import Derived.Test.YtcfnjcacdmkgbaaDoorRows
import GoSem.ClaimSeven
namespace Go.Proofs.YtcfnjcacdmkgbaaDoor
namespace Rows

/-- THE TIED CARD OF 'vestrylaw06.Sha256'. -/
def sha256Card : Claim7 := { stood := { row := sha256Row, standIns := [], harness := (true, "b98e12d5f4cdedc70fabb0db352f569544988154caa24236ea677caee10b6f3d"), looks := false }, kinds := [], alts := [], laidByText := true, laidKinds := [.data, .data], laidTests := true, laidLooks := .later }
def Sha256CardSaid : Prop := Claim7.holds Tryd.pinned (.plain (OpenSpec.ofChange sha256Spec)) sha256Card

/-- THE TIED CARD OF 'vestrylaw07.MacHmac'. -/
def macHmacCard : Claim7 := { stood := { row := macHmacRow, standIns := [], harness := (true, "b98e12d5f4cdedc70fabb0db352f569544988154caa24236ea677caee10b6f3d"), looks := false }, kinds := [], alts := [], laidByText := true, laidKinds := [.data, .data], laidTests := true, laidLooks := .later }
def MacHmacCardSaid : Prop := Claim7.holds Tryd.pinned (.plain (OpenSpec.ofChange macHmacSpec)) macHmacCard

/-- THE TIED CARD OF 'vestrylaw07.MacExpands'. -/
def macExpandsCard : Claim7 := { stood := { row := macExpandsRow, standIns := [], harness := (true, "b98e12d5f4cdedc70fabb0db352f569544988154caa24236ea677caee10b6f3d"), looks := false }, kinds := [], alts := [], laidByText := true, laidKinds := [.data, .data], laidTests := true, laidLooks := .later }
def MacExpandsCardSaid : Prop := Claim7.holds Tryd.pinned (.plain (OpenSpec.ofChange macExpandsSpec)) macExpandsCard

/-- THE TIED CARD OF 'vestrylaw07.MacDerives'. -/
def macDerivesCard : Claim7 := { stood := { row := macDerivesRow, standIns := [], harness := (true, "b98e12d5f4cdedc70fabb0db352f569544988154caa24236ea677caee10b6f3d"), looks := false }, kinds := [], alts := [], laidByText := true, laidKinds := [.data, .data], laidTests := true, laidLooks := .later }
def MacDerivesCardSaid : Prop := Claim7.holds Tryd.pinned (.plain (OpenSpec.ofChange macDerivesSpec)) macDerivesCard

/-- THE TIED CARD OF 'vestrylaw07.MacFewer'. -/
def macFewerCard : Claim7 := { stood := { row := macFewerRow, standIns := [], harness := (true, "b98e12d5f4cdedc70fabb0db352f569544988154caa24236ea677caee10b6f3d"), looks := false }, kinds := [], alts := [], laidByText := true, laidKinds := [.data, .data], laidTests := true, laidLooks := .later }
def MacFewerCardSaid : Prop := Claim7.holds Tryd.pinned (.plain (OpenSpec.ofChange macFewerSpec)) macFewerCard

/-- THE TIED CARD OF 'vestrylaw07.MacNoughts'. -/
def macNoughtsCard : Claim7 := { stood := { row := macNoughtsRow, standIns := [], harness := (true, "b98e12d5f4cdedc70fabb0db352f569544988154caa24236ea677caee10b6f3d"), looks := false }, kinds := [], alts := [], laidByText := true, laidKinds := [.data, .data], laidTests := true, laidLooks := .later }
def MacNoughtsCardSaid : Prop := Claim7.holds Tryd.pinned (.plain (OpenSpec.ofChange macNoughtsSpec)) macNoughtsCard

/-- THE SECOND FORM's CARD OF 'vestrylaw06.Sha256'. -/
def sha256UptoCard : Claim7 := { stood := { row := sha256UptoRow, standIns := [], harness := (true, "b98e12d5f4cdedc70fabb0db352f569544988154caa24236ea677caee10b6f3d"), looks := false }, kinds := [], alts := [], laidByText := true, laidKinds := [.data, .data], laidTests := true, laidLooks := .later }
def Sha256UptoCardSaid : Prop := Claim7.holds Tryd.pinned (.plain (OpenSpec.upto sha256Spec)) sha256UptoCard

/-- THE SECOND FORM's CARD OF 'vestrylaw07.MacHmac'. -/
def macHmacUptoCard : Claim7 := { stood := { row := macHmacUptoRow, standIns := [], harness := (true, "b98e12d5f4cdedc70fabb0db352f569544988154caa24236ea677caee10b6f3d"), looks := false }, kinds := [], alts := [], laidByText := true, laidKinds := [.data, .data], laidTests := true, laidLooks := .later }
def MacHmacUptoCardSaid : Prop := Claim7.holds Tryd.pinned (.plain (OpenSpec.upto macHmacSpec)) macHmacUptoCard

/-- THE SECOND FORM's CARD OF 'vestrylaw07.MacExpands'. -/
def macExpandsUptoCard : Claim7 := { stood := { row := macExpandsUptoRow, standIns := [], harness := (true, "b98e12d5f4cdedc70fabb0db352f569544988154caa24236ea677caee10b6f3d"), looks := false }, kinds := [], alts := [], laidByText := true, laidKinds := [.data, .data], laidTests := true, laidLooks := .later }
def MacExpandsUptoCardSaid : Prop := Claim7.holds Tryd.pinned (.plain (OpenSpec.upto macExpandsSpec)) macExpandsUptoCard

/-- THE SECOND FORM's CARD OF 'vestrylaw07.MacDerives'. -/
def macDerivesUptoCard : Claim7 := { stood := { row := macDerivesUptoRow, standIns := [], harness := (true, "b98e12d5f4cdedc70fabb0db352f569544988154caa24236ea677caee10b6f3d"), looks := false }, kinds := [], alts := [], laidByText := true, laidKinds := [.data, .data], laidTests := true, laidLooks := .later }
def MacDerivesUptoCardSaid : Prop := Claim7.holds Tryd.pinned (.plain (OpenSpec.upto macDerivesSpec)) macDerivesUptoCard

/-- THE SECOND FORM's CARD OF 'vestrylaw07.MacFewer'. -/
def macFewerUptoCard : Claim7 := { stood := { row := macFewerUptoRow, standIns := [], harness := (true, "b98e12d5f4cdedc70fabb0db352f569544988154caa24236ea677caee10b6f3d"), looks := false }, kinds := [], alts := [], laidByText := true, laidKinds := [.data, .data], laidTests := true, laidLooks := .later }
def MacFewerUptoCardSaid : Prop := Claim7.holds Tryd.pinned (.plain (OpenSpec.upto macFewerSpec)) macFewerUptoCard

/-- THE SECOND FORM's CARD OF 'vestrylaw07.MacNoughts'. -/
def macNoughtsUptoCard : Claim7 := { stood := { row := macNoughtsUptoRow, standIns := [], harness := (true, "b98e12d5f4cdedc70fabb0db352f569544988154caa24236ea677caee10b6f3d"), looks := false }, kinds := [], alts := [], laidByText := true, laidKinds := [.data, .data], laidTests := true, laidLooks := .later }
def MacNoughtsUptoCardSaid : Prop := Claim7.holds Tryd.pinned (.plain (OpenSpec.upto macNoughtsSpec)) macNoughtsUptoCard
end Rows
end Go.Proofs.YtcfnjcacdmkgbaaDoor
