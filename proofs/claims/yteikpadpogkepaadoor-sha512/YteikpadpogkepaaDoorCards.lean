/-
  DERIVED. GIVEN WITH THE SEED: THE CARDS: each row of YteikpadpogkepaaDoorRows.lean that lists a variable, with what it lists TIED to the program's text (the seventh form; the later family's looks); each row that meets fmt, with fmt's text TOLD by the authors' own Lean function (tested against real Go, not proved from fmt's source: count such statements apart). THE CARD IS WHAT COUNTS. Prove the row's statement (the work); the ties are given (YteikpadpogkepaaDoorTie.lean); close each card by the builder's one call (the guide's Derived/Test/ToyasCard.lean, 'card_holds'). Laid BY PROGRAM, IN A SANDBOX (cutbox-door.mjs). By AI agents, Wed Nov 11 2026. No macro, syntax, notation, axiom, sorry.
-/
import Derived.Test.YteikpadpogkepaaDoorRows
import GoSem.ClaimSeven
namespace Go.Proofs.YteikpadpogkepaaDoor
namespace Rows

/-- THE TIED CARD OF 'vestrylaw06.Sha256'. -/
def sha256Card : Claim7 := { stood := { row := sha256Row, standIns := [], harness := (true, "b7e84998ea9af9d93d97e3deef9a81726502dab0c07cae3fd782cccb8f8bf62e"), looks := false }, kinds := [], alts := [], laidByText := true, laidKinds := [.data, .data], laidTests := true, laidLooks := .later }
def Sha256CardSaid : Prop := Claim7.holds Tryd.pinned (.plain (OpenSpec.ofChange sha256Spec)) sha256Card

/-- THE TIED CARD OF 'vestrylaw06.Sha512'. -/
def sha512Card : Claim7 := { stood := { row := sha512Row, standIns := [], harness := (true, "b7e84998ea9af9d93d97e3deef9a81726502dab0c07cae3fd782cccb8f8bf62e"), looks := false }, kinds := [], alts := [], laidByText := true, laidKinds := [.data, .data], laidTests := true, laidLooks := .later }
def Sha512CardSaid : Prop := Claim7.holds Tryd.pinned (.plain (OpenSpec.ofChange sha512Spec)) sha512Card

/-- THE TIED CARD OF 'vestrylaw06.ShaStandard'. -/
def shaStandardCard : Claim7 := { stood := { row := shaStandardRow, standIns := [], harness := (true, "b7e84998ea9af9d93d97e3deef9a81726502dab0c07cae3fd782cccb8f8bf62e"), looks := false }, kinds := [], alts := [], laidByText := true, laidKinds := [.data, .data], laidTests := true, laidLooks := .later }
def ShaStandardCardSaid : Prop := Claim7.holds Tryd.pinned (.plain (OpenSpec.ofChange shaStandardSpec)) shaStandardCard

/-- THE TIED CARD OF 'vestrylaw06.ShaRoots'. -/
def shaRootsCard : Claim7 := { stood := { row := shaRootsRow, standIns := [], harness := (true, "b7e84998ea9af9d93d97e3deef9a81726502dab0c07cae3fd782cccb8f8bf62e"), looks := false }, kinds := [], alts := [], laidByText := true, laidKinds := [.data, .data], laidTests := true, laidLooks := .later }
def ShaRootsCardSaid : Prop := Claim7.holds Tryd.pinned (.plain (OpenSpec.ofChange shaRootsSpec)) shaRootsCard

/-- THE TIED CARD OF 'vestrylaw07.MacHmac'. -/
def macHmacCard : Claim7 := { stood := { row := macHmacRow, standIns := [], harness := (true, "b7e84998ea9af9d93d97e3deef9a81726502dab0c07cae3fd782cccb8f8bf62e"), looks := false }, kinds := [], alts := [], laidByText := true, laidKinds := [.data, .data], laidTests := true, laidLooks := .later }
def MacHmacCardSaid : Prop := Claim7.holds Tryd.pinned (.plain (OpenSpec.ofChange macHmacSpec)) macHmacCard

/-- THE TIED CARD OF 'vestrylaw07.MacExpands'. -/
def macExpandsCard : Claim7 := { stood := { row := macExpandsRow, standIns := [], harness := (true, "b7e84998ea9af9d93d97e3deef9a81726502dab0c07cae3fd782cccb8f8bf62e"), looks := false }, kinds := [], alts := [], laidByText := true, laidKinds := [.data, .data], laidTests := true, laidLooks := .later }
def MacExpandsCardSaid : Prop := Claim7.holds Tryd.pinned (.plain (OpenSpec.ofChange macExpandsSpec)) macExpandsCard

/-- THE SECOND FORM's CARD OF 'vestrylaw06.Sha256'. -/
def sha256UptoCard : Claim7 := { stood := { row := sha256UptoRow, standIns := [], harness := (true, "b7e84998ea9af9d93d97e3deef9a81726502dab0c07cae3fd782cccb8f8bf62e"), looks := false }, kinds := [], alts := [], laidByText := true, laidKinds := [.data, .data], laidTests := true, laidLooks := .later }
def Sha256UptoCardSaid : Prop := Claim7.holds Tryd.pinned (.plain (OpenSpec.upto sha256Spec)) sha256UptoCard

/-- THE SECOND FORM's CARD OF 'vestrylaw06.Sha512'. -/
def sha512UptoCard : Claim7 := { stood := { row := sha512UptoRow, standIns := [], harness := (true, "b7e84998ea9af9d93d97e3deef9a81726502dab0c07cae3fd782cccb8f8bf62e"), looks := false }, kinds := [], alts := [], laidByText := true, laidKinds := [.data, .data], laidTests := true, laidLooks := .later }
def Sha512UptoCardSaid : Prop := Claim7.holds Tryd.pinned (.plain (OpenSpec.upto sha512Spec)) sha512UptoCard

/-- THE SECOND FORM's CARD OF 'vestrylaw06.ShaStandard'. -/
def shaStandardUptoCard : Claim7 := { stood := { row := shaStandardUptoRow, standIns := [], harness := (true, "b7e84998ea9af9d93d97e3deef9a81726502dab0c07cae3fd782cccb8f8bf62e"), looks := false }, kinds := [], alts := [], laidByText := true, laidKinds := [.data, .data], laidTests := true, laidLooks := .later }
def ShaStandardUptoCardSaid : Prop := Claim7.holds Tryd.pinned (.plain (OpenSpec.upto shaStandardSpec)) shaStandardUptoCard

/-- THE SECOND FORM's CARD OF 'vestrylaw06.ShaRoots'. -/
def shaRootsUptoCard : Claim7 := { stood := { row := shaRootsUptoRow, standIns := [], harness := (true, "b7e84998ea9af9d93d97e3deef9a81726502dab0c07cae3fd782cccb8f8bf62e"), looks := false }, kinds := [], alts := [], laidByText := true, laidKinds := [.data, .data], laidTests := true, laidLooks := .later }
def ShaRootsUptoCardSaid : Prop := Claim7.holds Tryd.pinned (.plain (OpenSpec.upto shaRootsSpec)) shaRootsUptoCard

/-- THE SECOND FORM's CARD OF 'vestrylaw07.MacHmac'. -/
def macHmacUptoCard : Claim7 := { stood := { row := macHmacUptoRow, standIns := [], harness := (true, "b7e84998ea9af9d93d97e3deef9a81726502dab0c07cae3fd782cccb8f8bf62e"), looks := false }, kinds := [], alts := [], laidByText := true, laidKinds := [.data, .data], laidTests := true, laidLooks := .later }
def MacHmacUptoCardSaid : Prop := Claim7.holds Tryd.pinned (.plain (OpenSpec.upto macHmacSpec)) macHmacUptoCard

/-- THE SECOND FORM's CARD OF 'vestrylaw07.MacExpands'. -/
def macExpandsUptoCard : Claim7 := { stood := { row := macExpandsUptoRow, standIns := [], harness := (true, "b7e84998ea9af9d93d97e3deef9a81726502dab0c07cae3fd782cccb8f8bf62e"), looks := false }, kinds := [], alts := [], laidByText := true, laidKinds := [.data, .data], laidTests := true, laidLooks := .later }
def MacExpandsUptoCardSaid : Prop := Claim7.holds Tryd.pinned (.plain (OpenSpec.upto macExpandsSpec)) macExpandsUptoCard
end Rows
end Go.Proofs.YteikpadpogkepaaDoor
