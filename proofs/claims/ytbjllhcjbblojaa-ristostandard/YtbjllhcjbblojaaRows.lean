/-
  No cell of these rows narrows 'for every input' (looked for: loops, veiled, ifaces, maps, wideKeys, modest, calm, conditions, laid).
  DERIVED. THE GIVEN ROWS OF THIS SEAT. 5 by the template 'for every input the law returns true; each argument reads behind the call as it read before'; 0 by the template 'total and deterministic' (their statements: YtbjllhcjbblojaaTotals.lean).
  GIVEN WITH THE SEED: the statements are not yours to turn. If you find one false, say at which input.
  Laid BY PROGRAM, IN A SANDBOX (cutbox-rows.mjs): the forced cells as the released guide's own fill.sh prints them over the translation 5b96a8bbaf713c5e… (all of the seat's roots in one cut). By AI agents, Wed Nov 11 2026. No macro, syntax, notation, axiom, sorry.
-/
import Derived.Test.YtbjllhcjbblojaaChecked
import GoSem.Claim
import GoSem.ClaimJoined
import GoSem.ClaimMapViews
import Derived.JoinedTies
import Derived.KernelRfl
namespace Go.Proofs.Ytbjllhcjbblojaa
/- THE CELL 'sum', in the pinned program and in every row, IS THE sha256 OF THE DUMP (.gsa) THAT YtbjllhcjbblojaaProg.lean LOADS. Nothing in Lean hashes anything: it is a label: what it is worth is what the hold of that sum in a sandbox is worth. -/
noncomputable def Try.pinned : Pinned := { name := "ytbjllhcjbblojaa", sum := "5b96a8bbaf713c5ed163480dd75a986adc1a911808bb964a175cda789ee35df0", checked := Try.checked }
namespace Rows
def none {H : Type} : Left H := { results := [], args := [] }

/-- 'vestrylaw04.RistoMaps': WHATEVER THE INPUT: true; the input reads as it did. -/
def ristoMapsSpec : ChangeSpec := { name := "ristoMaps", fn := fun _ => fun
  | [d] => { results := [.lit (.bool true)], args := [d] }
  | _ => none }
def ristoMapsRow : OpenClaim := { program := "ytbjllhcjbblojaa", sum := "5b96a8bbaf713c5ed163480dd75a986adc1a911808bb964a175cda789ee35df0", func := "vestry/vestrylaw04.RistoMaps", spec := "ristoMaps", inPlace := ["math/bits.Add64", "math/bits.Sub64"], apart := false }
def RistoMapsSaid : Prop := ristoMapsRow.holds Try.pinned (OpenSpec.ofChange ristoMapsSpec)

/-- ITS FALSE NEIGHBOUR: 'it returns false'. Refute it at one input. -/
def ristoMapsWrong : ChangeSpec := { name := "ristoMaps", fn := fun _ => fun
  | [d] => { results := [.lit (.bool false)], args := [d] }
  | _ => none }
def RistoMapsWrongFalsely : Prop := ristoMapsRow.holds Try.pinned (OpenSpec.ofChange ristoMapsWrong)

/-- 'vestrylaw04.RistoCosets': WHATEVER THE INPUT: true; the input reads as it did. -/
def ristoCosetsSpec : ChangeSpec := { name := "ristoCosets", fn := fun _ => fun
  | [d1, d2] => { results := [.lit (.bool true)], args := [d1, d2] }
  | _ => none }
def ristoCosetsRow : OpenClaim := { program := "ytbjllhcjbblojaa", sum := "5b96a8bbaf713c5ed163480dd75a986adc1a911808bb964a175cda789ee35df0", func := "vestry/vestrylaw04.RistoCosets", spec := "ristoCosets", inPlace := ["math/bits.Add64", "math/bits.Sub64"], apart := false }
def RistoCosetsSaid : Prop := ristoCosetsRow.holds Try.pinned (OpenSpec.ofChange ristoCosetsSpec)

/-- ITS FALSE NEIGHBOUR: 'it returns false'. Refute it at one input. -/
def ristoCosetsWrong : ChangeSpec := { name := "ristoCosets", fn := fun _ => fun
  | [d1, d2] => { results := [.lit (.bool false)], args := [d1, d2] }
  | _ => none }
def RistoCosetsWrongFalsely : Prop := ristoCosetsRow.holds Try.pinned (OpenSpec.ofChange ristoCosetsWrong)

/-- 'vestrylaw04.RistoStandard': WHATEVER THE INPUT: true; the input reads as it did. -/
def ristoStandardSpec : ChangeSpec := { name := "ristoStandard", fn := fun _ => fun
  | [] => { results := [.lit (.bool true)], args := [] }
  | _ => none }
def ristoStandardRow : OpenClaim := { program := "ytbjllhcjbblojaa", sum := "5b96a8bbaf713c5ed163480dd75a986adc1a911808bb964a175cda789ee35df0", func := "vestry/vestrylaw04.RistoStandard", spec := "ristoStandard", inPlace := ["math/bits.Add64", "math/bits.Sub64"], apart := false }
def RistoStandardSaid : Prop := ristoStandardRow.holds Try.pinned (OpenSpec.ofChange ristoStandardSpec)

/-- ITS FALSE NEIGHBOUR: 'it returns false'. Refute it at one input. -/
def ristoStandardWrong : ChangeSpec := { name := "ristoStandard", fn := fun _ => fun
  | [] => { results := [.lit (.bool false)], args := [] }
  | _ => none }
def RistoStandardWrongFalsely : Prop := ristoStandardRow.holds Try.pinned (OpenSpec.ofChange ristoStandardWrong)

/-- 'vestrylaw05.AlgebraMay': WHATEVER THE INPUT: true; the input reads as it did. -/
def algebraMaySpec : ChangeSpec := { name := "algebraMay", fn := fun _ => fun
  | [d1, d2] => { results := [.lit (.bool true)], args := [d1, d2] }
  | _ => none }
def algebraMayRow : OpenClaim := { program := "ytbjllhcjbblojaa", sum := "5b96a8bbaf713c5ed163480dd75a986adc1a911808bb964a175cda789ee35df0", func := "vestry/vestrylaw05.AlgebraMay", spec := "algebraMay", inPlace := ["math/bits.Add64", "math/bits.Sub64"], apart := false }
def AlgebraMaySaid : Prop := algebraMayRow.holds Try.pinned (OpenSpec.ofChange algebraMaySpec)

/-- ITS FALSE NEIGHBOUR: 'it returns false'. Refute it at one input. -/
def algebraMayWrong : ChangeSpec := { name := "algebraMay", fn := fun _ => fun
  | [d1, d2] => { results := [.lit (.bool false)], args := [d1, d2] }
  | _ => none }
def AlgebraMayWrongFalsely : Prop := algebraMayRow.holds Try.pinned (OpenSpec.ofChange algebraMayWrong)

/-- 'vestrylaw05.AlgebraSums': WHATEVER THE INPUT: true; the input reads as it did. -/
def algebraSumsSpec : ChangeSpec := { name := "algebraSums", fn := fun _ => fun
  | [d] => { results := [.lit (.bool true)], args := [d] }
  | _ => none }
def algebraSumsRow : OpenClaim := { program := "ytbjllhcjbblojaa", sum := "5b96a8bbaf713c5ed163480dd75a986adc1a911808bb964a175cda789ee35df0", func := "vestry/vestrylaw05.AlgebraSums", spec := "algebraSums", inPlace := ["math/bits.Add64", "math/bits.Sub64"], apart := false }
def AlgebraSumsSaid : Prop := algebraSumsRow.holds Try.pinned (OpenSpec.ofChange algebraSumsSpec)

/-- ITS FALSE NEIGHBOUR: 'it returns false'. Refute it at one input. -/
def algebraSumsWrong : ChangeSpec := { name := "algebraSums", fn := fun _ => fun
  | [d] => { results := [.lit (.bool false)], args := [d] }
  | _ => none }
def AlgebraSumsWrongFalsely : Prop := algebraSumsRow.holds Try.pinned (OpenSpec.ofChange algebraSumsWrong)

/- THE SECOND FORM. 'bulk': how many values and letters a reading holds, each counted each time it is reached (what is shared counts as often as it is met; a slice's spare places count too). A statement '..UptoSaid' is the law's where the arguments, and the package variables that the reading takes, are together of bulk at most 1048576: NARROWER than '..Said'. Prove '..Said' where nothing that the law and all that it calls make is longer than what came in: it says more and counts as full. Else prove '..UptoSaid'. A law counts once. -/
mutual
def uptoBulk {H : Type} : DataW H → Nat
  | .lit (.string bytes) => bytes.length + 1
  | .lit _ => 1
  | .nil => 1
  | .ptr d => uptoBulk d + 1
  | .slice elems spare => uptoBulkAll elems + uptoBulkAll spare + 1
  | .agg parts => uptoBulkAll parts + 1
  | .iface _ d => uptoBulk d + 1
  | .map entries => uptoBulkEntries entries + 1
  | .held _ => 1
def uptoBulkAll {H : Type} : List (DataW H) → Nat
  | [] => 0
  | d :: r => uptoBulk d + uptoBulkAll r
def uptoBulkEntries {H : Type} : List (Lit × DataW H) → Nat
  | [] => 0
  | x :: r => uptoBulkEntry x + uptoBulkEntries r
def uptoBulkEntry {H : Type} : Lit × DataW H → Nat
  | (.string bytes, d) => bytes.length + uptoBulk d + 1
  | (_, d) => uptoBulk d + 1
 end
def uptoSmall : (H : Type) → List (DataW H) → Bool := fun _ ds => decide (uptoBulkAll ds ≤ 1048576)
def OpenSpec.upto (s : _root_.Go.ChangeSpec) : _root_.Go.OpenSpec := { _root_.Go.OpenSpec.ofChange s with cond := some uptoSmall }

/-- 'vestrylaw04.RistoMaps', WHERE WHAT IT READS IS OF BULK AT MOST 1048576: true; the input reads as it did. -/
def ristoMapsUptoRow : OpenClaim := { program := "ytbjllhcjbblojaa", sum := "5b96a8bbaf713c5ed163480dd75a986adc1a911808bb964a175cda789ee35df0", func := "vestry/vestrylaw04.RistoMaps", spec := "ristoMaps", inPlace := ["math/bits.Add64", "math/bits.Sub64"], apart := false, narrowed := true }
def RistoMapsUptoSaid : Prop := ristoMapsUptoRow.holds Try.pinned (OpenSpec.upto ristoMapsSpec)

/-- 'vestrylaw04.RistoCosets', WHERE WHAT IT READS IS OF BULK AT MOST 1048576: true; the input reads as it did. -/
def ristoCosetsUptoRow : OpenClaim := { program := "ytbjllhcjbblojaa", sum := "5b96a8bbaf713c5ed163480dd75a986adc1a911808bb964a175cda789ee35df0", func := "vestry/vestrylaw04.RistoCosets", spec := "ristoCosets", inPlace := ["math/bits.Add64", "math/bits.Sub64"], apart := false, narrowed := true }
def RistoCosetsUptoSaid : Prop := ristoCosetsUptoRow.holds Try.pinned (OpenSpec.upto ristoCosetsSpec)

/-- 'vestrylaw04.RistoStandard', WHERE WHAT IT READS IS OF BULK AT MOST 1048576: true; the input reads as it did. -/
def ristoStandardUptoRow : OpenClaim := { program := "ytbjllhcjbblojaa", sum := "5b96a8bbaf713c5ed163480dd75a986adc1a911808bb964a175cda789ee35df0", func := "vestry/vestrylaw04.RistoStandard", spec := "ristoStandard", inPlace := ["math/bits.Add64", "math/bits.Sub64"], apart := false, narrowed := true }
def RistoStandardUptoSaid : Prop := ristoStandardUptoRow.holds Try.pinned (OpenSpec.upto ristoStandardSpec)

/-- 'vestrylaw05.AlgebraMay', WHERE WHAT IT READS IS OF BULK AT MOST 1048576: true; the input reads as it did. -/
def algebraMayUptoRow : OpenClaim := { program := "ytbjllhcjbblojaa", sum := "5b96a8bbaf713c5ed163480dd75a986adc1a911808bb964a175cda789ee35df0", func := "vestry/vestrylaw05.AlgebraMay", spec := "algebraMay", inPlace := ["math/bits.Add64", "math/bits.Sub64"], apart := false, narrowed := true }
def AlgebraMayUptoSaid : Prop := algebraMayUptoRow.holds Try.pinned (OpenSpec.upto algebraMaySpec)

/-- 'vestrylaw05.AlgebraSums', WHERE WHAT IT READS IS OF BULK AT MOST 1048576: true; the input reads as it did. -/
def algebraSumsUptoRow : OpenClaim := { program := "ytbjllhcjbblojaa", sum := "5b96a8bbaf713c5ed163480dd75a986adc1a911808bb964a175cda789ee35df0", func := "vestry/vestrylaw05.AlgebraSums", spec := "algebraSums", inPlace := ["math/bits.Add64", "math/bits.Sub64"], apart := false, narrowed := true }
def AlgebraSumsUptoSaid : Prop := algebraSumsUptoRow.holds Try.pinned (OpenSpec.upto algebraSumsSpec)

end Rows
end Go.Proofs.Ytbjllhcjbblojaa
