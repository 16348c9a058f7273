/-
  No cell of these rows narrows 'for every input' (looked for: loops, veiled, ifaces, maps, wideKeys, modest, calm, conditions, laid).
  DERIVED. THE GIVEN ROWS OF THIS SEAT. 6 by the template 'for every input the law returns true; each argument reads behind the call as it read before'; 0 by the template 'total and deterministic' (their statements: YtlbofcgjdbfenaaTotals.lean).
  GIVEN WITH THE SEED: the statements are not yours to turn. If you find one false, say at which input.
  Laid BY PROGRAM, IN A SANDBOX (cutbox-rows.mjs): the forced cells as the released guide's own fill.sh prints them over the translation 9b12c20d71e299e3… (all of the seat's roots in one cut). By AI agents, Wed Nov 11 2026. No macro, syntax, notation, axiom, sorry.
-/
import Derived.Test.YtlbofcgjdbfenaaChecked
import GoSem.Claim
import GoSem.ClaimJoined
import GoSem.ClaimMapViews
import Derived.JoinedTies
import Derived.KernelRfl
namespace Go.Proofs.Ytlbofcgjdbfenaa
/- THE CELL 'sum', in the pinned program and in every row, IS THE sha256 OF THE DUMP (.gsa) THAT YtlbofcgjdbfenaaProg.lean LOADS. Nothing in Lean hashes anything: it is a label: what it is worth is what the hold of that sum in a sandbox is worth. -/
noncomputable def Try.pinned : Pinned := { name := "ytlbofcgjdbfenaa", sum := "9b12c20d71e299e35532e6aa936e882f5295c824da9d5a66a6737df595d0ac26", checked := Try.checked }
namespace Rows
def none {H : Type} : Left H := { results := [], args := [] }

/-- 'vestrylaw03.EdwardsTimes': WHATEVER THE INPUT: true; the input reads as it did. -/
def edwardsTimesSpec : ChangeSpec := { name := "edwardsTimes", fn := fun _ => fun
  | [d1, d2] => { results := [.lit (.bool true)], args := [d1, d2] }
  | _ => none }
def edwardsTimesRow : OpenClaim := { program := "ytlbofcgjdbfenaa", sum := "9b12c20d71e299e35532e6aa936e882f5295c824da9d5a66a6737df595d0ac26", func := "vestry/vestrylaw03.EdwardsTimes", spec := "edwardsTimes", inPlace := ["math/bits.Add64", "math/bits.Sub64"], apart := false }
def EdwardsTimesSaid : Prop := edwardsTimesRow.holds Try.pinned (OpenSpec.ofChange edwardsTimesSpec)

/-- ITS FALSE NEIGHBOUR: 'it returns false'. Refute it at one input. -/
def edwardsTimesWrong : ChangeSpec := { name := "edwardsTimes", fn := fun _ => fun
  | [d1, d2] => { results := [.lit (.bool false)], args := [d1, d2] }
  | _ => none }
def EdwardsTimesWrongFalsely : Prop := edwardsTimesRow.holds Try.pinned (OpenSpec.ofChange edwardsTimesWrong)

/-- 'vestrylaw03.EdwardsScales': WHATEVER THE INPUT: true; the input reads as it did. -/
def edwardsScalesSpec : ChangeSpec := { name := "edwardsScales", fn := fun _ => fun
  | [d1, d2, d3] => { results := [.lit (.bool true)], args := [d1, d2, d3] }
  | _ => none }
def edwardsScalesRow : OpenClaim := { program := "ytlbofcgjdbfenaa", sum := "9b12c20d71e299e35532e6aa936e882f5295c824da9d5a66a6737df595d0ac26", func := "vestry/vestrylaw03.EdwardsScales", spec := "edwardsScales", inPlace := ["math/bits.Add64", "math/bits.Sub64"], unfollowed := true, recurses := true, apart := false }
def EdwardsScalesSaid : Prop := edwardsScalesRow.holds Try.pinned (OpenSpec.ofChange edwardsScalesSpec)

/-- ITS FALSE NEIGHBOUR: 'it returns false'. Refute it at one input. -/
def edwardsScalesWrong : ChangeSpec := { name := "edwardsScales", fn := fun _ => fun
  | [d1, d2, d3] => { results := [.lit (.bool false)], args := [d1, d2, d3] }
  | _ => none }
def EdwardsScalesWrongFalsely : Prop := edwardsScalesRow.holds Try.pinned (OpenSpec.ofChange edwardsScalesWrong)

/-- 'vestrylaw04.RistoEncodes': WHATEVER THE INPUT: true; the input reads as it did. -/
def ristoEncodesSpec : ChangeSpec := { name := "ristoEncodes", fn := fun _ => fun
  | [d] => { results := [.lit (.bool true)], args := [d] }
  | _ => none }
def ristoEncodesRow : OpenClaim := { program := "ytlbofcgjdbfenaa", sum := "9b12c20d71e299e35532e6aa936e882f5295c824da9d5a66a6737df595d0ac26", func := "vestry/vestrylaw04.RistoEncodes", spec := "ristoEncodes", inPlace := ["math/bits.Add64", "math/bits.Sub64"], apart := false }
def RistoEncodesSaid : Prop := ristoEncodesRow.holds Try.pinned (OpenSpec.ofChange ristoEncodesSpec)

/-- ITS FALSE NEIGHBOUR: 'it returns false'. Refute it at one input. -/
def ristoEncodesWrong : ChangeSpec := { name := "ristoEncodes", fn := fun _ => fun
  | [d] => { results := [.lit (.bool false)], args := [d] }
  | _ => none }
def RistoEncodesWrongFalsely : Prop := ristoEncodesRow.holds Try.pinned (OpenSpec.ofChange ristoEncodesWrong)

/-- 'vestrylaw04.RistoDecodes': WHATEVER THE INPUT: true; the input reads as it did. -/
def ristoDecodesSpec : ChangeSpec := { name := "ristoDecodes", fn := fun _ => fun
  | [d] => { results := [.lit (.bool true)], args := [d] }
  | _ => none }
def ristoDecodesRow : OpenClaim := { program := "ytlbofcgjdbfenaa", sum := "9b12c20d71e299e35532e6aa936e882f5295c824da9d5a66a6737df595d0ac26", func := "vestry/vestrylaw04.RistoDecodes", spec := "ristoDecodes", inPlace := ["math/bits.Add64", "math/bits.Sub64"], apart := false }
def RistoDecodesSaid : Prop := ristoDecodesRow.holds Try.pinned (OpenSpec.ofChange ristoDecodesSpec)

/-- ITS FALSE NEIGHBOUR: 'it returns false'. Refute it at one input. -/
def ristoDecodesWrong : ChangeSpec := { name := "ristoDecodes", fn := fun _ => fun
  | [d] => { results := [.lit (.bool false)], args := [d] }
  | _ => none }
def RistoDecodesWrongFalsely : Prop := ristoDecodesRow.holds Try.pinned (OpenSpec.ofChange ristoDecodesWrong)

/-- 'vestrylaw04.RistoEquals': WHATEVER THE INPUT: true; the input reads as it did. -/
def ristoEqualsSpec : ChangeSpec := { name := "ristoEquals", fn := fun _ => fun
  | [d1, d2] => { results := [.lit (.bool true)], args := [d1, d2] }
  | _ => none }
def ristoEqualsRow : OpenClaim := { program := "ytlbofcgjdbfenaa", sum := "9b12c20d71e299e35532e6aa936e882f5295c824da9d5a66a6737df595d0ac26", func := "vestry/vestrylaw04.RistoEquals", spec := "ristoEquals", inPlace := ["math/bits.Add64", "math/bits.Sub64"], apart := false }
def RistoEqualsSaid : Prop := ristoEqualsRow.holds Try.pinned (OpenSpec.ofChange ristoEqualsSpec)

/-- ITS FALSE NEIGHBOUR: 'it returns false'. Refute it at one input. -/
def ristoEqualsWrong : ChangeSpec := { name := "ristoEquals", fn := fun _ => fun
  | [d1, d2] => { results := [.lit (.bool false)], args := [d1, d2] }
  | _ => none }
def RistoEqualsWrongFalsely : Prop := ristoEqualsRow.holds Try.pinned (OpenSpec.ofChange ristoEqualsWrong)

/-- 'vestrylaw04.RistoMaps': WHATEVER THE INPUT: true; the input reads as it did. -/
def ristoMapsSpec : ChangeSpec := { name := "ristoMaps", fn := fun _ => fun
  | [d] => { results := [.lit (.bool true)], args := [d] }
  | _ => none }
def ristoMapsRow : OpenClaim := { program := "ytlbofcgjdbfenaa", sum := "9b12c20d71e299e35532e6aa936e882f5295c824da9d5a66a6737df595d0ac26", func := "vestry/vestrylaw04.RistoMaps", spec := "ristoMaps", inPlace := ["math/bits.Add64", "math/bits.Sub64"], apart := false }
def RistoMapsSaid : Prop := ristoMapsRow.holds Try.pinned (OpenSpec.ofChange ristoMapsSpec)

/-- ITS FALSE NEIGHBOUR: 'it returns false'. Refute it at one input. -/
def ristoMapsWrong : ChangeSpec := { name := "ristoMaps", fn := fun _ => fun
  | [d] => { results := [.lit (.bool false)], args := [d] }
  | _ => none }
def RistoMapsWrongFalsely : Prop := ristoMapsRow.holds Try.pinned (OpenSpec.ofChange ristoMapsWrong)

/- THE SECOND FORM. 'bulk': how many values and letters a reading holds, each counted each time it is reached (what is shared counts as often as it is met; a slice's spare places count too). A statement '..UptoSaid' is the law's where the arguments, and the package variables that the reading takes, are together of bulk at most 1048576: NARROWER than '..Said'. Prove '..Said' where nothing that the law and all that it calls make is longer than what came in: it says more and counts as full. Else prove '..UptoSaid'. A law counts once. -/
mutual
def uptoBulk {H : Type} : DataW H → Nat
  | .lit (.string bytes) => bytes.length + 1
  | .lit _ => 1
  | .nil => 1
  | .ptr d => uptoBulk d + 1
  | .slice elems spare => uptoBulkAll elems + uptoBulkAll spare + 1
  | .agg parts => uptoBulkAll parts + 1
  | .iface _ d => uptoBulk d + 1
  | .map entries => uptoBulkEntries entries + 1
  | .held _ => 1
def uptoBulkAll {H : Type} : List (DataW H) → Nat
  | [] => 0
  | d :: r => uptoBulk d + uptoBulkAll r
def uptoBulkEntries {H : Type} : List (Lit × DataW H) → Nat
  | [] => 0
  | x :: r => uptoBulkEntry x + uptoBulkEntries r
def uptoBulkEntry {H : Type} : Lit × DataW H → Nat
  | (.string bytes, d) => bytes.length + uptoBulk d + 1
  | (_, d) => uptoBulk d + 1
 end
def uptoSmall : (H : Type) → List (DataW H) → Bool := fun _ ds => decide (uptoBulkAll ds ≤ 1048576)
def OpenSpec.upto (s : _root_.Go.ChangeSpec) : _root_.Go.OpenSpec := { _root_.Go.OpenSpec.ofChange s with cond := some uptoSmall }

/-- 'vestrylaw03.EdwardsTimes', WHERE WHAT IT READS IS OF BULK AT MOST 1048576: true; the input reads as it did. -/
def edwardsTimesUptoRow : OpenClaim := { program := "ytlbofcgjdbfenaa", sum := "9b12c20d71e299e35532e6aa936e882f5295c824da9d5a66a6737df595d0ac26", func := "vestry/vestrylaw03.EdwardsTimes", spec := "edwardsTimes", inPlace := ["math/bits.Add64", "math/bits.Sub64"], apart := false, narrowed := true }
def EdwardsTimesUptoSaid : Prop := edwardsTimesUptoRow.holds Try.pinned (OpenSpec.upto edwardsTimesSpec)

/-- 'vestrylaw03.EdwardsScales', WHERE WHAT IT READS IS OF BULK AT MOST 1048576: true; the input reads as it did. -/
def edwardsScalesUptoRow : OpenClaim := { program := "ytlbofcgjdbfenaa", sum := "9b12c20d71e299e35532e6aa936e882f5295c824da9d5a66a6737df595d0ac26", func := "vestry/vestrylaw03.EdwardsScales", spec := "edwardsScales", inPlace := ["math/bits.Add64", "math/bits.Sub64"], unfollowed := true, recurses := true, apart := false, narrowed := true }
def EdwardsScalesUptoSaid : Prop := edwardsScalesUptoRow.holds Try.pinned (OpenSpec.upto edwardsScalesSpec)

/-- 'vestrylaw04.RistoEncodes', WHERE WHAT IT READS IS OF BULK AT MOST 1048576: true; the input reads as it did. -/
def ristoEncodesUptoRow : OpenClaim := { program := "ytlbofcgjdbfenaa", sum := "9b12c20d71e299e35532e6aa936e882f5295c824da9d5a66a6737df595d0ac26", func := "vestry/vestrylaw04.RistoEncodes", spec := "ristoEncodes", inPlace := ["math/bits.Add64", "math/bits.Sub64"], apart := false, narrowed := true }
def RistoEncodesUptoSaid : Prop := ristoEncodesUptoRow.holds Try.pinned (OpenSpec.upto ristoEncodesSpec)

/-- 'vestrylaw04.RistoDecodes', WHERE WHAT IT READS IS OF BULK AT MOST 1048576: true; the input reads as it did. -/
def ristoDecodesUptoRow : OpenClaim := { program := "ytlbofcgjdbfenaa", sum := "9b12c20d71e299e35532e6aa936e882f5295c824da9d5a66a6737df595d0ac26", func := "vestry/vestrylaw04.RistoDecodes", spec := "ristoDecodes", inPlace := ["math/bits.Add64", "math/bits.Sub64"], apart := false, narrowed := true }
def RistoDecodesUptoSaid : Prop := ristoDecodesUptoRow.holds Try.pinned (OpenSpec.upto ristoDecodesSpec)

/-- 'vestrylaw04.RistoEquals', WHERE WHAT IT READS IS OF BULK AT MOST 1048576: true; the input reads as it did. -/
def ristoEqualsUptoRow : OpenClaim := { program := "ytlbofcgjdbfenaa", sum := "9b12c20d71e299e35532e6aa936e882f5295c824da9d5a66a6737df595d0ac26", func := "vestry/vestrylaw04.RistoEquals", spec := "ristoEquals", inPlace := ["math/bits.Add64", "math/bits.Sub64"], apart := false, narrowed := true }
def RistoEqualsUptoSaid : Prop := ristoEqualsUptoRow.holds Try.pinned (OpenSpec.upto ristoEqualsSpec)

/-- 'vestrylaw04.RistoMaps', WHERE WHAT IT READS IS OF BULK AT MOST 1048576: true; the input reads as it did. -/
def ristoMapsUptoRow : OpenClaim := { program := "ytlbofcgjdbfenaa", sum := "9b12c20d71e299e35532e6aa936e882f5295c824da9d5a66a6737df595d0ac26", func := "vestry/vestrylaw04.RistoMaps", spec := "ristoMaps", inPlace := ["math/bits.Add64", "math/bits.Sub64"], apart := false, narrowed := true }
def RistoMapsUptoSaid : Prop := ristoMapsUptoRow.holds Try.pinned (OpenSpec.upto ristoMapsSpec)

end Rows
end Go.Proofs.Ytlbofcgjdbfenaa
