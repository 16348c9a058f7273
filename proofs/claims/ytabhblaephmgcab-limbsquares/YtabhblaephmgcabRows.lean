/-
  No cell of these rows narrows 'for every input' (looked for: loops, veiled, ifaces, maps, wideKeys, modest, calm, conditions, laid).
  DERIVED. THE GIVEN ROWS OF THIS SEAT. 3 by the template 'for every input the law returns true; each argument reads behind the call as it read before'; 0 by the template 'total and deterministic' (their statements: YtabhblaephmgcabTotals.lean).
  GIVEN WITH THE SEED: the statements are not yours to turn. If you find one false, say at which input.
  Laid BY PROGRAM, IN A SANDBOX (cutbox-rows.mjs): the forced cells as the released guide's own fill.sh prints them over the translation ecc64a882a3972c8… (all of the seat's roots in one cut). By AI agents, Wed Nov 11 2026. No macro, syntax, notation, axiom, sorry.
-/
import Derived.Test.YtabhblaephmgcabChecked
import GoSem.Claim
import GoSem.ClaimJoined
import GoSem.ClaimMapViews
import Derived.JoinedTies
import Derived.KernelRfl
namespace Go.Proofs.Ytabhblaephmgcab
/- THE CELL 'sum', in the pinned program and in every row, IS THE sha256 OF THE DUMP (.gsa) THAT YtabhblaephmgcabProg.lean LOADS. Nothing in Lean hashes anything: it is a label: what it is worth is what the hold of that sum in a sandbox is worth. -/
noncomputable def Try.pinned : Pinned := { name := "ytabhblaephmgcab", sum := "ecc64a882a3972c8cd9ad38ccced51ae5a9333dd6bd850eac15922d2a5167244", checked := Try.checked }
namespace Rows
def none {H : Type} : Left H := { results := [], args := [] }

/-- 'vestrylaw01.LimbField': WHATEVER THE INPUT: true; the input reads as it did. -/
def limbFieldSpec : ChangeSpec := { name := "limbField", fn := fun _ => fun
  | [d1, d2, d3] => { results := [.lit (.bool true)], args := [d1, d2, d3] }
  | _ => none }
def limbFieldRow : OpenClaim := { program := "ytabhblaephmgcab", sum := "ecc64a882a3972c8cd9ad38ccced51ae5a9333dd6bd850eac15922d2a5167244", func := "vestry/vestrylaw01.LimbField", spec := "limbField", inPlace := ["math/bits.Add64", "math/bits.Sub64"], apart := false }
def LimbFieldSaid : Prop := limbFieldRow.holds Try.pinned (OpenSpec.ofChange limbFieldSpec)

/-- ITS FALSE NEIGHBOUR: 'it returns false'. Refute it at one input. -/
def limbFieldWrong : ChangeSpec := { name := "limbField", fn := fun _ => fun
  | [d1, d2, d3] => { results := [.lit (.bool false)], args := [d1, d2, d3] }
  | _ => none }
def LimbFieldWrongFalsely : Prop := limbFieldRow.holds Try.pinned (OpenSpec.ofChange limbFieldWrong)

/-- 'vestrylaw01.LimbSquares': WHATEVER THE INPUT: true; the input reads as it did. -/
def limbSquaresSpec : ChangeSpec := { name := "limbSquares", fn := fun _ => fun
  | [d1, d2, d3] => { results := [.lit (.bool true)], args := [d1, d2, d3] }
  | _ => none }
def limbSquaresRow : OpenClaim := { program := "ytabhblaephmgcab", sum := "ecc64a882a3972c8cd9ad38ccced51ae5a9333dd6bd850eac15922d2a5167244", func := "vestry/vestrylaw01.LimbSquares", spec := "limbSquares", inPlace := ["math/bits.Add64", "math/bits.Sub64"], apart := false }
def LimbSquaresSaid : Prop := limbSquaresRow.holds Try.pinned (OpenSpec.ofChange limbSquaresSpec)

/-- ITS FALSE NEIGHBOUR: 'it returns false'. Refute it at one input. -/
def limbSquaresWrong : ChangeSpec := { name := "limbSquares", fn := fun _ => fun
  | [d1, d2, d3] => { results := [.lit (.bool false)], args := [d1, d2, d3] }
  | _ => none }
def LimbSquaresWrongFalsely : Prop := limbSquaresRow.holds Try.pinned (OpenSpec.ofChange limbSquaresWrong)

/-- 'vestrylaw01.LimbThere': WHATEVER THE INPUT: true; the input reads as it did. -/
def limbThereSpec : ChangeSpec := { name := "limbThere", fn := fun _ => fun
  | [d1, d2] => { results := [.lit (.bool true)], args := [d1, d2] }
  | _ => none }
def limbThereRow : OpenClaim := { program := "ytabhblaephmgcab", sum := "ecc64a882a3972c8cd9ad38ccced51ae5a9333dd6bd850eac15922d2a5167244", func := "vestry/vestrylaw01.LimbThere", spec := "limbThere", inPlace := ["math/bits.Add64", "math/bits.Sub64"], apart := false }
def LimbThereSaid : Prop := limbThereRow.holds Try.pinned (OpenSpec.ofChange limbThereSpec)

/-- ITS FALSE NEIGHBOUR: 'it returns false'. Refute it at one input. -/
def limbThereWrong : ChangeSpec := { name := "limbThere", fn := fun _ => fun
  | [d1, d2] => { results := [.lit (.bool false)], args := [d1, d2] }
  | _ => none }
def LimbThereWrongFalsely : Prop := limbThereRow.holds Try.pinned (OpenSpec.ofChange limbThereWrong)

/- THE SECOND FORM. 'bulk': how many values and letters a reading holds, each counted each time it is reached (what is shared counts as often as it is met; a slice's spare places count too). A statement '..UptoSaid' is the law's where the arguments, and the package variables that the reading takes, are together of bulk at most 1048576: NARROWER than '..Said'. Prove '..Said' where nothing that the law and all that it calls make is longer than what came in: it says more and counts as full. Else prove '..UptoSaid'. A law counts once. -/
mutual
def uptoBulk {H : Type} : DataW H → Nat
  | .lit (.string bytes) => bytes.length + 1
  | .lit _ => 1
  | .nil => 1
  | .ptr d => uptoBulk d + 1
  | .slice elems spare => uptoBulkAll elems + uptoBulkAll spare + 1
  | .agg parts => uptoBulkAll parts + 1
  | .iface _ d => uptoBulk d + 1
  | .map entries => uptoBulkEntries entries + 1
  | .held _ => 1
def uptoBulkAll {H : Type} : List (DataW H) → Nat
  | [] => 0
  | d :: r => uptoBulk d + uptoBulkAll r
def uptoBulkEntries {H : Type} : List (Lit × DataW H) → Nat
  | [] => 0
  | x :: r => uptoBulkEntry x + uptoBulkEntries r
def uptoBulkEntry {H : Type} : Lit × DataW H → Nat
  | (.string bytes, d) => bytes.length + uptoBulk d + 1
  | (_, d) => uptoBulk d + 1
 end
def uptoSmall : (H : Type) → List (DataW H) → Bool := fun _ ds => decide (uptoBulkAll ds ≤ 1048576)
def OpenSpec.upto (s : _root_.Go.ChangeSpec) : _root_.Go.OpenSpec := { _root_.Go.OpenSpec.ofChange s with cond := some uptoSmall }

/-- 'vestrylaw01.LimbField', WHERE WHAT IT READS IS OF BULK AT MOST 1048576: true; the input reads as it did. -/
def limbFieldUptoRow : OpenClaim := { program := "ytabhblaephmgcab", sum := "ecc64a882a3972c8cd9ad38ccced51ae5a9333dd6bd850eac15922d2a5167244", func := "vestry/vestrylaw01.LimbField", spec := "limbField", inPlace := ["math/bits.Add64", "math/bits.Sub64"], apart := false, narrowed := true }
def LimbFieldUptoSaid : Prop := limbFieldUptoRow.holds Try.pinned (OpenSpec.upto limbFieldSpec)

/-- 'vestrylaw01.LimbSquares', WHERE WHAT IT READS IS OF BULK AT MOST 1048576: true; the input reads as it did. -/
def limbSquaresUptoRow : OpenClaim := { program := "ytabhblaephmgcab", sum := "ecc64a882a3972c8cd9ad38ccced51ae5a9333dd6bd850eac15922d2a5167244", func := "vestry/vestrylaw01.LimbSquares", spec := "limbSquares", inPlace := ["math/bits.Add64", "math/bits.Sub64"], apart := false, narrowed := true }
def LimbSquaresUptoSaid : Prop := limbSquaresUptoRow.holds Try.pinned (OpenSpec.upto limbSquaresSpec)

/-- 'vestrylaw01.LimbThere', WHERE WHAT IT READS IS OF BULK AT MOST 1048576: true; the input reads as it did. -/
def limbThereUptoRow : OpenClaim := { program := "ytabhblaephmgcab", sum := "ecc64a882a3972c8cd9ad38ccced51ae5a9333dd6bd850eac15922d2a5167244", func := "vestry/vestrylaw01.LimbThere", spec := "limbThere", inPlace := ["math/bits.Add64", "math/bits.Sub64"], apart := false, narrowed := true }
def LimbThereUptoSaid : Prop := limbThereUptoRow.holds Try.pinned (OpenSpec.upto limbThereSpec)

end Rows
end Go.Proofs.Ytabhblaephmgcab
