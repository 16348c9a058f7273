/-
  No cell of these rows narrows 'for every input' (looked for: loops, veiled, ifaces, maps, wideKeys, modest, calm, conditions, laid).
  DERIVED. THE GIVEN ROWS OF THIS SEAT. 4 by the template 'for every input the law returns true; each argument reads behind the call as it read before'; 0 by the template 'total and deterministic' (their statements: YtdebkddhpogkgaaTotals.lean).
  GIVEN WITH THE SEED: the statements are not yours to turn. If you find one false, say at which input.
  Laid BY PROGRAM, IN A SANDBOX (cutbox-rows.mjs): the forced cells as the released guide's own fill.sh prints them over the translation 34e0246f67e50ec8… (all of the seat's roots in one cut). By AI agents, Wed Nov 11 2026. No macro, syntax, notation, axiom, sorry.
-/
import Derived.Test.YtdebkddhpogkgaaChecked
import GoSem.Claim
import GoSem.ClaimJoined
import GoSem.ClaimMapViews
import Derived.JoinedTies
import Derived.KernelRfl
namespace Go.Proofs.Ytdebkddhpogkgaa
/- THE CELL 'sum', in the pinned program and in every row, IS THE sha256 OF THE DUMP (.gsa) THAT YtdebkddhpogkgaaProg.lean LOADS. Nothing in Lean hashes anything: it is a label: what it is worth is what the hold of that sum in a sandbox is worth. -/
noncomputable def Try.pinned : Pinned := { name := "ytdebkddhpogkgaa", sum := "34e0246f67e50ec8ff5340917ed74c46462944ff5cc32c9e934742d335336903", checked := Try.checked }
namespace Rows
def none {H : Type} : Left H := { results := [], args := [] }

/-- 'vestrylaw05.AlgebraSums': WHATEVER THE INPUT: true; the input reads as it did. -/
def algebraSumsSpec : ChangeSpec := { name := "algebraSums", fn := fun _ => fun
  | [d] => { results := [.lit (.bool true)], args := [d] }
  | _ => none }
def algebraSumsRow : OpenClaim := { program := "ytdebkddhpogkgaa", sum := "34e0246f67e50ec8ff5340917ed74c46462944ff5cc32c9e934742d335336903", func := "vestry/vestrylaw05.AlgebraSums", spec := "algebraSums", inPlace := ["math/bits.Add64", "math/bits.Sub64"], apart := false }
def AlgebraSumsSaid : Prop := algebraSumsRow.holds Try.pinned (OpenSpec.ofChange algebraSumsSpec)

/-- ITS FALSE NEIGHBOUR: 'it returns false'. Refute it at one input. -/
def algebraSumsWrong : ChangeSpec := { name := "algebraSums", fn := fun _ => fun
  | [d] => { results := [.lit (.bool false)], args := [d] }
  | _ => none }
def AlgebraSumsWrongFalsely : Prop := algebraSumsRow.holds Try.pinned (OpenSpec.ofChange algebraSumsWrong)

/-- 'vestrylaw05.AlgebraMaps': WHATEVER THE INPUT: true; the input reads as it did. -/
def algebraMapsSpec : ChangeSpec := { name := "algebraMaps", fn := fun _ => fun
  | [d] => { results := [.lit (.bool true)], args := [d] }
  | _ => none }
def algebraMapsRow : OpenClaim := { program := "ytdebkddhpogkgaa", sum := "34e0246f67e50ec8ff5340917ed74c46462944ff5cc32c9e934742d335336903", func := "vestry/vestrylaw05.AlgebraMaps", spec := "algebraMaps", inPlace := ["math/bits.Sub64", "math/bits.Add64"], apart := false }
def AlgebraMapsSaid : Prop := algebraMapsRow.holds Try.pinned (OpenSpec.ofChange algebraMapsSpec)

/-- ITS FALSE NEIGHBOUR: 'it returns false'. Refute it at one input. -/
def algebraMapsWrong : ChangeSpec := { name := "algebraMaps", fn := fun _ => fun
  | [d] => { results := [.lit (.bool false)], args := [d] }
  | _ => none }
def AlgebraMapsWrongFalsely : Prop := algebraMapsRow.holds Try.pinned (OpenSpec.ofChange algebraMapsWrong)

/-- 'vestrylaw05.AlgebraModule': WHATEVER THE INPUT: true; the input reads as it did. -/
def algebraModuleSpec : ChangeSpec := { name := "algebraModule", fn := fun _ => fun
  | [d1, d2, d3, d4] => { results := [.lit (.bool true)], args := [d1, d2, d3, d4] }
  | _ => none }
def algebraModuleRow : OpenClaim := { program := "ytdebkddhpogkgaa", sum := "34e0246f67e50ec8ff5340917ed74c46462944ff5cc32c9e934742d335336903", func := "vestry/vestrylaw05.AlgebraModule", spec := "algebraModule", inPlace := ["math/bits.Add64", "math/bits.Sub64"], unfollowed := true, recurses := true, apart := false }
def AlgebraModuleSaid : Prop := algebraModuleRow.holds Try.pinned (OpenSpec.ofChange algebraModuleSpec)

/-- ITS FALSE NEIGHBOUR: 'it returns false'. Refute it at one input. -/
def algebraModuleWrong : ChangeSpec := { name := "algebraModule", fn := fun _ => fun
  | [d1, d2, d3, d4] => { results := [.lit (.bool false)], args := [d1, d2, d3, d4] }
  | _ => none }
def AlgebraModuleWrongFalsely : Prop := algebraModuleRow.holds Try.pinned (OpenSpec.ofChange algebraModuleWrong)

/-- 'vestrylaw05.AlgebraBack': WHATEVER THE INPUT: true; the input reads as it did. -/
def algebraBackSpec : ChangeSpec := { name := "algebraBack", fn := fun _ => fun
  | [d1, d2] => { results := [.lit (.bool true)], args := [d1, d2] }
  | _ => none }
def algebraBackRow : OpenClaim := { program := "ytdebkddhpogkgaa", sum := "34e0246f67e50ec8ff5340917ed74c46462944ff5cc32c9e934742d335336903", func := "vestry/vestrylaw05.AlgebraBack", spec := "algebraBack", inPlace := ["math/bits.Add64", "math/bits.Sub64"], apart := false }
def AlgebraBackSaid : Prop := algebraBackRow.holds Try.pinned (OpenSpec.ofChange algebraBackSpec)

/-- ITS FALSE NEIGHBOUR: 'it returns false'. Refute it at one input. -/
def algebraBackWrong : ChangeSpec := { name := "algebraBack", fn := fun _ => fun
  | [d1, d2] => { results := [.lit (.bool false)], args := [d1, d2] }
  | _ => none }
def AlgebraBackWrongFalsely : Prop := algebraBackRow.holds Try.pinned (OpenSpec.ofChange algebraBackWrong)

/- THE SECOND FORM. 'bulk': how many values and letters a reading holds, each counted each time it is reached (what is shared counts as often as it is met; a slice's spare places count too). A statement '..UptoSaid' is the law's where the arguments, and the package variables that the reading takes, are together of bulk at most 1048576: NARROWER than '..Said'. Prove '..Said' where nothing that the law and all that it calls make is longer than what came in: it says more and counts as full. Else prove '..UptoSaid'. A law counts once. -/
mutual
def uptoBulk {H : Type} : DataW H → Nat
  | .lit (.string bytes) => bytes.length + 1
  | .lit _ => 1
  | .nil => 1
  | .ptr d => uptoBulk d + 1
  | .slice elems spare => uptoBulkAll elems + uptoBulkAll spare + 1
  | .agg parts => uptoBulkAll parts + 1
  | .iface _ d => uptoBulk d + 1
  | .map entries => uptoBulkEntries entries + 1
  | .held _ => 1
def uptoBulkAll {H : Type} : List (DataW H) → Nat
  | [] => 0
  | d :: r => uptoBulk d + uptoBulkAll r
def uptoBulkEntries {H : Type} : List (Lit × DataW H) → Nat
  | [] => 0
  | x :: r => uptoBulkEntry x + uptoBulkEntries r
def uptoBulkEntry {H : Type} : Lit × DataW H → Nat
  | (.string bytes, d) => bytes.length + uptoBulk d + 1
  | (_, d) => uptoBulk d + 1
 end
def uptoSmall : (H : Type) → List (DataW H) → Bool := fun _ ds => decide (uptoBulkAll ds ≤ 1048576)
def OpenSpec.upto (s : _root_.Go.ChangeSpec) : _root_.Go.OpenSpec := { _root_.Go.OpenSpec.ofChange s with cond := some uptoSmall }

/-- 'vestrylaw05.AlgebraSums', WHERE WHAT IT READS IS OF BULK AT MOST 1048576: true; the input reads as it did. -/
def algebraSumsUptoRow : OpenClaim := { program := "ytdebkddhpogkgaa", sum := "34e0246f67e50ec8ff5340917ed74c46462944ff5cc32c9e934742d335336903", func := "vestry/vestrylaw05.AlgebraSums", spec := "algebraSums", inPlace := ["math/bits.Add64", "math/bits.Sub64"], apart := false, narrowed := true }
def AlgebraSumsUptoSaid : Prop := algebraSumsUptoRow.holds Try.pinned (OpenSpec.upto algebraSumsSpec)

/-- 'vestrylaw05.AlgebraMaps', WHERE WHAT IT READS IS OF BULK AT MOST 1048576: true; the input reads as it did. -/
def algebraMapsUptoRow : OpenClaim := { program := "ytdebkddhpogkgaa", sum := "34e0246f67e50ec8ff5340917ed74c46462944ff5cc32c9e934742d335336903", func := "vestry/vestrylaw05.AlgebraMaps", spec := "algebraMaps", inPlace := ["math/bits.Sub64", "math/bits.Add64"], apart := false, narrowed := true }
def AlgebraMapsUptoSaid : Prop := algebraMapsUptoRow.holds Try.pinned (OpenSpec.upto algebraMapsSpec)

/-- 'vestrylaw05.AlgebraModule', WHERE WHAT IT READS IS OF BULK AT MOST 1048576: true; the input reads as it did. -/
def algebraModuleUptoRow : OpenClaim := { program := "ytdebkddhpogkgaa", sum := "34e0246f67e50ec8ff5340917ed74c46462944ff5cc32c9e934742d335336903", func := "vestry/vestrylaw05.AlgebraModule", spec := "algebraModule", inPlace := ["math/bits.Add64", "math/bits.Sub64"], unfollowed := true, recurses := true, apart := false, narrowed := true }
def AlgebraModuleUptoSaid : Prop := algebraModuleUptoRow.holds Try.pinned (OpenSpec.upto algebraModuleSpec)

/-- 'vestrylaw05.AlgebraBack', WHERE WHAT IT READS IS OF BULK AT MOST 1048576: true; the input reads as it did. -/
def algebraBackUptoRow : OpenClaim := { program := "ytdebkddhpogkgaa", sum := "34e0246f67e50ec8ff5340917ed74c46462944ff5cc32c9e934742d335336903", func := "vestry/vestrylaw05.AlgebraBack", spec := "algebraBack", inPlace := ["math/bits.Add64", "math/bits.Sub64"], apart := false, narrowed := true }
def AlgebraBackUptoSaid : Prop := algebraBackUptoRow.holds Try.pinned (OpenSpec.upto algebraBackSpec)

end Rows
end Go.Proofs.Ytdebkddhpogkgaa
