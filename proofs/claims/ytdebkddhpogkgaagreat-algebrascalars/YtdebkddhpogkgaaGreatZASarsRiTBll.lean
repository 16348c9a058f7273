import Derived.Test.YtdebkddhpogkgaaGreatZASarsRiTAll
set_option linter.unusedSimpArgs false
set_option linter.unusedVariables false
namespace Go.Proofs.YtdebkddhpogkgaaGreat
open Go.RowKit Go.Ev
def tab16:List (Entry Tryz.prog):=tab15
def tab17:List (Entry Tryz.prog):=tab16
theorem dp_dec (n:Int):dp (ptC (decI n))=decI n:=dp_ptC _ (ok4_dec n)
def tab18:List (Entry Tryz.prog):=tab17
end Go.Proofs.YtdebkddhpogkgaaGreat

set_option linter.unusedSimpArgs false
set_option linter.unusedVariables false
namespace Go.Proofs.YtdebkddhpogkgaaGreat
open Go.RowKit Go.Ev
end Go.Proofs.YtdebkddhpogkgaaGreat

set_option linter.unusedSimpArgs false
set_option linter.unusedVariables false
/-! The document's map: halves of a row that is somebody else's. -/
namespace Go.Proofs.YtdebkddhpogkgaaGreat
open Go.RowKit Go.Ev
theorem reads1 {f:FuncId} {cs:Array Value} {t:TypeId} {o l c:Nat} {v:Value} (h:Reads Tryz.prog f [(cs,t)] [.slice (some ⟨0,o,none⟩) l c] v) {mem:List (Array Value×TypeId)} {i:Nat} (hm:mem[i]? =some (cs,t)) {w:World} {β:Nat→Nat} (hw:Has w β mem):Calls Tryz.prog f ([Value.slice (some ⟨i,o,none⟩) l c].map (rn β)).toArray w (fun e w'=>e= .returned v∧Below w.heap.size w w'):=
  h w (fun _ => β i) (fun j x hx => by
    cases j with
    |zero=>simp only[List.getElem?_cons_zero,Option.some.injEq] at hx;subst hx;exact hw i _ hm
    |succ j=>simp at hx)
def tab22:List (Entry Tryz.prog):=tab18
def tab23:List (Entry Tryz.prog):=tab22
end Go.Proofs.YtdebkddhpogkgaaGreat
