/-
  A row's arguments as numbers.
-/
import Derived.Test.YtdebkddhpogkgaaGreatZASarsByteL
namespace Go.Proofs.YtdebkddhpogkgaaGreat
open Go.RowKit
theorem by_list (xs:List Int) (hl:xs.length=32) (hb:∀ x ∈ xs,0≤x∧x≤255):∃ A:Int,Ok A∧byC A=(xs.map (Value.int .u8)).toArray:=by
  have hb':∀ x ∈ xs,0≤x∧x<256:=fun x hx=>by have:=hb x hx;omega
  have h1:=numL_bd xs hb'
  rw[hl,m4_256] at h1
  refine⟨numL xs,h1,?_⟩
  rw[byC_list]
  have:=byL_numL xs hb'
  rw[hl] at this
  rw[this]
end Go.Proofs.YtdebkddhpogkgaaGreat
