import Derived.Test.YthldpfindbhkeaaRows
import Derived.Test.YthldpfindbhkeaaZSPvalEdRAll
import Derived.Test.YthldpfindbhkeaaZSPvalAeA
namespace Go.Proofs.Ythldpfindbhkeaa
open Go.ChangeShapes Go.WideShapes Go.RowKit Go.Ev
theorem cellB16:Try.prog.cellsOf 22=16:=by kernel_rfl
theorem cellK:Try.prog.cellsOf 27=32:=by kernel_rfl
theorem flatB16:Calm.flatB Try.prog 5 22=true:=by kernel_rfl
theorem flatK:Calm.flatB Try.prog 5 27=true:=by kernel_rfl
theorem list_wA {n:Nat} {xs:List Int} (hl:xs.length=n) (hw:∀ x ∈ xs,0≤x∧x≤255):By xs∧wA .u8 n xs=(xs.map (Value.int .u8)).toArray:=by
  refine⟨fun i=> ?_,?_⟩
  · rw [List.getD_eq_getElem?_getD]
    cases e:xs[i]? with
    |none=>exact⟨by decide,by decide⟩
    | some x =>
      have:=hw x (List.mem_of_getElem? e)
      exact⟨this.1,by simp only[Option.getD_some];omega⟩
  · refine (wA_ext (by simp [hl]) (fun i hi => ?_)).symm
    rw[List.getElem?_toArray,List.getElem?_map,List.getD_eq_getElem?_getD,List.getElem?_eq_getElem (by omega)]
    rfl
set_option maxRecDepth 100000 in
theorem open_bK {H:Type} {enc:TypeId×Value→H} {W:World} {base b0:Nat} {sp:Nat→Bool} {held:Bool} {r:Reach} {v:Value} {d:DataW H} {p:List MemPlace} (hv:Value.okWide Try.prog W r b0 27 v) (h:DataW.Trod enc Try.prog W base sp held 27 v d p):∃ L:List Int,By L∧v= .agg (wA .u8 32 L):=by
  simp only[Value.okWide,Try.underlying27] at hv
  obtain⟨cs,rfl,_⟩:=hv
  obtain⟨fuel,hf⟩:=h
  obtain⟨xs,e,hl,hw⟩:=Calm.ints_trod Try.underlying27 Try.underlying5 cellU8 cellK hf
  have h2:=list_wA hl (fun x hx=>Go.Proofs.Ythldpfindbhkeaa.wf_u8 (hw x hx))
  refine⟨xs,h2.1,?_⟩
  rw[h2.2]
  congr 1
  apply Array.ext'
  exact e
set_option maxRecDepth 100000 in
theorem open_bB {H:Type} {enc:TypeId×Value→H} {W:World} {base b0:Nat} {sp:Nat→Bool} {held:Bool} {r:Reach} {v:Value} {d:DataW H} {p:List MemPlace} (hv:Value.okWide Try.prog W r b0 22 v) (h:DataW.Trod enc Try.prog W base sp held 22 v d p):∃ L:List Int,By L∧v= .agg (wA .u8 16 L):=by
  simp only[Value.okWide,Try.underlying22] at hv
  obtain⟨cs,rfl,_⟩:=hv
  obtain⟨fuel,hf⟩:=h
  obtain⟨xs,e,hl,hw⟩:=Calm.ints_trod Try.underlying22 Try.underlying5 cellU8 cellB16 hf
  have h2:=list_wA hl (fun x hx=>Go.Proofs.Ythldpfindbhkeaa.wf_u8 (hw x hx))
  refine⟨xs,h2.1,?_⟩
  rw[h2.2]
  congr 1
  apply Array.ext'
  exact e
end Go.Proofs.Ythldpfindbhkeaa

set_option linter.unusedSimpArgs false
set_option linter.unusedVariables false
/-! Arrays of twelve bytes that are handed in. -/
namespace Go.Proofs.Ythldpfindbhkeaa
open Go.RowKit Go.Ev
theorem flatB12:Calm.flatB Try.prog 5 28=true:=by kernel_rfl
theorem cellB12:Try.prog.cellsOf 28=12:=by kernel_rfl
theorem open_bN {H:Type} {enc:TypeId×Value→H} {W:World} {base b0:Nat} {sp:Nat→Bool} {held:Bool} {r:Reach} {v:Value} {d:DataW H} {p:List MemPlace} (hv:Value.okWide Try.prog W r b0 28 v) (h:DataW.Trod enc Try.prog W base sp held 28 v d p):∃ L:List Int,By L∧v= .agg (wA .u8 12 L):=by
  simp only[Value.okWide,Try.underlying28] at hv
  obtain⟨cs,rfl,_⟩:=hv
  obtain⟨fuel,hf⟩:=h
  obtain⟨xs,e,hl,hw⟩:=Calm.ints_trod Try.underlying28 Try.underlying5 cellU8 cellB12 hf
  have h2:=list_wA hl (fun x hx=>Go.Proofs.Ythldpfindbhkeaa.wf_u8 (hw x hx))
  refine⟨xs,h2.1,?_⟩
  rw[h2.2]
  congr 1
  apply Array.ext'
  exact e
end Go.Proofs.Ythldpfindbhkeaa
