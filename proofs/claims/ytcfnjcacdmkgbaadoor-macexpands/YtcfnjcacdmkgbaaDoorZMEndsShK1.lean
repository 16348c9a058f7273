import Derived.Test.YtcfnjcacdmkgbaaDoorZMEndsShI1
set_option linter.unusedSimpArgs false
set_option linter.unusedVariables false
/-! abc, nothing, a text of two blocks. -/
namespace Go.Proofs.YtcfnjcacdmkgbaaDoor
open Go.RowKit Go.Ev
theorem readsT {P:Program} {f:FuncId} {x0 x1 cs:Array Value} {g0 g1 t:Tq} {o l c:Nat} {v:Value} (h:Reads P f [(x0,g0),(x1,g1),(cs,t)] [.slice (some ⟨2,o,none⟩) l c] v 2) {mem:List Mb} {i:Nat} (h0:mem[0]? =some (x0,g0)) (h1:mem[1]? =some (x1,g1)) (hm:mem[i]? =some (cs,t)) {w:World} {β:Nat→Nat} (hw:Has w β mem) (b0:β 0=0) (b1:β 1=1):Calls P f ([Value.slice (some ⟨i,o,none⟩) l c].map (rn β)).toArray w (fun e w'=>e= .returned v∧Below w.heap.size w w'):=
  h w (fun j => if j = 2 then β i else β j) (fun j x hx => by
    match j,hx with
    | 0, hx =>
      simp only[List.getElem?_cons_zero,Option.some.injEq] at hx
      subst hx
      exact hw 0 _ h0
    | 1, hx =>
      simp only[List.getElem?_cons_succ,List.getElem?_cons_zero,Option.some.injEq] at hx
      subst hx
      exact hw 1 _ h1
    | 2, hx =>
      simp only[List.getElem?_cons_succ,List.getElem?_cons_zero,Option.some.injEq] at hx
      subst hx
      exact hw i _ hm
    |j+3,hx=>simp at hx) (fun j hj=>by
    match j,hj with
    |0,_=>exact b0
    |1,_=>exact b1
    |j+2,hj=>omega)
theorem readsN {P:Program} {f:FuncId} {x0 x1:Array Value} {g0 g1:Tq} {args:List Value} (ha:args.all np=true) {v:Value} (h:Reads P f [(x0,g0),(x1,g1)] args v 2) {mem:List Mb} (h0:mem[0]? =some (x0,g0)) (h1:mem[1]? =some (x1,g1)) {w:World} {β:Nat→Nat} (hw:Has w β mem) (b0:β 0=0) (b1:β 1=1):Calls P f (args.map (rn β)).toArray w (fun e w'=>e= .returned v∧Below w.heap.size w w'):=
  h w β (fun j x hx => by
    match j,hx with
    | 0, hx =>
      simp only[List.getElem?_cons_zero,Option.some.injEq] at hx
      subst hx
      exact hw 0 _ h0
    | 1, hx =>
      simp only[List.getElem?_cons_succ,List.getElem?_cons_zero,Option.some.injEq] at hx
      subst hx
      exact hw 1 _ h1
    |j+2,hx=>simp at hx) (fun j hj=>by
    match j,hj with
    |0,_=>exact b0
    |1,_=>exact b1
    |j+2,hj=>omega)
def pSm2 : Entry Tryd.prog where
  f:=11
  ng:=2
  g := fun mem xs => match xs with
    | [.slice (some ⟨i, o, none⟩) l c] => (match mem[0]?, mem[1]?, mem[i]? with
      |some (x0,_),some (x1,_),some (a,_)=>some (.agg (wA .u8 32 (sum2 a o l)),(x0=wA .u32 64 kL2∧x1=wA .u64 80 kL5∧bytesAt a o l∧o+l≤a.size∧l≤c∧l<1152921504606846976))
      |_,_,_=>none)
    | [.slice none 0 0] => (match mem[0]?, mem[1]? with
      |some (x0,_),some (x1,_)=>some (.agg (wA .u8 32 sumN2),(x0=wA .u32 64 kL2∧x1=wA .u64 80 kL5))
      |_,_=>none)
    |_=>none
  ok := fun mem xs v c e hc w β hw hg => by
    split at e
    · rename_i i o l c0
      split at e
      · rename_i x0 g0 x1 g1 a t h0 h1 hm
        simp only[Option.some.injEq,Prod.mk.injEq] at e
        obtain⟨rfl,rfl⟩:=e
        obtain⟨rfl,rfl,hb,hz,hcp,hl⟩:=hc
        exact readsT (Sum2_c a g0 g1 t o l c0 hb hz hcp hl) h0 h1 hm hw (hg 0 (by decide)) (hg 1 (by decide))
      · cases e
    · split at e
      · rename_i x0 g0 x1 g1 h0 h1
        simp only[Option.some.injEq,Prod.mk.injEq] at e
        obtain⟨rfl,rfl⟩:=e
        obtain⟨rfl,rfl⟩:=hc
        exact readsN rfl (SumN2_c g0 g1) h0 h1 hw (hg 0 (by decide)) (hg 1 (by decide))
      · cases e
    · cases e
  call:=call_of Tryd.func11 (by kernel_rfl) (by kernel_rfl)
def pSm5 : Entry Tryd.prog where
  f:=26
  ng:=2
  g := fun mem xs => match xs with
    | [.slice (some ⟨i, o, none⟩) l c] => (match mem[0]?, mem[1]?, mem[i]? with
      |some (x0,_),some (x1,_),some (a,_)=>some (.agg (wA .u8 64 (sum5 a o l)),(x0=wA .u32 64 kL2∧x1=wA .u64 80 kL5∧bytesAt a o l∧o+l≤a.size∧l≤c∧l<1152921504606846976))
      |_,_,_=>none)
    | [.slice none 0 0] => (match mem[0]?, mem[1]? with
      |some (x0,_),some (x1,_)=>some (.agg (wA .u8 64 sumN5),(x0=wA .u32 64 kL2∧x1=wA .u64 80 kL5))
      |_,_=>none)
    |_=>none
  ok := fun mem xs v c e hc w β hw hg => by
    split at e
    · rename_i i o l c0
      split at e
      · rename_i x0 g0 x1 g1 a t h0 h1 hm
        simp only[Option.some.injEq,Prod.mk.injEq] at e
        obtain⟨rfl,rfl⟩:=e
        obtain⟨rfl,rfl,hb,hz,hcp,hl⟩:=hc
        exact readsT (Sum5_c a g0 g1 t o l c0 hb hz hcp hl) h0 h1 hm hw (hg 0 (by decide)) (hg 1 (by decide))
      · cases e
    · split at e
      · rename_i x0 g0 x1 g1 h0 h1
        simp only[Option.some.injEq,Prod.mk.injEq] at e
        obtain⟨rfl,rfl⟩:=e
        obtain⟨rfl,rfl⟩:=hc
        exact readsN rfl (SumN5_c g0 g1) h0 h1 hw (hg 0 (by decide)) (hg 1 (by decide))
      · cases e
    · cases e
  call:=call_of Tryd.func26 (by kernel_rfl) (by kernel_rfl)
def tabS8:List (Entry Tryd.prog):=pSm2 :: pSm5 :: tabS7
end Go.Proofs.YtcfnjcacdmkgbaaDoor

set_option linter.unusedSimpArgs false
set_option linter.unusedVariables false
/-! The standard's examples. -/
namespace Go.Proofs.YtcfnjcacdmkgbaaDoor
open Go.RowKit Go.Ev
theorem txt_eq {b s:ByteArray} (h:b=s):(b.toList == s.toList)=true:=by rw[h];exact beq_self_eq_true _

end Go.Proofs.YtcfnjcacdmkgbaaDoor
