import Derived.Test.YthldpfindbhkeaaZSPvalByA1
import Derived.Test.YthldpfindbhkeaaZSPvalEdEAll
import Derived.Test.YthldpfindbhkeaaZSPvalEvW1
set_option linter.unusedSimpArgs false
set_option linter.unusedVariables false
/-! aes: arrays of bytes. -/
namespace Go.Proofs.Ythldpfindbhkeaa
open Go.RowKit Go.Ev
theorem getD_app {L M:List Int} {i:Nat}:(L ++ M).getD i 0=if i<L.length then L.getD i 0 else M.getD (i - L.length) 0:=by
  rw[List.getD_eq_getElem?_getD,List.getD_eq_getElem?_getD,List.getD_eq_getElem?_getD,List.getElem?_append]
  split<;>rfl
def dL8 (a:Array Value):List Int:=a.toList.map intOf
def By (L:List Int):Prop:=∀ i,0≤L.getD i 0∧L.getD i 0<256
theorem dL8_wA (k:IntKind) (n:Nat) (L:List Int) (i:Nat):(dL8 (wA k n L)).getD i 0=if i<n then L.getD i 0 else 0:=by
  unfold dL8 wA
  rw[List.getD_eq_getElem?_getD]
  by_cases h:i<n
  · simp[h,intOf]
  · simp[h]
theorem by_dL8 {k:IntKind} {n:Nat} {L:List Int} (h:By L):By (dL8 (wA k n L)):=fun i=>by
  rw[dL8_wA]
  split
  · exact h i
  · exact⟨by decide,by decide⟩
theorem by_nil:By []:=fun i=>by simp
theorem by_cons {x:Int} {L:List Int} (h:0≤x∧x<256) (hL:By L):By (x :: L):=fun i=>by
  cases i with
  |zero=>exact h
  |succ i=>exact hL i
theorem dL8_self (n:Nat) (L:List Int):wA .u8 n L=wA .u8 n (dL8 (wA .u8 n L)):=by
  refine wA_ext (wA_size _ _ _) (fun i hi=> ?_)
  rw[wA_at hi,dL8_wA,if_pos hi]
theorem dq {n:Nat} {L:List Int} (h:By L):wA .u8 n L=wA .u8 n (dL8 (wA .u8 n L))∧By (dL8 (wA .u8 n L)):=⟨dL8_self n L,by_dL8 h⟩
theorem xb (op:BinOp) (a b:Int):0≤bits op .u8 a b∧bits op .u8 a b<256:=by
  unfold bits
  rw[IntKind.wrap_u8]
  omega
theorem by_ofFn {n:Nat} {f:Nat→Int} (h:∀ i,i<n→0≤f i∧f i<256):By ((List.range n).map f):=fun i=>by
  rw[List.getD_eq_getElem?_getD,List.getElem?_map]
  by_cases hi:i<n
  · rw[List.getElem?_range hi];exact h i hi
  · rw[List.getElem?_eq_none (by simpa using hi)];simp
theorem ofFn_at {n:Nat} {f:Nat→Int} {i:Nat} (h:i<n):((List.range n).map f).getD i 0=f i:=by
  rw[List.getD_eq_getElem?_getD,List.getElem?_map,List.getElem?_range h];rfl
section
variable {P:Program} {f:FuncId} {fn:Func} (hf:P.funcs[f]? =some fn) (hn:(fn.name == "runtime.NumGoroutine")=false) (hb:fn.body.isNone=false)
def ent2C (F : Int → Int → Value) (C : Int → Int → Prop) {k k' : IntKind} (h : ∀ x y, C x y → Pure P f #[.int k x, .int k' y] (F x y)) : Entry P where
  f:=f
  g:=fun _ xs=>match xs with| [.int j x,.int j' y]=>some (F x y,(j=k∧j'=k')∧C x y)|_=>none
  ok := fun _ xs u c e hc w β _ _ => by
    split at e
    · simp only [Option.some.injEq, Prod.mk.injEq] at e
      obtain⟨rfl,rfl⟩:=e
      obtain⟨⟨rfl,rfl⟩,hc⟩:=hc
      exact h _ _ hc w
    · cases e
  call:=call_of hf hn hb
def entL (n : Nat) (F : List Int → Value) (h : ∀ L, By L → Pure P f #[.agg (wA .u8 n L)] (F L)) : Entry P where
  f:=f
  g:=fun _ xs=>match xs with| [.agg a]=>some (F (dL8 a),(a=wA .u8 n (dL8 a)∧By (dL8 a)))|_=>none
  ok := fun _ xs u c e hc w β _ _ => by
    split at e
    · simp only [Option.some.injEq, Prod.mk.injEq] at e
      obtain⟨rfl,rfl⟩:=e
      have:=h _ hc.2 w
      rw[← hc.1] at this
      exact this
    · cases e
  call:=call_of hf hn hb
def entLL (n m : Nat) (F : List Int → List Int → Value) (h : ∀ L M, By L → By M → Pure P f #[.agg (wA .u8 n L), .agg (wA .u8 m M)] (F L M)) : Entry P where
  f:=f
  g:=fun _ xs=>match xs with| [.agg a,.agg b]=>some (F (dL8 a) (dL8 b),((a=wA .u8 n (dL8 a)∧By (dL8 a))∧(b=wA .u8 m (dL8 b)∧By (dL8 b))))|_=>none
  ok := fun _ xs u c e hc w β _ _ => by
    split at e
    · simp only [Option.some.injEq, Prod.mk.injEq] at e
      obtain⟨rfl,rfl⟩:=e
      have:=h _ _ hc.1.2 hc.2.2 w
      rw[← hc.1.1,← hc.2.1] at this
      exact this
    · cases e
  call:=call_of hf hn hb
end
end Go.Proofs.Ythldpfindbhkeaa
