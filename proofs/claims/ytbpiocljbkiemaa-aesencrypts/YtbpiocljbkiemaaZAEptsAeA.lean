import Derived.Test.YtbpiocljbkiemaaZAEptsEdEAll
import Derived.Test.YtbpiocljbkiemaaZAEptsEv8
set_option linter.unusedSimpArgs false
set_option linter.unusedVariables false
/-! aes: arrays of bytes. -/
namespace Go.Proofs.Ytbpiocljbkiemaa
open Go.RowKit Go.Ev
theorem wA_size (k:IntKind) (n:Nat) (L:List Int):(wA k n L).size=n:=by simp[wA]
theorem wA_at {k:IntKind} {n:Nat} {L:List Int} {p:Nat} (h:p<n):(wA k n L)[p]? =some (.int k (L.getD p 0)):=by
  simp[wA,h]
theorem wA_get {k:IntKind} {n:Nat} {L:List Int} {p q:Nat} (h:p<n) (e:q=p):(wA k n L)[q]? =some (.int k (L.getD p 0)):=by
  subst e;exact wA_at h
theorem wA_one (k:IntKind) (n:Nat) (L:List Int):(wA k n L).all (fun v=>v.oneCell')=true:=by
  simp[wA,Value.oneCell']
theorem wA_ext {k:IntKind} {N:Nat} {A:Array Value} {L:List Int} (hs:A.size=N) (h:∀ i,i<N→A[i]? =some (.int k (L.getD i 0))):A=wA k N L:=by
  apply Array.ext
  · rw[hs,wA_size]
  · intro i h1 h2
    have hi:i<N:=by rw[← hs];exact h1
    have e1:=h i hi
    have e2:=wA_at (k:=k) (L:=L) hi
    rw[Array.getElem?_eq_getElem h1] at e1
    rw[Array.getElem?_eq_getElem h2] at e2
    exact(Option.some.inj e1).trans (Option.some.inj e2).symm
theorem getD_app {L M:List Int} {i:Nat}:(L ++ M).getD i 0=if i<L.length then L.getD i 0 else M.getD (i - L.length) 0:=by
  rw[List.getD_eq_getElem?_getD,List.getD_eq_getElem?_getD,List.getD_eq_getElem?_getD,List.getElem?_append]
  split<;>rfl
theorem wA_set {k:IntKind} {n:Nat} {L:List Int} {x:Int} {p:Nat} (h:L.length<n) (e:p=L.length):p<(wA k n L).size∧(wA k n L).setIfInBounds p (.int k x)=wA k n (L ++ [x]):=by
  subst e
  refine⟨by rw[wA_size];exact h,wA_ext (by rw[Array.size_setIfInBounds,wA_size]) (fun i hi=> ?_)⟩
  rw[Array.getElem?_setIfInBounds,wA_size,getD_app]
  by_cases e:L.length=i
  · subst e;rw[if_pos rfl,if_pos h,if_neg (by omega),Nat.sub_self];rfl
  · rw [if_neg e, wA_at hi]
    by_cases h2:i<L.length
    · rw[if_pos h2]
    · rw[if_neg h2,List.getD_eq_getElem?_getD,List.getElem?_eq_none (by omega),List.getD_eq_getElem?_getD,List.getElem?_eq_none (by simp;omega)]
def lset (N:Nat) (L:List Int) (p:Nat) (x:Int):List Int:=(List.range N).map fun i=>if i=p then x else L.getD i 0
theorem lset_at {N p i:Nat} {L:List Int} {x:Int} (h:i<N):(lset N L p x).getD i 0=if i=p then x else L.getD i 0:=by
  simp[lset,List.getD_eq_getElem?_getD,h]
theorem wA_put {k:IntKind} {N p:Nat} {L:List Int} {x:Int} (h:p<N):(wA k N L).setIfInBounds p (.int k x)=wA k N (lset N L p x):=by
  refine wA_ext (by rw[Array.size_setIfInBounds,wA_size]) (fun i hi=> ?_)
  rw[Array.getElem?_setIfInBounds,wA_size,lset_at hi]
  by_cases e:p=i
  · subst e;rw[if_pos rfl,if_pos h,if_pos rfl]
  · rw[if_neg e,wA_at hi,if_neg (fun h=>e h.symm)]
theorem wA_putE {k:IntKind} {N p q:Nat} {L:List Int} {x:Int} (h:p<N) (e:q=p):(wA k N L).setIfInBounds q (.int k x)=wA k N (lset N L p x):=by
  subst e;exact wA_put h
theorem tmodN (a b:Nat):Int.tmod (a:Int) (b:Int)=((a%b:Nat):Int):=by
  rw[Int.tmod_eq_emod_of_nonneg (by omega)];rfl
theorem tdivN (a b:Nat):Int.tdiv (a:Int) (b:Int)=((a / b:Nat):Int):=by
  rw[Int.tdiv_eq_ediv_of_nonneg (by omega)];rfl
theorem tdivN_i64 (a b:Nat) (h:a<9223372036854775808):IntKind.i64.wrap (Int.tdiv (a:Int) (b:Int))=((a / b:Nat):Int):=by
  have:=Nat.div_le_self a b
  rw[tdivN,IntKind.wrap_i64]
  generalize a / b=c at this ⊢
  omega
def dL8 (a:Array Value):List Int:=a.toList.map intOf
def By (L:List Int):Prop:=∀ i,0≤L.getD i 0∧L.getD i 0<256
theorem dL8_wA (k:IntKind) (n:Nat) (L:List Int) (i:Nat):(dL8 (wA k n L)).getD i 0=if i<n then L.getD i 0 else 0:=by
  unfold dL8 wA
  rw[List.getD_eq_getElem?_getD]
  by_cases h:i<n
  · simp[h,intOf]
  · simp[h]
theorem by_dL8 {k:IntKind} {n:Nat} {L:List Int} (h:By L):By (dL8 (wA k n L)):=fun i=>by
  rw[dL8_wA]
  split
  · exact h i
  · exact⟨by decide,by decide⟩
theorem by_nil:By []:=fun i=>by simp
theorem by_cons {x:Int} {L:List Int} (h:0≤x∧x<256) (hL:By L):By (x :: L):=fun i=>by
  cases i with
  |zero=>exact h
  |succ i=>exact hL i
theorem dL8_self (n:Nat) (L:List Int):wA .u8 n L=wA .u8 n (dL8 (wA .u8 n L)):=by
  refine wA_ext (wA_size _ _ _) (fun i hi=> ?_)
  rw[wA_at hi,dL8_wA,if_pos hi]
theorem dq {n:Nat} {L:List Int} (h:By L):wA .u8 n L=wA .u8 n (dL8 (wA .u8 n L))∧By (dL8 (wA .u8 n L)):=⟨dL8_self n L,by_dL8 h⟩
theorem xb (op:BinOp) (a b:Int):0≤bits op .u8 a b∧bits op .u8 a b<256:=by
  unfold bits
  rw[IntKind.wrap_u8]
  omega
theorem by_ofFn {n:Nat} {f:Nat→Int} (h:∀ i,i<n→0≤f i∧f i<256):By ((List.range n).map f):=fun i=>by
  rw[List.getD_eq_getElem?_getD,List.getElem?_map]
  by_cases hi:i<n
  · rw[List.getElem?_range hi];exact h i hi
  · rw[List.getElem?_eq_none (by simpa using hi)];simp
def tab0:List (Entry Try.prog):= []
section
variable {P:Program} {f:FuncId} {fn:Func} (hf:P.funcs[f]? =some fn) (hn:(fn.name == "runtime.NumGoroutine")=false) (hb:fn.body.isNone=false)
def ent2N (F : Int → Int → Value) (C : Int → Int → Prop) {k k' : IntKind} (h : ∀ x y, C x y → Pure P f #[.int k x, .int k' y] (F x y)) : Entry P where
  f:=f
  g:=fun _ xs=>match xs with| [.int j x,.int j' y]=>some (F x y,(j=k∧j'=k')∧C x y)|_=>none
  ok := fun _ xs u c e hc w β _ _ => by
    split at e
    · simp only [Option.some.injEq, Prod.mk.injEq] at e
      obtain⟨rfl,rfl⟩:=e
      obtain⟨⟨rfl,rfl⟩,hc⟩:=hc
      exact h _ _ hc w
    · cases e
  call:=call_of hf hn hb
def entL (n : Nat) (F : List Int → Value) (h : ∀ L, By L → Pure P f #[.agg (wA .u8 n L)] (F L)) : Entry P where
  f:=f
  g:=fun _ xs=>match xs with| [.agg a]=>some (F (dL8 a),(a=wA .u8 n (dL8 a)∧By (dL8 a)))|_=>none
  ok := fun _ xs u c e hc w β _ _ => by
    split at e
    · simp only [Option.some.injEq, Prod.mk.injEq] at e
      obtain⟨rfl,rfl⟩:=e
      have:=h _ hc.2 w
      rw[← hc.1] at this
      exact this
    · cases e
  call:=call_of hf hn hb
def entLL (n m : Nat) (F : List Int → List Int → Value) (h : ∀ L M, By L → By M → Pure P f #[.agg (wA .u8 n L), .agg (wA .u8 m M)] (F L M)) : Entry P where
  f:=f
  g:=fun _ xs=>match xs with| [.agg a,.agg b]=>some (F (dL8 a) (dL8 b),((a=wA .u8 n (dL8 a)∧By (dL8 a))∧(b=wA .u8 m (dL8 b)∧By (dL8 b))))|_=>none
  ok := fun _ xs u c e hc w β _ _ => by
    split at e
    · simp only [Option.some.injEq, Prod.mk.injEq] at e
      obtain⟨rfl,rfl⟩:=e
      have:=h _ _ hc.1.2 hc.2.2 w
      rw[← hc.1.1,← hc.2.1] at this
      exact this
    · cases e
  call:=call_of hf hn hb
end
end Go.Proofs.Ytbpiocljbkiemaa
