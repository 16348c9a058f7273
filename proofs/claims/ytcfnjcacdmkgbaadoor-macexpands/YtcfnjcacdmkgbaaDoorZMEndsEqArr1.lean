import Derived.Test.YtcfnjcacdmkgbaaDoorZMEndsMem
import Derived.Laws.StructEq
/-
  '==' and '!=' between two arrays of integers.
-/
namespace Go.Calm
open Go.RowKit

structure ArrT (P:Program) (t:TypeId) (n:Nat) (k:IntKind):Prop where
  arr:∃ e,P.underlying t=some (.array n e)∧P.underlying e=some (.int k)∧(P.info? e).map (·.size)=some 1
  guard:P.eqGuardType P.depth t=false

theorem all_range_int:∀(xs ys:List Int),xs.length=ys.length→((List.range xs.length).all fun i=>xs.getD i 0 == ys.getD i 0)=(xs == ys)
  | [],[],_=>rfl
  | x :: xs, y :: ys, h => by
    have ih:=all_range_int xs ys (by simpa using h)
    rw[List.length_cons,List.range_succ_eq_map,List.all_cons,List.all_map]
    simp only[List.getD_cons_zero,Function.comp_def,List.getD_cons_succ,ih]
    simp[List.cons_beq_cons]
  | [],_ :: _,h=>by simp at h
  |_ :: _,[],h=>by simp at h

section
variable {P:Program} (w:World)

theorem run_equalIn_ints (d:Nat) (t e:TypeId) (n:Nat) (k:IntKind) (ht:P.underlying t=some (.array n e)) (he:P.underlying e=some (.int k)) (hsz:∀ w,(sizeOf e).run P w= .ok 1 w)
    (xs ys:List Int) (hx:xs.length=n) (hy:ys.length=n):
    (Op.equalIn (d+2) t (.agg (xs.map (Value.int k)).toArray) (.agg (ys.map (Value.int k)).toArray)).run P w= .ok (xs == ys) w:=by
  rw[← all_range_int xs ys (hx.trans hy.symm),hx,List.range_eq_range',Op.equalIn]
  simp only[Sem.run_bind,run_underlying ht,Result.andThen_ok,hsz,Std.Legacy.Range.forIn_eq_forIn_range',Std.Legacy.Range.size,Nat.sub_zero,Nat.add_sub_cancel,Nat.div_one]
  have hl:∀ i ∈ List.range' 0 n 1,i<n:=fun i hi=>by simpa using(List.mem_range'_1.1 hi).2
  generalize List.range' 0 n 1=l at hl ⊢
  induction l with
  |nil=>simp
  | cons i l ih =>
    have hi:i<n:=hl i (by simp)
    have px:(part e (xs.map (Value.int k)).toArray (i*1)).run P w= .ok (.int k (xs.getD i 0)) w:=by
      simp[part,isAgg,run_underlying he,List.getD,List.getElem?_eq_getElem (show i<xs.length by omega)]
    have py:(part e (ys.map (Value.int k)).toArray (i*1)).run P w= .ok (.int k (ys.getD i 0)) w:=by
      simp[part,isAgg,run_underlying he,List.getD,List.getElem?_eq_getElem (show i<ys.length by omega)]
    have pe:(Op.equalIn (d+1) e (.int k (xs.getD i 0)) (.int k (ys.getD i 0))).run P w= .ok (xs.getD i 0 == ys.getD i 0) w:=run_equalIn_int w d e k k _ _ he
    simp only[List.forIn_cons,Sem.run_bind,px,py,pe,Result.andThen_ok,List.all_cons]
    cases hb:(xs.getD i 0 == ys.getD i 0)
    · simp
    · simp only [Bool.not_true, Bool.false_eq_true, if_false, Sem.run_pure, Result.andThen_ok, Bool.true_and]
      exact ih fun j hj=>hl j (by simp[hj])

theorem run_guard (t:TypeId) (x y:Operand) (u v:Array Value) (op:BinOp) (hg:P.eqGuardType P.depth t=false):(eqGuard op t x y (.agg u) (.agg v)).run P w= .ok () w:=by
  cases op<;>first|rfl|simp[eqGuard,hg]

theorem run_eql_ints {t:TypeId} {n:Nat} {k:IntKind} (A:ArrT P t n k) (xs ys:List Int) (hx:xs.length=n) (hy:ys.length=n):
    (binOp .eql t (.agg (xs.map (Value.int k)).toArray) (.agg (ys.map (Value.int k)).toArray)).run P w= .ok (.bool (xs == ys)) w:=by
  obtain⟨e,h1,h2,h3⟩:=A.arr
  have hsz : ∀ w, (sizeOf e).run P w = .ok 1 w := fun w => by
    cases hq:P.info? e with
    |none=>simp[hq] at h3
    | some i => have : i.size = 1 := by simpa [hq] using h3
                simp[sizeOf,typeInfo,hq,this]
  rw[run_eql_struct,run_equalIn_ints w 9998 t e n k h1 h2 hsz xs ys hx hy]
  rfl
theorem run_neq_ints {t:TypeId} {n:Nat} {k:IntKind} (A:ArrT P t n k) (xs ys:List Int) (hx:xs.length=n) (hy:ys.length=n):
    (binOp .neq t (.agg (xs.map (Value.int k)).toArray) (.agg (ys.map (Value.int k)).toArray)).run P w= .ok (.bool (!(xs == ys))) w:=by
  obtain⟨e,h1,h2,h3⟩:=A.arr
  have hsz : ∀ w, (sizeOf e).run P w = .ok 1 w := fun w => by
    cases hq:P.info? e with
    |none=>simp[hq] at h3
    | some i => have : i.size = 1 := by simpa [hq] using h3
                simp[sizeOf,typeInfo,hq,this]
  rw[run_neq_struct,run_equalIn_ints w 9998 t e n k h1 h2 hsz xs ys hx hy]
  rfl
end

section
variable {P:Program} (w:World)
end
section
variable {P:Program} {ops:Array Oper} {rest:List Oper} {o:Oper} {a:Act} {w0 W:World} {L:List Blk} {Q:Exit→Act→World→Prop} {al:List (Nat×Tmp)} {R:Act→Prop} {m:Nat}
end
end Go.Calm

/-
  '==' between two structs,a field at a time.
-/
namespace Go.Calm
open Go.RowKit
section
variable {P:Program} (w:World)
end
end Go.Calm
