/-
  '==' between two structs,a field at a time.
-/
import Derived.Test.YtdebkddhpogkgaaGreatZASarsEqArr
namespace Go.Calm
open Go.RowKit
section
variable {P:Program} (w:World)
theorem run_sizeOf {t:TypeId} {n:Nat} (h:(P.info? t).map (·.size)=some n):(sizeOf t).run P w= .ok n w:=by
  cases hq:P.info? t with
  |none=>simp[hq] at h
  | some i =>
    have:i.size=n:=by simpa[hq] using h
    simp[sizeOf,typeInfo,hq,this]
theorem eqF_nil (d:Nat) (xs ys:Array Value):(Op.eqFields d xs ys []).run P w= .ok true w:=by simp[Op.eqFields]
theorem eqF_arr (d:Nat) (xs ys:Array Value) (f:Field) (fs:List Field) (hn:f.name≠ "_") {n:Nat} {k:IntKind} (A:ArrT P f.type n k) (hs:(P.info? f.type).map (·.size)=some n) (us vs:List Int) (hu:us.length=n) (hv:vs.length=n)
    (hx:xs.extract f.offset (f.offset+n)=(us.map (Value.int k)).toArray) (hy:ys.extract f.offset (f.offset+n)=(vs.map (Value.int k)).toArray):
    (Op.eqFields (d+2) xs ys (f :: fs)).run P w=if us == vs then(Op.eqFields (d+2) xs ys fs).run P w else .ok false w:=by
  obtain⟨e,h1,h2,h3⟩:=A.arr
  have px:(part f.type xs f.offset).run P w= .ok (.agg (us.map (Value.int k)).toArray) w:=by
    simp[part,isAgg,run_underlying h1,run_sizeOf w hs,hx]
  have py:(part f.type ys f.offset).run P w= .ok (.agg (vs.map (Value.int k)).toArray) w:=by
    simp[part,isAgg,run_underlying h1,run_sizeOf w hs,hy]
  have pe:=run_equalIn_ints w d f.type e n k h1 h2 (fun w=>run_sizeOf w h3) us vs hu hv
  rw[Op.eqFields,if_pos hn]
  simp only[Sem.run_bind,px,py,pe,Result.andThen_ok]
  cases us == vs<;>simp
theorem run_eql_of {t:TypeId} {xs ys:Array Value} {b:Bool} (ht:P.underlying t=some (.struct (P.fieldsOf t))) (hp:P.stoodInHeld t=false) (h:(Op.eqFields 9999 xs ys (P.fieldsOf t).toList).run P w= .ok b w):(binOp .eql t (.agg xs) (.agg ys)).run P w= .ok (.bool b) w:=by
  rw[run_eql_struct,run_equalIn_struct w 9999 t xs ys ht hp,h]
  rfl
theorem run_neq_of {t:TypeId} {xs ys:Array Value} {b:Bool} (ht:P.underlying t=some (.struct (P.fieldsOf t))) (hp:P.stoodInHeld t=false) (h:(Op.eqFields 9999 xs ys (P.fieldsOf t).toList).run P w= .ok b w):(binOp .neq t (.agg xs) (.agg ys)).run P w= .ok (.bool !b) w:=by
  rw[run_neq_struct,run_equalIn_struct w 9999 t xs ys ht hp,h]
  rfl
end
end Go.Calm
