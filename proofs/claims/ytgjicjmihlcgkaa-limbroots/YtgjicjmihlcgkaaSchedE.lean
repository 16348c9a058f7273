import Derived.Test.YtgjicjmihlcgkaaSched
namespace Go.Calm
open Go.RowKit
section
variable {P : Program} {ops : Array Oper} {Q : Exit → Act → World → Prop} {r : List (Nat × Bool)} {i : Nat} {o : Oper} {a : Act} {w0 W : World} {L L0 : List Blk}
theorem run_storeVar_one {ty : TypeId} {b j : Nat} {old : Array Value} {t : TypeId} {v : Value} (hg : W.heap[b]? = some (.cells old t (0, 0))) (T : OneT P ty) (hj : j < old.size) (h1 : v.oneCell' = true) : (storeVar ty ⟨b, j, none⟩ v).run P W = .ok () (W.setRow b (old.setIfInBounds j v)) := by
  have hi := T.size
  have hc : v.cells = #[v] := by cases v <;> simp_all [Value.oneCell', Value.cells]
  cases hq : P.info? ty with
  | none => simp [hq] at hi
  | some i =>
    have hs : i.size = 1 := by simpa [hq] using hi
    have h2 : W.cell? ⟨b, j, none⟩ = some old[j] := by rw [cell_of_row W b j old t _ hg]; simp [hj]
    have h3 := frozen_of_row W b j old t hg
    rw [← setCell_eq_setRow W b j old t _ v hg]
    have hadd : (⟨b, j, none⟩ : Addr).add 0 = ⟨b, j, none⟩ := by unfold Addr.add; split <;> simp_all
    have hst := run_store P W ⟨b, j, none⟩ v
    simp [storeVar, sizeOf, typeInfo, hq, hs, hc, storeCells, hadd, hst _ h1, h2, h3]
theorem whB_loadE (S : St w0 W L) (hsub : ∀ x ∈ L0, x ∈ L) {ty : TypeId} {x : Operand} {b j : Nat} {cs : Array Value} {t : TypeId} {v : Value} (hi : ops[i]? = some o) (hw : Region.wanted o (yielded ops a.tmps) = true) (ho : o.op = .load ty x) (hx : a.eval x = .pointer (some ⟨b, j, none⟩)) (hm : ⟨b, cs, t⟩ ∈ L) (hv : cs[j]? = some v)
    (T : OneT P ty) (h : walkH P ops Q (Mem0 L0) r (a.put o.dst v) W) : walkH P ops Q (Mem0 L0) ((i, false) :: r) a W :=
  let ⟨d, hu, hd⟩ := T.one
  wh_only hi hw (by
    unfold Oper.wp execOp
    simp only [ho, hx, Instr.loadAt, Instr.sureAddr, Sem.run_bind, Sem.run_pure, Result.andThen_ok, run_loadVar_one W b j t ty cs d v (S.has _ hm) hv hu hd]
    exact ⟨S.mem0 hsub, h⟩)
theorem whB_storeE (S : St w0 W L) {ty : TypeId} {x y : Operand} {b j : Nat} {old cs : Array Value} {t : TypeId} {v : Value} (hi : ops[i]? = some o) (hw : Region.wanted o (yielded ops a.tmps) = true) (ho : o.op = .store ty x y) (hx : a.eval x = .pointer (some ⟨b, j, none⟩)) (hy : a.eval y = v) {L' : List Blk} (hcs : cs = old.setIfInBounds j v) (hf : Foc L b old t cs L')
    (T : OneT P ty) (hj : j < old.size) (h1 : v.oneCell' = true) (hsub : ∀ x ∈ L0, x ∈ L')
    (h : ∀ W', St w0 W' L' → walkH P ops Q (Mem0 L0) r (a.put o.dst undef) W') : walkH P ops Q (Mem0 L0) ((i, false) :: r) a W := by
  subst hcs
  refine wh_only hi hw ?_
  unfold Oper.wp execOp
  simp only [ho, hx, hy, Instr.storeAt, Instr.sureAddr, Sem.run_bind, Sem.run_pure, Result.andThen_ok, run_storeVar_one (S.has _ hf.mem) T hj h1]
  exact ⟨(S.storeF hf).mem0 hsub, h _ (S.storeF hf)⟩
end
end Go.Calm
