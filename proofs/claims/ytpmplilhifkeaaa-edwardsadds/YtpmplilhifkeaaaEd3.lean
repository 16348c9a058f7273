import Derived.Test.YtpmplilhifkeaaaEd2
import Derived.Test.YtpmplilhifkeaaaEqStr
set_option linter.unusedSimpArgs false
set_option linter.unusedVariables false
namespace Go.Proofs.Ytpmplilhifkeaaa
open Go.RowKit
abbrev same4 (p q : P4) : Prop := p.X = q.X ∧ p.Y = q.Y ∧ p.Z = q.Z ∧ p.T = q.T
theorem ite_and {p q : Prop} [Decidable p] [Decidable q] {α : Type} (x y : α) : (if p then (if q then x else y) else y) = if p ∧ q then x else y := by
  by_cases p <;> by_cases q <;> simp_all
theorem eqPt_run {p q : P4} (hp : Ok4 p) (hq : Ok4 q) {o : Oper} {a : Act} {x y : Operand} {u : TypeId} (ho : o.op = .binOp .eql 26 x y u) (hx : a.eval x = .agg (ptC p)) (hy : a.eval y = .agg (ptC q)) (w : World) : (execOp a.eval o).run Try.prog w = .ok (.value (.bool (decide (same4 p q)))) w := by
  obtain ⟨h1, h2, h3, h4⟩ := hp
  obtain ⟨k1, k2, k3, k4⟩ := hq
  refine Calm.exec_eqlS (by kernel_rfl) (by kernel_rfl) (by kernel_rfl) ho hx hy (fun w => ?_) w
  unfold Program.fieldsOf
  rw [Try.underlying26]
  dsimp only
  rw [Calm.eqF_arr w 9997 _ _ _ _ (by decide) arrFe (by kernel_rfl) (feL p.X) (feL q.X) rfl rfl rfl rfl]
  rw [Calm.eqF_arr w 9997 _ _ _ _ (by decide) arrFe (by kernel_rfl) (feL p.Y) (feL q.Y) rfl rfl rfl rfl]
  rw [Calm.eqF_arr w 9997 _ _ _ _ (by decide) arrFe (by kernel_rfl) (feL p.Z) (feL q.Z) rfl rfl rfl rfl]
  rw [Calm.eqF_arr w 9997 _ _ _ _ (by decide) arrFe (by kernel_rfl) (feL p.T) (feL q.T) rfl rfl rfl rfl]
  rw [Calm.eqF_nil, feL_inj h1 k1, feL_inj h2 k2, feL_inj h3 k3, feL_inj h4 k4]
  unfold same4
  by_cases e1 : p.X = q.X <;> by_cases e2 : p.Y = q.Y <;> by_cases e3 : p.Z = q.Z <;> by_cases e4 : p.T = q.T <;> simp [e1, e2, e3, e4]
end Go.Proofs.Ytpmplilhifkeaaa
