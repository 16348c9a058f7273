import Derived.Test.YtlbofcgjdbfenabPowAll
import Derived.Test.YtlbofcgjdbfenabRootMath
import Derived.Test.YtlbofcgjdbfenabSchAll
set_option linter.unusedSimpArgs false
namespace Go.Proofs.Ytlbofcgjdbfenab
open Go.RowKit
theorem nuC_0 : nuC 0 = #[.int .u64 0, .int .u64 0, .int .u64 0, .int .u64 0, .int .u64 0, .int .u64 0, .int .u64 0, .int .u64 0] := by kernel_rfl
theorem eqNu_run {o : Oper} {a : Act} {X Y : Int} {x y : Operand} {u : TypeId} (hX : Ok X) (hY : Ok Y) (ho : o.op = .binOp .eql 90 x y u) (hx : a.eval x = .agg (nuC X)) (hy : a.eval y = .agg (nuC Y)) (w : World) : (execOp a.eval o).run Try.prog w = .ok (.value (.bool (decide (X = Y)))) w := by
  rw [nuC_list] at hx hy
  rw [← nuL_inj hX hY]
  exact Calm.exec_eql arrNu (nuL X) (nuL Y) (nuL_len X) (nuL_len Y) ho hx hy w
theorem neNu_run {o : Oper} {a : Act} {X Y : Int} {v : Bool} {x y : Operand} {u : TypeId} (hX : Ok X) (hY : Ok Y) (hv : (!decide (X = Y)) = v) (ho : o.op = .binOp .neq 90 x y u) (hx : a.eval x = .agg (nuC X)) (hy : a.eval y = .agg (nuC Y)) (w : World) : (execOp a.eval o).run Try.prog w = .ok (.value (.bool v)) w := by
  rw [nuC_list] at hx hy
  rw [← hv, ← nuL_inj hX hY]
  have := Calm.exec_neq arrNu (nuL X) (nuL Y) (nuL_len X) (nuL_len Y) ho hx hy w
  simpa [bne] using this
/-- A row of a slice, somewhere. -/
def rowAt (n : Nat) (xs : List Nat) (v : Value) (w : World) : Prop := ∃ g cap cur, v = .slice (some ⟨g, 0, none⟩) n cap ∧ w.heap[g]? = some (.cells cur 3 (0, 0)) ∧ ∀ j, j < n → cur[j]? = some (.int .i64 ((xs.getD j 0 : Nat) : Int))
theorem rowAt_stable (n : Nat) (xs : List Nat) (v : Value) : Calm.Stable (rowAt n xs v) := fun w w' ⟨g, cap, cur, h1, h2, h3⟩ hb => ⟨g, cap, cur, h1, by rw [hb.block _ (Calm.lt_of_heap h2)]; exact h2, h3⟩
theorem row1 : ∀ j, j < 1 → (#[.int .i64 0] : Array Value)[j]? = some (.int .i64 ((([0] : List Nat).getD j 0 : Nat) : Int)) := by
  intro j hj
  have : j = 0 := by omega
  subst this
  rfl
theorem h_root : hvd (fun j => lRoot.getD j 0) 252 252 = e38 := by kernel_rfl
theorem ok_rx0 (s : Int) : Ok (rx0 s) := ok_pm _ _
theorem rx_yes {s : Int} (h : rx0 s * rx0 s % pr = s) : rx s = rx0 s := by unfold rx; rw [if_pos h]
theorem rx_no {s : Int} (h : ¬ rx0 s * rx0 s % pr = s) : rx s = rx0 s * iNum % pr := by unfold rx; rw [if_neg h]
theorem rx_bd (s : Int) : 0 ≤ rx s ∧ rx s < pr := by
  unfold rx rx0 pm pr
  split <;> omega
theorem ok_pr {s : Int} (hs : 0 ≤ s ∧ s < pr) : Ok s := by unfold Ok; unfold pr at hs; omega
end Go.Proofs.Ytlbofcgjdbfenab
