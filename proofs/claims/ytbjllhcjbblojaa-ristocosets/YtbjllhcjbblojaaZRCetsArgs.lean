/-
  A row's arguments as numbers.
-/
import Derived.Test.YtbjllhcjbblojaaZRCetsByteL
namespace Go.Proofs.Ytbjllhcjbblojaa
open Go.RowKit
theorem fe_list (xs : List Int) (hl : xs.length = 4) (hb : ∀ x ∈ xs, 0 ≤ x ∧ x ≤ 18446744073709551615) : ∃ A : Int, Ok A ∧ feC A = (xs.map (Value.int .u64)).toArray := by
  match xs, hl with
  | [a, b, c, d], _ =>
    have h0 := hb a (by simp)
    have h1 := hb b (by simp)
    have h2 := hb c (by simp)
    have h3 := hb d (by simp)
    refine ⟨a + 18446744073709551616 * b + 340282366920938463463374607431768211456 * c + 6277101735386680763835789423207666416102355444464034512896 * d, by unfold Ok; omega, ?_⟩
    exact feC_of a b c d _ h0.1 (by omega) h1.1 (by omega) h2.1 (by omega) h3.1 (by omega) rfl
end Go.Proofs.Ytbjllhcjbblojaa
