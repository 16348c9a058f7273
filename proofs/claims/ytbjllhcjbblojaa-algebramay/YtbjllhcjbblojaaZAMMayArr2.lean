import Derived.Test.YtbjllhcjbblojaaZAMMayRzAll
import Derived.Test.YtbjllhcjbblojaaZAMMayMidArr
set_option linter.unusedSimpArgs false
/-! More of digits: comparison, products with a carry, digits of 32 bits against bytes, arrays of arrays. -/
namespace Go.Arr
open Go.RowKit
section
variable {B : Int}
theorem vB_cmp (hB : 0 < B) {g h : Nat → Int} {m n : Nat} (hm : m < n) (hg : ∀ j, j < n → 0 ≤ g j ∧ g j < B) (hh : ∀ j, j < n → 0 ≤ h j ∧ h j < B) (e : ∀ j, m < j → j < n → g j = h j) (hlt : g m < h m) : vB B g n < vB B h n := by
  obtain ⟨d, rfl⟩ : ∃ d, n = m + 1 + d := ⟨n - (m + 1), by omega⟩
  rw [vB_split g, vB_split h, vB_ext (g := fun j => g (j + (m + 1))) (h := fun j => h (j + (m + 1))) d (fun j hj => e _ (by omega) (by omega))]
  have a := vB_bd hB g m (fun j hj => hg j (by omega))
  have b := vB_bd hB h m (fun j hj => hh j (by omega))
  have hp := Bpos hB m
  have h2 : (g m + 1) * B ^ m ≤ h m * B ^ m := Int.mul_le_mul_of_nonneg_right (by omega) (by omega)
  rw [Int.add_mul, Int.one_mul] at h2
  simp only [vB]
  omega
structure Mc (B m : Int) (h g : Nat → Int) (c b : Int) (k : Nat) : Prop where
  lo : ∀ j, j < k → 0 ≤ g j ∧ g j < B
  c0 : 0 ≤ c
  c1 : c < m
  eq : vB B g k + c * B ^ k = m * vB B h k + b
theorem Mc.bd {m : Int} {h g : Nat → Int} {c b : Int} {k : Nat} (H : Mc B m h g c b k) (hh : 0 ≤ h k ∧ h k < B) : 0 ≤ c + m * h k ∧ c + m * h k < m * B := by
  have h0 := H.c0
  have h1 := H.c1
  have e1 : 0 ≤ m * h k := Int.mul_nonneg (by omega) hh.1
  have e2 : m * h k ≤ m * (B - 1) := Int.mul_le_mul_of_nonneg_left (by omega) (by omega)
  rw [Int.mul_sub, Int.mul_one] at e2
  omega
end
end Go.Arr
