import Derived.Test.YtgjicjmihlcgkaaRzTy
/-! A row's arguments as numbers. -/
namespace Go.Arr
theorem num_list (n : Nat) (xs : List Int) (hl : xs.length = n) (hb : ∀ x ∈ xs, 0 ≤ x ∧ x ≤ 255) : ∃ A : Int, (0 ≤ A ∧ A < 256 ^ n) ∧ arr .u8 n (dig 256 A) = (xs.map (Value.int .u8)).toArray := by
  have hg : ∀ j, j < n → 0 ≤ xs.getD j 0 ∧ xs.getD j 0 < 256 := by
    intro j hj
    have := hb (xs.getD j 0) (by rw [List.getD_eq_getElem?_getD, List.getElem?_eq_getElem (by omega)]; exact List.getElem_mem _)
    omega
  refine ⟨vB 256 (fun j => xs.getD j 0) n, vB_bd b_pos _ n hg, ?_⟩
  rw [← arr_num b_pos .u8 n _ hg, arr_list]
  congr 2
  apply List.ext_getElem
  · simp [hl]
  · intro i h1 h2
    simp [List.getD_eq_getElem?_getD, h2]
end Go.Arr
