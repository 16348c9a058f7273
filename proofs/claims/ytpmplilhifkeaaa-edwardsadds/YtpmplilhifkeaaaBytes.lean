import Derived.Test.YtpmplilhifkeaaaKnown
set_option linter.unusedSimpArgs false
namespace Go.Proofs.Ytpmplilhifkeaaa
open Go.RowKit

/-- The k-th byte of a number. -/
def byt (n : Int) (k : Nat) : Int := n / 256 ^ k % 256
theorem byt_bd (n : Int) (k : Nat) : 0 ≤ byt n k ∧ byt n k < 256 := by unfold byt; omega
/-- 32 bytes, the first k of them a number's, the others 0. -/
def byK (n : Int) (k : Nat) : Array Value := ((List.range 32).map fun j => Value.int .u8 (if j < k then byt n j else 0)).toArray
def byC (n : Int) : Array Value := byK n 32
theorem byK_size (n : Int) (k : Nat) : (byK n k).size = 32 := by simp [byK]
theorem aggBy : Calm.AggT Try.prog 60 32 := ⟨⟨_, Try.underlying60, rfl⟩, by kernel_rfl⟩
theorem oneBy : Calm.OneT Try.prog 5 := ⟨⟨_, Try.underlying5, rfl⟩, by kernel_rfl⟩
theorem zeroBy : (Try.prog.info? 60).bind (·.zero) = some (.agg (byK 0 0)) := by kernel_rfl
theorem byK_0 (n m : Int) : byK n 0 = byK m 0 := by simp [byK]
theorem byK_one (n : Int) (k : Nat) : (byK n k).all (·.oneCell') = true := by simp [byK, Value.oneCell']
theorem byK_next (n : Int) (k : Nat) (v : Int) (hv : v = byt n k) : (byK n k).setIfInBounds k (.int .u8 v) = byK n (k + 1) := by
  subst hv
  unfold byK
  apply Array.ext
  · simp
  · intro i h1 h2
    rw [Array.getElem_setIfInBounds (by simpa using h1)]
    simp only [List.getElem_toArray, List.getElem_map, List.getElem_range]
    by_cases h : k = i
    · subst h; simp
    · rw [if_neg h]
      by_cases h3 : i < k
      · rw [if_pos h3, if_pos (by omega)]
      · rw [if_neg h3, if_neg (by omega)]

theorem wd8_key (X : Nat) (q r : Nat) (hr : r < 8) : (X / 2 ^ (64 * q) % 18446744073709551616) / 2 ^ (8 * r) % 256 = X / 256 ^ (8 * q + r) % 256 := by
  have e1 : (256 : Nat) ^ (8 * q + r) = 2 ^ (64 * q) * 2 ^ (8 * r) := by
    rw [show (256 : Nat) = 2 ^ 8 from rfl, ← Nat.pow_mul, ← Nat.pow_add]; congr 1; omega
  have e2 : (18446744073709551616 : Nat) = 2 ^ (8 * r) * (2 ^ (56 - 8 * r) * 256) := by
    rw [← Nat.mul_assoc, ← Nat.pow_add, show 8 * r + (56 - 8 * r) = 56 by omega]
  rw [e1, ← Nat.div_div_eq_div_mul]
  generalize X / 2 ^ (64 * q) = y
  rw [e2, Nat.mod_mul_right_div_self, Nat.mod_mul_left_mod]
theorem wd8_at (X : Int) (hX : Ok X) (q r s : Nat) (hq : q < 4) (hr : r < 8) (hs : s = 8 * r) : ∃ x : Int, (feC X)[q]? = some (.int .u64 x) ∧ 0 ≤ x ∧ x < 18446744073709551616 ∧ Hid (x / 2 ^ s % 256 = byt X (8 * q + r)) := by
  unfold Ok at hX
  obtain ⟨Y, rfl⟩ := Int.eq_ofNat_of_zero_le hX.1
  have key := wd8_key Y q r hr
  have fin : ∀ x : Nat, x = Y / 2 ^ (64 * q) % 18446744073709551616 → Hid (((x : Nat) : Int) / 2 ^ s % 256 = byt (Y : Int) (8 * q + r)) := by
    intro x hx
    unfold Hid byt
    rw [hs, hx]
    have h := congrArg (fun n : Nat => (n : Int)) key
    simp only [Int.natCast_emod, Int.natCast_ediv, Int.natCast_pow] at h ⊢
    exact h
  have c : q = 0 ∨ q = 1 ∨ q = 2 ∨ q = 3 := by omega
  rcases c with rfl | rfl | rfl | rfl
  · exact ⟨((Y % 18446744073709551616 : Nat) : Int), by rw [Int.natCast_emod]; rfl, by omega, by omega, fin _ (by rw [show 2 ^ (64 * 0) = 1 from rfl]; omega)⟩
  · exact ⟨((Y / 18446744073709551616 % 18446744073709551616 : Nat) : Int), by rw [Int.natCast_emod, Int.natCast_ediv]; rfl, by omega, by omega, fin _ rfl⟩
  · exact ⟨((Y / 340282366920938463463374607431768211456 % 18446744073709551616 : Nat) : Int), by rw [Int.natCast_emod, Int.natCast_ediv]; rfl, by omega, by omega, fin _ rfl⟩
  · exact ⟨((Y / 6277101735386680763835789423207666416102355444464034512896 % 18446744073709551616 : Nat) : Int), by rw [Int.natCast_emod, Int.natCast_ediv]; rfl, by omega, by omega, fin _ rfl⟩

end Go.Proofs.Ytpmplilhifkeaaa
