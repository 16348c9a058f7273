import Derived.Test.YtgjicjmihlcgkaaRef5
import Derived.WalkKit
set_option linter.unusedSimpArgs false
namespace Go.Calm
theorem St.grown {w0 W W' : World} {L : List Blk} {row : Option Nat} (S : St w0 W L) (hg : W.grownBy W' row) (hr : ∀ k, row = some k → w0.heap.size ≤ k ∧ ∀ x ∈ L, x.b ≠ k) : St w0 W' L :=
  ⟨S.below.grown hg S.below.size (fun k hk => (hr k hk).1), S.own, S.nd, fun x hx => by
    rw [hg.block x.b (lt_of_heap (S.has x hx)) (fun e => (hr x.b e.symm).2 x hx rfl)]
    exact S.has x hx⟩
end Go.Calm
namespace Go.Proofs.Ytgjicjmihlcgkaa
open Go.RowKit
theorem own_row {w : World} {base : Nat} {e : TypeId} {size : Nat} {v : Value} {n : Nat} {xs : List Value} (h : w.ownsRow base e size v n xs) : ∀ k, v.ownBlock = some k → base ≤ k := by
  intro k hk
  rcases h.2 with ⟨rfl, _⟩ | ⟨g, cap, cur, rfl, hb, _⟩
  · cases hk
  · cases hk; exact hb
theorem own_weak {w : World} {base base' : Nat} {e : TypeId} {size : Nat} {v : Value} {n : Nat} {xs : List Value} (h : w.ownsRow base e size v n xs) (hb : base' ≤ base) : w.ownsRow base' e size v n xs := by
  refine ⟨h.1, ?_⟩
  rcases h.2 with h | ⟨g, cap, cur, h1, h2, h3⟩
  · exact .inl h
  · exact .inr ⟨g, cap, cur, h1, by omega, h3⟩
theorem info3 : (Try.prog.info? 3).map (fun i => (i.zero, i.size, i.bytes)) = some (some (.int .i64 0), 1, 8) := by kernel_rfl
def bit (E : Int) (j : Nat) : Int := E / 2 ^ j % 2
def bitL (E : Int) (k : Nat) : List Int := (List.range k).map (bit E)
theorem bitL_len (E : Int) (k : Nat) : (bitL E k).length = k := by simp [bitL]
theorem bitL_succ (E : Int) (k : Nat) : bitL E (k + 1) = bitL E k ++ [bit E k] := by simp [bitL, List.range_succ]
theorem wd1_key (X : Nat) (q r : Nat) (hr : r < 64) : (X / 2 ^ (64 * q) % 18446744073709551616) / 2 ^ r % 2 = X / 2 ^ (64 * q + r) % 2 := by
  have e2 : (18446744073709551616 : Nat) = 2 ^ r * (2 ^ (63 - r) * 2) := by
    rw [← Nat.mul_assoc, ← Nat.pow_add, show r + (63 - r) = 63 by omega]
  rw [Nat.pow_add, ← Nat.div_div_eq_div_mul]
  generalize X / 2 ^ (64 * q) = y
  rw [e2, Nat.mod_mul_right_div_self, Nat.mod_mul_left_mod]
theorem wd1_at (X : Int) (hX : Ok X) (q r : Nat) (hq : q < 4) (hr : r < 64) : ∃ x : Int, (feC X)[q]? = some (.int .u64 x) ∧ 0 ≤ x ∧ x < 18446744073709551616 ∧ Hid (x / 2 ^ r % 2 = bit X (64 * q + r)) := by
  unfold Ok at hX
  obtain ⟨Y, rfl⟩ := Int.eq_ofNat_of_zero_le hX.1
  have key := wd1_key Y q r hr
  have fin : ∀ x : Nat, x = Y / 2 ^ (64 * q) % 18446744073709551616 → Hid (((x : Nat) : Int) / 2 ^ r % 2 = bit (Y : Int) (64 * q + r)) := by
    intro x hx
    unfold Hid bit
    rw [hx]
    have h := congrArg (fun n : Nat => (n : Int)) key
    simp only [Int.natCast_emod, Int.natCast_ediv, Int.natCast_pow] at h ⊢
    exact h
  have c : q = 0 ∨ q = 1 ∨ q = 2 ∨ q = 3 := by omega
  rcases c with rfl | rfl | rfl | rfl
  · exact ⟨((Y % 18446744073709551616 : Nat) : Int), by rw [Int.natCast_emod]; rfl, by omega, by omega, fin _ (by rw [show 2 ^ (64 * 0) = 1 from rfl]; omega)⟩
  · exact ⟨((Y / 18446744073709551616 % 18446744073709551616 : Nat) : Int), by rw [Int.natCast_emod, Int.natCast_ediv]; rfl, by omega, by omega, fin _ rfl⟩
  · exact ⟨((Y / 340282366920938463463374607431768211456 % 18446744073709551616 : Nat) : Int), by rw [Int.natCast_emod, Int.natCast_ediv]; rfl, by omega, by omega, fin _ rfl⟩
  · exact ⟨((Y / 6277101735386680763835789423207666416102355444464034512896 % 18446744073709551616 : Nat) : Int), by rw [Int.natCast_emod, Int.natCast_ediv]; rfl, by omega, by omega, fin _ rfl⟩
end Go.Proofs.Ytgjicjmihlcgkaa
