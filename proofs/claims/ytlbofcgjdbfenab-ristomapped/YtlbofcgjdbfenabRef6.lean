import Derived.Test.YtlbofcgjdbfenabRefAll
import Derived.Test.YtlbofcgjdbfenabRead
set_option linter.unusedSimpArgs false
namespace Go.Proofs.Ytlbofcgjdbfenab
open Go.RowKit
theorem by4_key (X : Nat) (q r : Nat) (hr : r < 4) : (X / 4294967296 ^ q % 4294967296) / 256 ^ r % 256 = X / 256 ^ (4 * q + r) % 256 := by
  have e1 : (256 : Nat) ^ (4 * q + r) = 4294967296 ^ q * 256 ^ r := by
    rw [Nat.pow_add, Nat.pow_mul]
  have e2 : (4294967296 : Nat) = 256 ^ r * (256 ^ (3 - r) * 256) := by
    rw [← Nat.mul_assoc, ← Nat.pow_add, show r + (3 - r) = 3 by omega]
  rw [e1, ← Nat.div_div_eq_div_mul]
  generalize X / 4294967296 ^ q = y
  have h := Nat.mod_mul_right_div_self y (256 ^ r) (256 ^ (3 - r) * 256)
  rw [← e2] at h
  rw [h, Nat.mod_mul_left_mod]
theorem by4 (n : Int) (hn : 0 ≤ n) (q r : Nat) (hr : r < 4) : nuG n q / 256 ^ r % 256 = byt n (4 * q + r) := by
  obtain ⟨X, rfl⟩ := Int.eq_ofNat_of_zero_le hn
  have h := congrArg (fun n : Nat => (n : Int)) (by4_key X q r hr)
  unfold nuG byt
  simp only [Int.natCast_emod, Int.natCast_ediv, Int.natCast_pow] at h ⊢
  exact h
/-- The q-th digit when the bytes from k on have been read. -/
def tb (n : Int) (k q : Nat) : Int := nuG n q / 256 ^ (k - 4 * q)
theorem p256 (k : Nat) : (0 : Int) < 256 ^ k := Int.pow_pos (by omega)
theorem tb_bd (n : Int) (k q : Nat) : 0 ≤ tb n k q ∧ tb n k q < 4294967296 := by
  have hb := nuG_bd n q
  have hp := p256 (k - 4 * q)
  exact ⟨Int.ediv_nonneg hb.1 (by omega), Int.lt_of_le_of_lt (Int.ediv_le_self _ hb.1) hb.2⟩
theorem tb_step (n : Int) (hn : 0 ≤ n) (m q : Nat) (hq : q = m / 4) : 256 * tb n (m + 1) q + byt n m = tb n m q := by
  obtain ⟨r, hr⟩ : ∃ r, r = m - 4 * q := ⟨_, rfl⟩
  have h := by4 n hn q r (by omega)
  unfold tb
  rw [show m = 4 * q + r by omega, ← h, show 4 * q + r + 1 - 4 * q = r + 1 by omega, show 4 * q + r - 4 * q = r by omega, Int.pow_succ]
  have hp := p256 r
  rw [← Int.ediv_ediv_of_nonneg (by omega)]
  generalize nuG n q / 256 ^ r = z
  omega
theorem tb_same (n : Int) (m q : Nat) (hne : q ≠ m / 4) : tb n (m + 1) q = tb n m q := by
  unfold tb
  rcases Nat.lt_or_ge (4 * q) m with h | h
  · have h1 : 4 * q + 4 ≤ m := by omega
    have hb := nuG_bd n q
    generalize nuG n q = y at *
    have key : ∀ d, 4 ≤ d → y / (256 : Int) ^ d = 0 := by
      intro d hd
      refine Int.ediv_eq_zero_of_lt hb.1 (Int.lt_of_lt_of_le hb.2 ?_)
      obtain ⟨e, rfl⟩ : ∃ e, d = 4 + e := ⟨d - 4, by omega⟩
      rw [Int.pow_add]
      have := p256 e
      show 4294967296 ≤ 4294967296 * (256 : Int) ^ e
      omega
    rw [key _ (by omega), key _ (by omega)]
  · rw [show m + 1 - 4 * q = 0 by omega, show m - 4 * q = 0 by omega]
theorem tb_32 (n : Int) (q : Nat) (hq : q < 8) : tb n 32 q = 0 := by
  unfold tb
  have hb := nuG_bd n q
  refine Int.ediv_eq_zero_of_lt hb.1 (Int.lt_of_lt_of_le hb.2 ?_)
  obtain ⟨e, he⟩ : ∃ e, 32 - 4 * q = 4 + e := ⟨32 - 4 * q - 4, by omega⟩
  rw [he, Int.pow_add]
  have := p256 e
  show 4294967296 ≤ 4294967296 * (256 : Int) ^ e
  omega
theorem tb_0 (n : Int) (q : Nat) : tb n 0 q = nuG n q := by unfold tb; simp
theorem ret_tupleN {a : Act} {w0 W : World} {L : List Calm.Blk} (S : Calm.St w0 W L) {fn : Func} {p q : Tmp} {ty : TypeId} {b : Nat} {cs : Array Value} {t : TypeId} {k : Nat} {v : Value} {qq : Ending → World → Prop} (hr : fn.results = #[.cell p ty, .tmp q]) (hp : a.tmps.getD p undef = .pointer (some ⟨b, 0, none⟩)) (hm : ⟨b, cs, t⟩ ∈ L)
    (T : Calm.AggT Try.prog ty k) (hk : k = cs.size) (hq : a.tmps.getD q undef = v) (hdf : a.defers = [])
    (h : qq (.returned (.tuple #[.agg cs, v])) W) : bodyPost Try.prog fn qq .ret a W := ret_tuple S hr hp hm T hk hq hdf h
end Go.Proofs.Ytlbofcgjdbfenab
