import Derived.Test.YtgjicjmihlcgkaaArr
import Derived.Test.YtgjicjmihlcgkaaWord
import Derived.LoopTactic
import Derived.LoopN
import Derived.RegionTactic
import Derived.BigRegion
import Derived.Laws.NewBlocks
import Derived.Laws.ResultCell
import Derived.Outline
set_option linter.unusedSimpArgs false
/-! The types of layer 2, and digits of 64 bits against bytes and bits. -/
namespace Go.Arr
open Go.RowKit
theorem hide {p : Prop} (h : p) : Hid p := h
theorem rd_nat (N q r : Nat) (hr : r < 8) (MQ : Nat) (hM : MQ = 2 ^ (64 * q)) :
    N % 256 ^ (8 * q + r) = N % MQ + MQ * (N / MQ % 2 ^ (8 * r)) ∧ N % 256 ^ (8 * q + r + 1) = N % MQ + MQ * (N / MQ % 2 ^ (8 * r) + N / 256 ^ (8 * q + r) % 256 * 2 ^ (8 * r)) ∧ N / MQ % 2 ^ (8 * r) + N / 256 ^ (8 * q + r) % 256 * 2 ^ (8 * r) < 18446744073709551616 := by
  have e1 : (256 : Nat) ^ (8 * q + r) = MQ * 2 ^ (8 * r) := by
    rw [hM, show (256 : Nat) = 2 ^ 8 from rfl, ← Nat.pow_mul, ← Nat.pow_add]; congr 1; omega
  have e2 : (256 : Nat) ^ (8 * q + r + 1) = MQ * (2 ^ (8 * r) * 256) := by rw [Nat.pow_succ, e1, Nat.mul_assoc]
  have e3 : N / MQ % (2 ^ (8 * r) * 256) = N / MQ % 2 ^ (8 * r) + 2 ^ (8 * r) * (N / MQ / 2 ^ (8 * r) % 256) := Nat.mod_mul
  have e4 : N / MQ / 2 ^ (8 * r) = N / 256 ^ (8 * q + r) := by rw [e1, Nat.div_div_eq_div_mul]
  refine ⟨by rw [e1]; exact Nat.mod_mul, ?_, ?_⟩
  · rw [e2, Nat.mod_mul, e3, e4, Nat.mul_comm (2 ^ (8 * r)) (N / 256 ^ (8 * q + r) % 256)]
  · have hp : 0 < 2 ^ (8 * r) := Nat.two_pow_pos _
    have h1 : N / MQ % 2 ^ (8 * r) < 2 ^ (8 * r) := Nat.mod_lt _ hp
    have h2 : N / 256 ^ (8 * q + r) % 256 * 2 ^ (8 * r) ≤ 255 * 2 ^ (8 * r) := Nat.mul_le_mul_right _ (by omega)
    have h3 : (2 : Nat) ^ (8 * r) ≤ 2 ^ 56 := Nat.pow_le_pow_right (by omega) (by omega)
    omega
theorem m_pow (q : Nat) : (18446744073709551616 : Nat) ^ q = 2 ^ (64 * q) := by rw [Nat.pow_mul]
/-- One byte more is laid into a word. -/
theorem rd_step (n : Nat) (N : Int) (hN : 0 ≤ N) (k q r s : Nat) (hk : k = 8 * q + r) (hq : q < n) (hr : r < 8) (hs : s = 8 * r) :
    ∃ t z : Int, (arr .u64 n (dig 18446744073709551616 (N % 256 ^ k)))[q]? = some (.int .u64 t) ∧ 0 ≤ t ∧ t < 2 ^ s ∧ 0 ≤ z ∧ z < 18446744073709551616 ∧ t + z < 18446744073709551616 ∧ Hid (z = dig 256 N k * 2 ^ s) ∧ arr .u64 n (dig 18446744073709551616 (N % 256 ^ (k + 1))) = (arr .u64 n (dig 18446744073709551616 (N % 256 ^ k))).setIfInBounds q (.int .u64 (t + z)) := by
  obtain ⟨Y, rfl⟩ := Int.eq_ofNat_of_zero_le hN
  obtain ⟨t, ht⟩ : ∃ t : Nat, t = Y / 18446744073709551616 ^ q % 2 ^ (8 * r) := ⟨_, rfl⟩
  obtain ⟨z, hz⟩ : ∃ z : Nat, z = Y / 256 ^ (8 * q + r) % 256 * 2 ^ (8 * r) := ⟨_, rfl⟩
  obtain ⟨f1, f2, f3⟩ := rd_nat Y q r hr (18446744073709551616 ^ q) (m_pow q)
  rw [← ht] at f1 f2 f3
  rw [← hz] at f2 f3
  have ht2 : t < 2 ^ s := by rw [ht, hs]; exact Nat.mod_lt _ (Nat.two_pow_pos _)
  have c0 : ((Y % 18446744073709551616 ^ q : Nat) : Int) < (18446744073709551616 : Int) ^ q := by
    have h := Int.ofNat_lt.2 (Nat.mod_lt Y (Nat.pow_pos (n := q) (show 0 < 18446744073709551616 by omega)))
    rw [Int.natCast_pow] at h; exact h
  have c1 : ((Y : Int) % 256 ^ k) = ((Y % 18446744073709551616 ^ q : Nat) : Int) + 18446744073709551616 ^ q * (t : Int) := by
    have h : ((Y % 256 ^ k : Nat) : Int) = ((Y % 18446744073709551616 ^ q + 18446744073709551616 ^ q * t : Nat) : Int) := by rw [hk, f1]
    rw [Int.natCast_emod, Int.natCast_pow, Int.natCast_add, Int.natCast_mul, Int.natCast_pow] at h; exact h
  have c2 : ((Y : Int) % 256 ^ (k + 1)) = ((Y % 18446744073709551616 ^ q : Nat) : Int) + 18446744073709551616 ^ q * ((t : Int) + z) := by
    have h : ((Y % 256 ^ (k + 1) : Nat) : Int) = ((Y % 18446744073709551616 ^ q + 18446744073709551616 ^ q * (t + z) : Nat) : Int) := by rw [hk, f2]
    rw [Int.natCast_emod, Int.natCast_pow, Int.natCast_add, Int.natCast_mul, Int.natCast_pow, Int.natCast_add] at h; exact h
  have c3 : (z : Int) = dig 256 (Y : Int) k * 2 ^ s := by
    rw [hz, hk, hs]; unfold dig
    rw [Int.natCast_mul, Int.natCast_emod, Int.natCast_ediv, Int.natCast_pow, Int.natCast_pow]; rfl
  have c4 : (t : Int) < 2 ^ s := by
    have h := Int.ofNat_lt.2 ht2
    rw [Int.natCast_pow] at h; exact h
  have hM0 : (0 : Int) < 18446744073709551616 := by omega
  have d1 : ∀ j, dig 18446744073709551616 ((Y : Int) % 256 ^ k) j = if j < q then dig 18446744073709551616 ((Y % 18446744073709551616 ^ q : Nat) : Int) j else if j = q then (t : Int) else 0 := fun j => by rw [c1]; exact dig_top hM0 _ _ q j (by omega) c0 (by omega) (by omega)
  have d2 : ∀ j, dig 18446744073709551616 ((Y : Int) % 256 ^ (k + 1)) j = if j < q then dig 18446744073709551616 ((Y % 18446744073709551616 ^ q : Nat) : Int) j else if j = q then (t : Int) + z else 0 := fun j => by rw [c2]; exact dig_top hM0 _ _ q j (by omega) c0 (by omega) (by omega)
  refine ⟨t, z, ?_, by omega, c4, by omega, by omega, by omega, c3, ?_⟩
  · rw [arr_at _ _ _ q hq, d1 q, if_neg (by omega), if_pos rfl]
  · rw [← arr_set]
    refine arr_ext fun j _ => ?_
    by_cases e : j = q
    · subst e; rw [gset_eq, d2 j, if_neg (by omega), if_pos rfl]
    · rw [gset_ne _ _ _ e, d1 j, d2 j, if_neg e, if_neg e]
theorem or_add (t z d : Int) (s : Nat) (h0 : 0 ≤ t) (h1 : t < 2 ^ s) (hd : 0 ≤ d) (hz : z = d * 2 ^ s) (h2 : t + z < 18446744073709551616) (hz0 : 0 ≤ z) : bits .or .u64 t z = t + z := by
  obtain ⟨T, rfl⟩ := Int.eq_ofNat_of_zero_le h0
  obtain ⟨D, rfl⟩ := Int.eq_ofNat_of_zero_le hd
  have hT : T < 2 ^ s := by
    have h : (T : Int) < ((2 ^ s : Nat) : Int) := by rw [Int.natCast_pow]; exact h1
    exact Int.ofNat_lt.1 h
  have ez : z = ((2 ^ s * D : Nat) : Int) := by rw [hz, Int.natCast_mul, Int.natCast_pow, Int.mul_comm]; rfl
  subst ez
  have h := bits_or_u64_nat T (2 ^ s * D) (by omega) (by omega)
  rw [Nat.or_comm, ← Nat.two_pow_add_eq_or_of_lt hT D] at h
  rw [h]; omega
/-- Twice a word and a bit. -/
theorem or_bit (d t : Int) (h0 : 0 ≤ t) (h1 : t < 2) (hd : 0 ≤ d) (h2 : d * 2 < 18446744073709551616) : bits .or .u64 (d * 2) t = d * 2 + t := by
  obtain ⟨T, rfl⟩ := Int.eq_ofNat_of_zero_le h0
  obtain ⟨D, rfl⟩ := Int.eq_ofNat_of_zero_le hd
  have h := bits_or_u64_nat (2 ^ 1 * D) T (by omega) (by omega)
  rw [← Nat.two_pow_add_eq_or_of_lt (show T < 2 ^ 1 by omega) D] at h
  have e : ((D : Int) * 2) = ((2 ^ 1 * D : Nat) : Int) := by omega
  rw [e, h]; omega
theorem wd8 (X : Int) (hX : 0 ≤ X) (q r s : Nat) (hr : r < 8) (hs : s = 8 * r) : dig 18446744073709551616 X q / 2 ^ s % 256 = dig 256 X (8 * q + r) := by
  obtain ⟨Y, rfl⟩ := Int.eq_ofNat_of_zero_le hX
  have e1 : (256 : Nat) ^ (8 * q + r) = 18446744073709551616 ^ q * 2 ^ (8 * r) := by
    rw [m_pow, show (256 : Nat) = 2 ^ 8 from rfl, ← Nat.pow_mul, ← Nat.pow_add]; congr 1; omega
  have e2 : (18446744073709551616 : Nat) = 2 ^ (8 * r) * (2 ^ (56 - 8 * r) * 256) := by
    rw [← Nat.mul_assoc, ← Nat.pow_add, show 8 * r + (56 - 8 * r) = 56 by omega]
  have key : Y / 18446744073709551616 ^ q % 18446744073709551616 / 2 ^ (8 * r) % 256 = Y / 256 ^ (8 * q + r) % 256 := by
    rw [e1, ← Nat.div_div_eq_div_mul]
    generalize Y / 18446744073709551616 ^ q = y
    rw [e2, Nat.mod_mul_right_div_self, Nat.mod_mul_left_mod]
  have h := congrArg (fun n : Nat => (n : Int)) key
  unfold dig
  rw [hs]
  simp only [Int.natCast_emod, Int.natCast_ediv, Int.natCast_pow] at h ⊢
  exact h
theorem wd1 (X : Int) (hX : 0 ≤ X) (q r : Nat) (hr : r < 64) : dig 18446744073709551616 X q / 2 ^ r % 2 = X / 2 ^ (64 * q + r) % 2 := by
  obtain ⟨Y, rfl⟩ := Int.eq_ofNat_of_zero_le hX
  have e1 : (2 : Nat) ^ (64 * q + r) = 18446744073709551616 ^ q * 2 ^ r := by rw [m_pow, ← Nat.pow_add]
  have e2 : (18446744073709551616 : Nat) = 2 ^ r * (2 ^ (63 - r) * 2) := by
    rw [← Nat.mul_assoc, ← Nat.pow_add, ← Nat.pow_succ, show (r + (63 - r)).succ = 64 by omega]
  have key : Y / 18446744073709551616 ^ q % 18446744073709551616 / 2 ^ r % 2 = Y / 2 ^ (64 * q + r) % 2 := by
    rw [e1, ← Nat.div_div_eq_div_mul]
    generalize Y / 18446744073709551616 ^ q = y
    rw [e2, Nat.mod_mul_right_div_self, Nat.mod_mul_left_mod]
  have h := congrArg (fun n : Nat => (n : Int)) key
  unfold dig
  simp only [Int.natCast_emod, Int.natCast_ediv, Int.natCast_pow] at h ⊢
  exact h
/-- Four words written out. -/
theorem arr4 (g : Nat → Int) : arr .u64 4 g = #[.int .u64 (g 0), .int .u64 (g 1), .int .u64 (g 2), .int .u64 (g 3)] := rfl
theorem dig4 (x0 x1 x2 x3 n : Int) (h0 : 0 ≤ x0) (h0' : x0 < 18446744073709551616) (h1 : 0 ≤ x1) (h1' : x1 < 18446744073709551616) (h2 : 0 ≤ x2) (h2' : x2 < 18446744073709551616) (h3 : 0 ≤ x3) (h3' : x3 < 18446744073709551616) (h : n = x0 + 18446744073709551616 * x1 + 340282366920938463463374607431768211456 * x2 + 6277101735386680763835789423207666416102355444464034512896 * x3) :
    arr .u64 4 (dig 18446744073709551616 n) = #[.int .u64 x0, .int .u64 x1, .int .u64 x2, .int .u64 x3] := by
  rw [arr4]
  unfold dig
  rw [show (18446744073709551616 : Int) ^ 0 = 1 from rfl, show (18446744073709551616 : Int) ^ 1 = 18446744073709551616 from rfl, show (18446744073709551616 : Int) ^ 2 = 340282366920938463463374607431768211456 by decide, show (18446744073709551616 : Int) ^ 3 = 6277101735386680763835789423207666416102355444464034512896 by decide]
  rw [show n / 1 % 18446744073709551616 = x0 by omega, show n / 18446744073709551616 % 18446744073709551616 = x1 by omega, show n / 340282366920938463463374607431768211456 % 18446744073709551616 = x2 by omega, show n / 6277101735386680763835789423207666416102355444464034512896 % 18446744073709551616 = x3 by omega]
theorem words4 (X : Int) (h0 : 0 ≤ X) (h1 : X < 115792089237316195423570985008687907853269984665640564039457584007913129639936) : ∃ x0 x1 x2 x3 : Int, arr .u64 4 (dig 18446744073709551616 X) = #[.int .u64 x0, .int .u64 x1, .int .u64 x2, .int .u64 x3] ∧ 0 ≤ x0 ∧ x0 < 18446744073709551616 ∧ 0 ≤ x1 ∧ x1 < 18446744073709551616 ∧ 0 ≤ x2 ∧ x2 < 18446744073709551616 ∧ 0 ≤ x3 ∧ x3 < 18446744073709551616 ∧ X = x0 + 18446744073709551616 * x1 + 340282366920938463463374607431768211456 * x2 + 6277101735386680763835789423207666416102355444464034512896 * x3 :=
  ⟨X % 18446744073709551616, X / 18446744073709551616 % 18446744073709551616, X / 340282366920938463463374607431768211456 % 18446744073709551616, X / 6277101735386680763835789423207666416102355444464034512896 % 18446744073709551616, dig4 _ _ _ _ _ (by omega) (by omega) (by omega) (by omega) (by omega) (by omega) (by omega) (by omega) (by omega), by omega, by omega, by omega, by omega, by omega, by omega, by omega, by omega, by omega⟩
theorem m_4 : (18446744073709551616 : Int) ^ 4 = 115792089237316195423570985008687907853269984665640564039457584007913129639936 := by decide
theorem m_8 : (18446744073709551616 : Int) ^ 8 = 115792089237316195423570985008687907853269984665640564039457584007913129639936 * 115792089237316195423570985008687907853269984665640564039457584007913129639936 := by decide
theorem b_32 : (256 : Int) ^ 32 = 115792089237316195423570985008687907853269984665640564039457584007913129639936 := by decide
theorem b_64 : (256 : Int) ^ 64 = 115792089237316195423570985008687907853269984665640564039457584007913129639936 * 115792089237316195423570985008687907853269984665640564039457584007913129639936 := by decide
theorem M_pos : (0 : Int) < 18446744073709551616 := by omega
theorem b_pos : (0 : Int) < 256 := by omega
end Go.Arr
namespace Go.Proofs.Ytgjicjmihlcgkaa
open Go.RowKit Go.Arr
theorem o64 : Calm.OneT Try.prog 22 := ⟨⟨_, Try.underlying22, rfl⟩, by kernel_rfl⟩
theorem oU8 : Calm.OneT Try.prog 5 := ⟨⟨_, Try.underlying5, rfl⟩, by kernel_rfl⟩
theorem aggWd : Calm.AggT Try.prog 59 4 := ⟨⟨_, Try.underlying59, rfl⟩, by kernel_rfl⟩
theorem zeroWd : (Try.prog.info? 59).bind (·.zero) = some (.agg (arr .u64 4 fun _ => 0)) := by kernel_rfl
theorem aggWi : Calm.AggT Try.prog 60 8 := ⟨⟨_, Try.underlying60, rfl⟩, by kernel_rfl⟩
theorem zeroWi : (Try.prog.info? 60).bind (·.zero) = some (.agg (arr .u64 8 fun _ => 0)) := by kernel_rfl
theorem aggSc : Calm.AggT Try.prog 36 32 := ⟨⟨_, Try.underlying36, rfl⟩, by kernel_rfl⟩
theorem zeroSc : (Try.prog.info? 36).bind (·.zero) = some (.agg (arr .u8 32 fun _ => 0)) := by kernel_rfl
theorem aggB32 : Calm.AggT Try.prog 35 32 := ⟨⟨_, Try.underlying35, rfl⟩, by kernel_rfl⟩
theorem zeroB32 : (Try.prog.info? 35).bind (·.zero) = some (.agg (arr .u8 32 fun _ => 0)) := by kernel_rfl
theorem arrSc : Calm.ArrT Try.prog 36 32 .u8 := ⟨⟨_, Try.underlying36, Try.underlying5, by kernel_rfl⟩, by kernel_rfl⟩
/-- The order. -/
def el : Int := 7237005577332262213973186563042994240857116359379907606001950938285454250989
/-- A number below 2^256. -/
def Ok8 (n : Int) : Prop := 0 ≤ n ∧ n < 115792089237316195423570985008687907853269984665640564039457584007913129639936
theorem ok8_mod (n : Int) : Ok8 (n % el) := by unfold Ok8 el; omega
theorem dig_0 (B : Int) (n : Nat) (k : IntKind) : arr k n (dig B 0) = arr k n fun _ => 0 := arr_ext fun j _ => by unfold dig; simp
end Go.Proofs.Ytgjicjmihlcgkaa
