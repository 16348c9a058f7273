import Derived.Test.YtpmplilhifkeaaaBytes
import Derived.Test.YtpmplilhifkeaaaSchAll
set_option linter.unusedSimpArgs false
namespace Go.Proofs.Ytpmplilhifkeaaa
open Go.RowKit

theorem set_q0 (a b c d x : Value) : (#[a, b, c, d] : Array Value).setIfInBounds 0 x = #[x, b, c, d] := rfl
theorem set_q1 (a b c d x : Value) : (#[a, b, c, d] : Array Value).setIfInBounds 1 x = #[a, x, c, d] := rfl
theorem set_q2 (a b c d x : Value) : (#[a, b, c, d] : Array Value).setIfInBounds 2 x = #[a, b, x, d] := rfl
theorem set_q3 (a b c d x : Value) : (#[a, b, c, d] : Array Value).setIfInBounds 3 x = #[a, b, c, x] := rfl
/-- A number's lower bytes, and one more. -/
theorem hi0 (t z : Int) (h0 : 0 ≤ t) (h1 : 0 ≤ z) (h2 : t + z < 18446744073709551616) : (feC t)[0]? = some (.int .u64 t) ∧ (feC t).setIfInBounds 0 (.int .u64 (t + z)) = feC (t + z) := by
  rw [feC_of t 0 0 0 t h0 (by omega) (by omega) (by omega) (by omega) (by omega) (by omega) (by omega) (by omega), set_q0, feC_of (t + z) 0 0 0 (t + z) (by omega) (by omega) (by omega) (by omega) (by omega) (by omega) (by omega) (by omega) (by omega)]
  exact ⟨rfl, rfl⟩
theorem hi1 (a t z : Int) (ha : 0 ≤ a) (ha' : a < 18446744073709551616) (h0 : 0 ≤ t) (h1 : 0 ≤ z) (h2 : t + z < 18446744073709551616) : (feC (a + 18446744073709551616 * t))[1]? = some (.int .u64 t) ∧ (feC (a + 18446744073709551616 * t)).setIfInBounds 1 (.int .u64 (t + z)) = feC (a + 18446744073709551616 * (t + z)) := by
  rw [feC_of a t 0 0 (a + 18446744073709551616 * t) ha ha' h0 (by omega) (by omega) (by omega) (by omega) (by omega) (by omega), set_q1, feC_of a (t + z) 0 0 (a + 18446744073709551616 * (t + z)) ha ha' (by omega) (by omega) (by omega) (by omega) (by omega) (by omega) (by omega)]
  exact ⟨rfl, rfl⟩
theorem hi2 (a t z : Int) (ha : 0 ≤ a) (ha' : a < 340282366920938463463374607431768211456) (h0 : 0 ≤ t) (h1 : 0 ≤ z) (h2 : t + z < 18446744073709551616) : (feC (a + 340282366920938463463374607431768211456 * t))[2]? = some (.int .u64 t) ∧ (feC (a + 340282366920938463463374607431768211456 * t)).setIfInBounds 2 (.int .u64 (t + z)) = feC (a + 340282366920938463463374607431768211456 * (t + z)) := by
  rw [feC_of (a % 18446744073709551616) (a / 18446744073709551616) t 0 (a + 340282366920938463463374607431768211456 * t) (by omega) (by omega) (by omega) (by omega) h0 (by omega) (by omega) (by omega) (by omega), set_q2, feC_of (a % 18446744073709551616) (a / 18446744073709551616) (t + z) 0 (a + 340282366920938463463374607431768211456 * (t + z)) (by omega) (by omega) (by omega) (by omega) (by omega) (by omega) (by omega) (by omega) (by omega)]
  exact ⟨rfl, rfl⟩
theorem hi3 (a t z : Int) (ha : 0 ≤ a) (ha' : a < 6277101735386680763835789423207666416102355444464034512896) (h0 : 0 ≤ t) (h1 : 0 ≤ z) (h2 : t + z < 18446744073709551616) : (feC (a + 6277101735386680763835789423207666416102355444464034512896 * t))[3]? = some (.int .u64 t) ∧ (feC (a + 6277101735386680763835789423207666416102355444464034512896 * t)).setIfInBounds 3 (.int .u64 (t + z)) = feC (a + 6277101735386680763835789423207666416102355444464034512896 * (t + z)) := by
  rw [feC_of (a % 18446744073709551616) (a / 18446744073709551616 % 18446744073709551616) (a / 340282366920938463463374607431768211456) t (a + 6277101735386680763835789423207666416102355444464034512896 * t) (by omega) (by omega) (by omega) (by omega) (by omega) (by omega) h0 (by omega) (by omega), set_q3, feC_of (a % 18446744073709551616) (a / 18446744073709551616 % 18446744073709551616) (a / 340282366920938463463374607431768211456) (t + z) (a + 6277101735386680763835789423207666416102355444464034512896 * (t + z)) (by omega) (by omega) (by omega) (by omega) (by omega) (by omega) (by omega) (by omega) (by omega)]
  exact ⟨rfl, rfl⟩

theorem rd_nat (N q r : Nat) (hr : r < 8) (MQ : Nat) (hM : MQ = 2 ^ (64 * q)) :
    N % 256 ^ (8 * q + r) = N % MQ + MQ * (N / MQ % 2 ^ (8 * r)) ∧ N % 256 ^ (8 * q + r + 1) = N % MQ + MQ * (N / MQ % 2 ^ (8 * r) + N / 256 ^ (8 * q + r) % 256 * 2 ^ (8 * r)) ∧ N / MQ % 2 ^ (8 * r) + N / 256 ^ (8 * q + r) % 256 * 2 ^ (8 * r) < 18446744073709551616 := by
  have e1 : (256 : Nat) ^ (8 * q + r) = MQ * 2 ^ (8 * r) := by
    rw [hM, show (256 : Nat) = 2 ^ 8 from rfl, ← Nat.pow_mul, ← Nat.pow_add]; congr 1; omega
  have e2 : (256 : Nat) ^ (8 * q + r + 1) = MQ * (2 ^ (8 * r) * 256) := by rw [Nat.pow_succ, e1, Nat.mul_assoc]
  have e3 : N / MQ % (2 ^ (8 * r) * 256) = N / MQ % 2 ^ (8 * r) + 2 ^ (8 * r) * (N / MQ / 2 ^ (8 * r) % 256) := Nat.mod_mul
  have e4 : N / MQ / 2 ^ (8 * r) = N / 256 ^ (8 * q + r) := by rw [e1, Nat.div_div_eq_div_mul]
  refine ⟨by rw [e1]; exact Nat.mod_mul, ?_, ?_⟩
  · rw [e2, Nat.mod_mul, e3, e4, Nat.mul_comm (2 ^ (8 * r)) (N / 256 ^ (8 * q + r) % 256)]
  · have hp : 0 < 2 ^ (8 * r) := Nat.two_pow_pos _
    have h1 : N / MQ % 2 ^ (8 * r) < 2 ^ (8 * r) := Nat.mod_lt _ hp
    have h2 : N / 256 ^ (8 * q + r) % 256 * 2 ^ (8 * r) ≤ 255 * 2 ^ (8 * r) := Nat.mul_le_mul_right _ (by omega)
    have h3 : (2 : Nat) ^ (8 * r) ≤ 2 ^ 56 := Nat.pow_le_pow_right (by omega) (by omega)
    omega

theorem rd_step (N : Int) (hN : Ok N) (k q r s : Nat) (hk : k = 8 * q + r) (hq : q < 4) (hr : r < 8) (hs : s = 8 * r) :
    ∃ t z : Int, (feC (N % 256 ^ k))[q]? = some (.int .u64 t) ∧ 0 ≤ t ∧ t < 2 ^ s ∧ 0 ≤ z ∧ z < 18446744073709551616 ∧ t + z < 18446744073709551616 ∧ Hid (z = byt N k * 2 ^ s) ∧ (feC (N % 256 ^ k)).setIfInBounds q (.int .u64 (t + z)) = feC (N % 256 ^ (k + 1)) := by
  unfold Ok at hN
  obtain ⟨Y, rfl⟩ := Int.eq_ofNat_of_zero_le hN.1
  have hYb : Y < 115792089237316195423570985008687907853269984665640564039457584007913129639936 := by omega
  obtain ⟨t, ht⟩ : ∃ t : Nat, t = Y / 2 ^ (64 * q) % 2 ^ (8 * r) := ⟨_, rfl⟩
  obtain ⟨z, hz⟩ : ∃ z : Nat, z = Y / 256 ^ (8 * q + r) % 256 * 2 ^ (8 * r) := ⟨_, rfl⟩
  obtain ⟨f1, f2, f3⟩ := rd_nat Y q r hr (2 ^ (64 * q)) rfl
  rw [← ht] at f1 f2 f3
  rw [← hz] at f2 f3
  have ht2 : t < 2 ^ s := by rw [ht, hs]; exact Nat.mod_lt _ (Nat.two_pow_pos _)
  have c1 : ((Y : Int) % 256 ^ k) = ((Y % 2 ^ (64 * q) + 2 ^ (64 * q) * t : Nat) : Int) := by rw [← f1, hk, Int.natCast_emod, Int.natCast_pow]; rfl
  have c2 : ((Y : Int) % 256 ^ (k + 1)) = ((Y % 2 ^ (64 * q) + 2 ^ (64 * q) * (t + z) : Nat) : Int) := by rw [← f2, hk, Int.natCast_emod, Int.natCast_pow]; rfl
  have c3 : (z : Int) = byt (Y : Int) k * 2 ^ s := by
    rw [hz, hk, hs]; unfold byt
    rw [Int.natCast_mul, Int.natCast_emod, Int.natCast_ediv, Int.natCast_pow, Int.natCast_pow]; rfl
  have c4 : (t : Int) < 2 ^ s := by
    have h := Int.ofNat_lt.2 ht2
    rw [Int.natCast_pow] at h; exact h
  rw [c1, c2]
  refine ⟨t, z, ?_, by omega, c4, by omega, by omega, by omega, c3, ?_⟩
  all_goals
    have c : q = 0 ∨ q = 1 ∨ q = 2 ∨ q = 3 := by omega
    rcases c with rfl | rfl | rfl | rfl
  · rw [show ((Y % 2 ^ (64 * 0) + 2 ^ (64 * 0) * t : Nat) : Int) = (t : Int) from by rw [show 2 ^ (64 * 0) = 1 from rfl]; omega]
    exact (hi0 t z (by omega) (by omega) (by omega)).1
  · rw [show ((Y % 2 ^ (64 * 1) + 2 ^ (64 * 1) * t : Nat) : Int) = ((Y % 18446744073709551616 : Nat) : Int) + 18446744073709551616 * (t : Int) from by rw [show 2 ^ (64 * 1) = 18446744073709551616 from rfl]; omega]
    exact (hi1 _ t z (by omega) (by omega) (by omega) (by omega) (by omega)).1
  · rw [show ((Y % 2 ^ (64 * 2) + 2 ^ (64 * 2) * t : Nat) : Int) = ((Y % 340282366920938463463374607431768211456 : Nat) : Int) + 340282366920938463463374607431768211456 * (t : Int) from by rw [show 2 ^ (64 * 2) = 340282366920938463463374607431768211456 from rfl]; omega]
    exact (hi2 _ t z (by omega) (by omega) (by omega) (by omega) (by omega)).1
  · rw [show ((Y % 2 ^ (64 * 3) + 2 ^ (64 * 3) * t : Nat) : Int) = ((Y % 6277101735386680763835789423207666416102355444464034512896 : Nat) : Int) + 6277101735386680763835789423207666416102355444464034512896 * (t : Int) from by rw [show 2 ^ (64 * 3) = 6277101735386680763835789423207666416102355444464034512896 from rfl]; omega]
    exact (hi3 _ t z (by omega) (by omega) (by omega) (by omega) (by omega)).1
  · rw [show ((Y % 2 ^ (64 * 0) + 2 ^ (64 * 0) * t : Nat) : Int) = (t : Int) from by rw [show 2 ^ (64 * 0) = 1 from rfl]; omega, show ((Y % 2 ^ (64 * 0) + 2 ^ (64 * 0) * (t + z) : Nat) : Int) = (t : Int) + z from by rw [show 2 ^ (64 * 0) = 1 from rfl]; omega]
    exact (hi0 t z (by omega) (by omega) (by omega)).2
  · rw [show ((Y % 2 ^ (64 * 1) + 2 ^ (64 * 1) * t : Nat) : Int) = ((Y % 18446744073709551616 : Nat) : Int) + 18446744073709551616 * (t : Int) from by rw [show 2 ^ (64 * 1) = 18446744073709551616 from rfl]; omega, show ((Y % 2 ^ (64 * 1) + 2 ^ (64 * 1) * (t + z) : Nat) : Int) = ((Y % 18446744073709551616 : Nat) : Int) + 18446744073709551616 * ((t : Int) + z) from by rw [show 2 ^ (64 * 1) = 18446744073709551616 from rfl]; omega]
    exact (hi1 _ t z (by omega) (by omega) (by omega) (by omega) (by omega)).2
  · rw [show ((Y % 2 ^ (64 * 2) + 2 ^ (64 * 2) * t : Nat) : Int) = ((Y % 340282366920938463463374607431768211456 : Nat) : Int) + 340282366920938463463374607431768211456 * (t : Int) from by rw [show 2 ^ (64 * 2) = 340282366920938463463374607431768211456 from rfl]; omega, show ((Y % 2 ^ (64 * 2) + 2 ^ (64 * 2) * (t + z) : Nat) : Int) = ((Y % 340282366920938463463374607431768211456 : Nat) : Int) + 340282366920938463463374607431768211456 * ((t : Int) + z) from by rw [show 2 ^ (64 * 2) = 340282366920938463463374607431768211456 from rfl]; omega]
    exact (hi2 _ t z (by omega) (by omega) (by omega) (by omega) (by omega)).2
  · rw [show ((Y % 2 ^ (64 * 3) + 2 ^ (64 * 3) * t : Nat) : Int) = ((Y % 6277101735386680763835789423207666416102355444464034512896 : Nat) : Int) + 6277101735386680763835789423207666416102355444464034512896 * (t : Int) from by rw [show 2 ^ (64 * 3) = 6277101735386680763835789423207666416102355444464034512896 from rfl]; omega, show ((Y % 2 ^ (64 * 3) + 2 ^ (64 * 3) * (t + z) : Nat) : Int) = ((Y % 6277101735386680763835789423207666416102355444464034512896 : Nat) : Int) + 6277101735386680763835789423207666416102355444464034512896 * ((t : Int) + z) from by rw [show 2 ^ (64 * 3) = 6277101735386680763835789423207666416102355444464034512896 from rfl]; omega]
    exact (hi3 _ t z (by omega) (by omega) (by omega) (by omega) (by omega)).2

theorem or_add (t z d : Int) (s : Nat) (h0 : 0 ≤ t) (h1 : t < 2 ^ s) (hd : 0 ≤ d) (hz : z = d * 2 ^ s) (h2 : t + z < 18446744073709551616) (hz0 : 0 ≤ z) : bits .or .u64 t z = t + z := by
  obtain ⟨T, rfl⟩ := Int.eq_ofNat_of_zero_le h0
  obtain ⟨D, rfl⟩ := Int.eq_ofNat_of_zero_le hd
  have hT : T < 2 ^ s := by
    have h : (T : Int) < ((2 ^ s : Nat) : Int) := by rw [Int.natCast_pow]; exact h1
    exact Int.ofNat_lt.1 h
  have ez : z = ((2 ^ s * D : Nat) : Int) := by rw [hz, Int.natCast_mul, Int.natCast_pow, Int.mul_comm]; rfl
  subst ez
  have h := bits_or_u64_nat T (2 ^ s * D) (by omega) (by omega)
  rw [Nat.or_comm, ← Nat.two_pow_add_eq_or_of_lt hT D] at h
  rw [h]; omega
theorem byC_at (N : Int) (k : Nat) (hk : k < 32) : (byC N)[k]? = some (.int .u8 (byt N k)) := by
  unfold byC byK
  simp [hk]
theorem ok_mod256 (N : Int) (hN : Ok N) (k : Nat) : Ok (N % 256 ^ k) := by
  unfold Ok at *
  obtain ⟨Y, rfl⟩ := Int.eq_ofNat_of_zero_le hN.1
  have e : ((Y : Int) % 256 ^ k) = ((Y % 256 ^ k : Nat) : Int) := by rw [Int.natCast_emod, Int.natCast_pow]; rfl
  rw [e]
  have := Nat.mod_le Y (256 ^ k)
  omega

end Go.Proofs.Ytpmplilhifkeaaa
