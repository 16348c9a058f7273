/-
  limb.timesPlus, limb.plusWord, limb.settle: contracts.
-/
import Derived.Test.YtbjllhcjbblojaaZRSardWord
import Derived.Laws.ResultCell
import Derived.Outline
import Derived.Test.YtbjllhcjbblojaaZRSardMem
namespace Go.Proofs.Ytbjllhcjbblojaa
open Go.RowKit

theorem hide {p : Prop} (h : p) : Hid p := h


theorem tp_math (ab c d hi lo : Int) (hc : 0 ≤ c) (hc' : c < 18446744073709551616) (hd : 0 ≤ d) (hd' : d < 18446744073709551616) (hm : ab ≤ 18446744073709551615 * 18446744073709551615) (h0 : 0 ≤ hi) (h0' : hi < 18446744073709551616) (h1 : 0 ≤ lo) (h1' : lo < 18446744073709551616) (H : lo + 18446744073709551616 * hi = ab) :
    0 ≤ (lo + c + d) % 18446744073709551616 ∧ (lo + c + d) % 18446744073709551616 < 18446744073709551616 ∧ 0 ≤ IntKind.u64.wrap (IntKind.u64.wrap (hi + (lo + c) / 18446744073709551616) + ((lo + c) % 18446744073709551616 + d) / 18446744073709551616) ∧ IntKind.u64.wrap (IntKind.u64.wrap (hi + (lo + c) / 18446744073709551616) + ((lo + c) % 18446744073709551616 + d) / 18446744073709551616) < 18446744073709551616 ∧
    (lo + c + d) % 18446744073709551616 + 18446744073709551616 * IntKind.u64.wrap (IntKind.u64.wrap (hi + (lo + c) / 18446744073709551616) + ((lo + c) % 18446744073709551616 + d) / 18446744073709551616) = ab + c + d := by
  rw [IntKind.wrap_u64, IntKind.wrap_u64]
  refine ⟨by omega, by omega, by omega, by omega, by omega⟩

set_option maxHeartbeats 400000 in
theorem timesPlus_any (a b c d : Int) (ha : 0 ≤ a) (ha' : a < 18446744073709551616) (hb : 0 ≤ b) (hb' : b < 18446744073709551616) (hc : 0 ≤ c) (hc' : c < 18446744073709551616) (hd : 0 ≤ d) (hd' : d < 18446744073709551616) (w : World) :
    Calls Try.prog 84 #[.int .u64 a, .int .u64 b, .int .u64 c, .int .u64 d] w fun e w' => ∃ lo hi : Int, e = .returned (.tuple #[.int .u64 lo, .int .u64 hi]) ∧ w' = w ∧ 0 ≤ lo ∧ lo < 18446744073709551616 ∧ 0 ≤ hi ∧ hi < 18446744073709551616 ∧ Hid (lo + 18446744073709551616 * hi = a * b + c + d) := by
  have hm : a * b ≤ 18446744073709551615 * 18446744073709551615 := Int.mul_le_mul (by omega) (by omega) (by omega) (by omega)
  have Hm : Hid (a * b ≤ 18446744073709551615 * 18446744073709551615) := hm
  clear hm
  go_enter Try.func84, Try.ntmps84
  go_wp2_with fail
  refine (mul64 a b ha ha' hb hb' _).mono ?_
  rintro e w' ⟨hi, lo, rfl, rfl, h0, h0', h1, h1', H⟩
  have k0 : 0 ≤ (lo + c) % 18446744073709551616 := by omega
  go_wp2_with (first | simp only [add64_0 lo c h1 hc] | simp only [add64_0 _ d k0 hd])
  go_ret2
  obtain ⟨p1, p2, p3, p4, p5⟩ := tp_math (a * b) c d hi lo hc hc' hd hd' Hm.out h0 h0' h1 h1' H.out
  exact ⟨_, _, rfl, rfl, p1, p2, p3, p4, p5⟩

theorem pw_math (a b c d n : Int) (ha : 0 ≤ a) (ha' : a < 18446744073709551616) (hb : 0 ≤ b) (hb' : b < 18446744073709551616) (hc : 0 ≤ c) (hc' : c < 18446744073709551616) (hd : 0 ≤ d) (hn : 0 ≤ n) (hn' : n < 18446744073709551616) (hs : a + 18446744073709551616 * b + 340282366920938463463374607431768211456 * c + 6277101735386680763835789423207666416102355444464034512896 * d + n < 115792089237316195423570985008687907853269984665640564039457584007913129639936) :
    (a + n) % 18446744073709551616 + 18446744073709551616 * ((b + (a + n) / 18446744073709551616) % 18446744073709551616) + 340282366920938463463374607431768211456 * ((c + (b + (a + n) / 18446744073709551616) / 18446744073709551616) % 18446744073709551616) + 6277101735386680763835789423207666416102355444464034512896 * IntKind.u64.wrap (d + (c + (b + (a + n) / 18446744073709551616) / 18446744073709551616) / 18446744073709551616) = a + 18446744073709551616 * b + 340282366920938463463374607431768211456 * c + 6277101735386680763835789423207666416102355444464034512896 * d + n ∧
    0 ≤ IntKind.u64.wrap (d + (c + (b + (a + n) / 18446744073709551616) / 18446744073709551616) / 18446744073709551616) ∧ IntKind.u64.wrap (d + (c + (b + (a + n) / 18446744073709551616) / 18446744073709551616) / 18446744073709551616) < 18446744073709551616 := by
  rw [IntKind.wrap_u64]
  refine ⟨by omega, by omega, by omega⟩

set_option maxHeartbeats 400000 in
theorem plusWord_any (a b c d n : Int) (ha : 0 ≤ a) (ha' : a < 18446744073709551616) (hb : 0 ≤ b) (hb' : b < 18446744073709551616) (hc : 0 ≤ c) (hc' : c < 18446744073709551616) (hd : 0 ≤ d) (hn : 0 ≤ n) (hn' : n < 18446744073709551616) (hs : a + 18446744073709551616 * b + 340282366920938463463374607431768211456 * c + 6277101735386680763835789423207666416102355444464034512896 * d + n < 115792089237316195423570985008687907853269984665640564039457584007913129639936) (w : World) :
    Calls Try.prog 103 #[.int .u64 a, .int .u64 b, .int .u64 c, .int .u64 d, .int .u64 n] w fun e w' => ∃ v0 v1 v2 v3 : Int, e = .returned (.tuple #[.int .u64 v0, .int .u64 v1, .int .u64 v2, .int .u64 v3]) ∧ w' = w ∧ 0 ≤ v0 ∧ v0 < 18446744073709551616 ∧ 0 ≤ v1 ∧ v1 < 18446744073709551616 ∧ 0 ≤ v2 ∧ v2 < 18446744073709551616 ∧ 0 ≤ v3 ∧ v3 < 18446744073709551616 ∧ Hid (v0 + 18446744073709551616 * v1 + 340282366920938463463374607431768211456 * v2 + 6277101735386680763835789423207666416102355444464034512896 * v3 = a + 18446744073709551616 * b + 340282366920938463463374607431768211456 * c + 6277101735386680763835789423207666416102355444464034512896 * d + n) := by
  have k0 : 0 ≤ (a + n) / 18446744073709551616 := by omega
  have k1 : 0 ≤ (b + (a + n) / 18446744073709551616) / 18446744073709551616 := by omega
  have Hs : Hid (a + 18446744073709551616 * b + 340282366920938463463374607431768211456 * c + 6277101735386680763835789423207666416102355444464034512896 * d + n < 115792089237316195423570985008687907853269984665640564039457584007913129639936) := hs
  clear hs
  go_enter Try.func103, Try.ntmps103
  go_wp2_with (first | simp only [add64_0 a n ha hn] | simp only [add64_0 b _ hb k0] | simp only [add64_0 c _ hc k1])
  obtain ⟨p1, p2, p3⟩ := pw_math a b c d n ha ha' hb hb' hc hc' hd hn hn' Hs.out
  refine bodyPost_ret (v := .tuple #[.int .u64 ((a + n) % 18446744073709551616), .int .u64 ((b + (a + n) / 18446744073709551616) % 18446744073709551616), .int .u64 ((c + (b + (a + n) / 18446744073709551616) / 18446744073709551616) % 18446744073709551616), .int .u64 (IntKind.u64.wrap (d + (c + (b + (a + n) / 18446744073709551616) / 18446744073709551616) / 18446744073709551616))]) (by simp [results, Try.results103, go_sem]) rfl ?_
  exact ⟨_, _, _, _, rfl, rfl, by omega, by omega, by omega, by omega, by omega, by omega, p2, p3, p1⟩

def feC (n : Int) : Array Value := #[.int .u64 (n % 18446744073709551616), .int .u64 (n / 18446744073709551616 % 18446744073709551616), .int .u64 (n / 340282366920938463463374607431768211456 % 18446744073709551616), .int .u64 (n / 6277101735386680763835789423207666416102355444464034512896 % 18446744073709551616)]
abbrev fe (n : Int) : Value := .agg (feC n)
def pr : Int := 57896044618658097711785492504343953926634992332820282019728792003956564819949

theorem and_top (d : Int) (hd : 0 ≤ d) (hd' : d < 18446744073709551616) : bits .and .u64 d 9223372036854775807 = d % 9223372036854775808 := by
  obtain ⟨d, rfl⟩ := Int.eq_ofNat_of_zero_le hd
  have h := bits_and_u64_nat d 9223372036854775807 (by omega) (by omega)
  have e : d &&& 9223372036854775807 = d % 9223372036854775808 := Nat.and_two_pow_sub_one_eq_mod d 63
  rw [e] at h
  rw [show ((9223372036854775807 : Nat) : Int) = 9223372036854775807 from rfl] at h
  rw [h]; omega
theorem or_bit (n q : Int) (hn : 0 ≤ n) (hn' : n ≤ 4294967296) (hq : 0 ≤ q) (hq' : q ≤ 1) : bits .or .u64 (n * 2) q = n * 2 + q := by
  obtain ⟨n, rfl⟩ := Int.eq_ofNat_of_zero_le hn
  obtain ⟨q, rfl⟩ := Int.eq_ofNat_of_zero_le hq
  have h := bits_or_u64_nat (n * 2) q (by omega) (by omega)
  have e : n * 2 ||| q = n * 2 + q := by
    have := Nat.two_pow_add_eq_or_of_lt (i := 1) (b := q) (by omega) n
    rw [Nat.mul_comm n 2]
    rw [show 2 ^ 1 * n = 2 * n from rfl] at this
    exact this.symm
  rw [e] at h
  rw [show ((n * 2 : Nat) : Int) = (n : Int) * 2 from by omega] at h
  rw [h]; omega

theorem fe_of (a b c d n : Int) (ha : 0 ≤ a) (ha' : a < 18446744073709551616) (hb : 0 ≤ b) (hb' : b < 18446744073709551616) (hc : 0 ≤ c) (hc' : c < 18446744073709551616) (hd : 0 ≤ d) (hd' : d < 18446744073709551616) (h : n = a + 18446744073709551616 * b + 340282366920938463463374607431768211456 * c + 6277101735386680763835789423207666416102355444464034512896 * d) :
    fe n = .agg #[.int .u64 a, .int .u64 b, .int .u64 c, .int .u64 d] := by
  unfold fe feC
  rw [show n % 18446744073709551616 = a from by omega, show n / 18446744073709551616 % 18446744073709551616 = b from by omega, show n / 340282366920938463463374607431768211456 % 18446744073709551616 = c from by omega, show n / 6277101735386680763835789423207666416102355444464034512896 % 18446744073709551616 = d from by omega]

theorem emod_of (t k m r : Int) (h : t = r + m * k) (h0 : 0 ≤ r) (h1 : r < m) : t % m = r := by
  rw [h, Int.add_mul_emod_self_left]; exact Int.emod_eq_of_lt h0 h1
theorem settle_lo (a b c d n v0 v1 v2 v3 : Int) (h0 : 0 ≤ v0) (h0' : v0 < 18446744073709551616) (h1 : 0 ≤ v1) (h1' : v1 < 18446744073709551616) (h2 : 0 ≤ v2) (h2' : v2 < 18446744073709551616) (h3 : 0 ≤ v3) (h3' : v3 < 18446744073709551616)
    (H : v0 + 18446744073709551616 * v1 + 340282366920938463463374607431768211456 * v2 + 6277101735386680763835789423207666416102355444464034512896 * v3 = a + 18446744073709551616 * b + 340282366920938463463374607431768211456 * c + 6277101735386680763835789423207666416102355444464034512896 * (d % 9223372036854775808) + 19 * (n * 2 + d / 9223372036854775808)) (hl : v3 < 9223372036854775807 ∨ v0 + 18446744073709551616 * v1 + 340282366920938463463374607431768211456 * v2 + 6277101735386680763835789423207666416102355444464034512896 * v3 < pr) :
    fe ((a + 18446744073709551616 * b + 340282366920938463463374607431768211456 * c + 6277101735386680763835789423207666416102355444464034512896 * d + 115792089237316195423570985008687907853269984665640564039457584007913129639936 * n) % pr) = .agg #[.int .u64 v0, .int .u64 v1, .int .u64 v2, .int .u64 v3] := by
  refine fe_of v0 v1 v2 v3 _ h0 h0' h1 h1' h2 h2' h3 h3' ?_
  unfold pr at *
  exact emod_of _ (n * 2 + d / 9223372036854775808) _ _ (by omega) (by omega) (by omega)
theorem settle_hi (a b c d n v0 v1 v2 v3 u0 u1 u2 u3 : Int) (ha : a < 18446744073709551616) (hb : b < 18446744073709551616) (hc : c < 18446744073709551616) (hd : 0 ≤ d) (hd' : d < 18446744073709551616) (hn : n ≤ 4294967296) (h0 : 0 ≤ v0) (h1 : 0 ≤ v1) (h2 : 0 ≤ v2) (h3 : 0 ≤ v3)
    (g0 : 0 ≤ u0) (g0' : u0 < 18446744073709551616) (g1 : 0 ≤ u1) (g1' : u1 < 18446744073709551616) (g2 : 0 ≤ u2) (g2' : u2 < 18446744073709551616) (g3 : 0 ≤ u3) (g3' : u3 < 18446744073709551616)
    (H : v0 + 18446744073709551616 * v1 + 340282366920938463463374607431768211456 * v2 + 6277101735386680763835789423207666416102355444464034512896 * v3 = a + 18446744073709551616 * b + 340282366920938463463374607431768211456 * c + 6277101735386680763835789423207666416102355444464034512896 * (d % 9223372036854775808) + 19 * (n * 2 + d / 9223372036854775808))
    (G : u0 + 18446744073709551616 * u1 + 340282366920938463463374607431768211456 * u2 + 6277101735386680763835789423207666416102355444464034512896 * u3 = v0 + 18446744073709551616 * v1 + 340282366920938463463374607431768211456 * v2 + 6277101735386680763835789423207666416102355444464034512896 * v3 + 19) (hl : 9223372036854775807 < u3) :
    fe ((a + 18446744073709551616 * b + 340282366920938463463374607431768211456 * c + 6277101735386680763835789423207666416102355444464034512896 * d + 115792089237316195423570985008687907853269984665640564039457584007913129639936 * n) % pr) = .agg #[.int .u64 u0, .int .u64 u1, .int .u64 u2, .int .u64 (u3 % 9223372036854775808)] := by
  refine fe_of u0 u1 u2 (u3 % 9223372036854775808) _ g0 g0' g1 g1' g2 g2' (by omega) (by omega) ?_
  unfold pr at *
  have e : u3 / 9223372036854775808 = 1 := by omega
  have e' : u3 % 9223372036854775808 = u3 - 9223372036854775808 := by omega
  rw [e']
  exact emod_of _ (n * 2 + d / 9223372036854775808 + 1) _ _ (by omega) (by omega) (by omega)

set_option maxHeartbeats 400000 in
theorem settle_any (a b c d n : Int) (ha : 0 ≤ a) (ha' : a < 18446744073709551616) (hb : 0 ≤ b) (hb' : b < 18446744073709551616) (hc : 0 ≤ c) (hc' : c < 18446744073709551616) (hd : 0 ≤ d) (hd' : d < 18446744073709551616) (hn : 0 ≤ n) (hn' : n ≤ 4294967296) (w : World) :
    Calls Try.prog 85 #[.int .u64 a, .int .u64 b, .int .u64 c, .int .u64 d, .int .u64 n] w fun e w' => e = .returned (fe ((a + 18446744073709551616 * b + 340282366920938463463374607431768211456 * c + 6277101735386680763835789423207666416102355444464034512896 * d + 115792089237316195423570985008687907853269984665640564039457584007913129639936 * n) % pr)) ∧ Below w.heap.size w w' := by
  have e1 := and_top d hd hd'
  have e2 := or_bit n (d / 9223372036854775808) hn hn' (by omega) (by omega)
  go_enter Try.func85, Try.ntmps85
  go_wp2_with fail
  refine (plusWord_any a b c (d % 9223372036854775808) (19 * (n * 2 + d / 9223372036854775808)) ha ha' hb hb' hc hc' (by omega) (by omega) (by omega) (by omega) _).mono ?_
  rintro e w' ⟨v0, v1, v2, v3, rfl, rfl, h0, h0', h1, h1', h2, h2', h3, h3', H⟩
  clear e1 e2
  by_cases hv : v3 < 9223372036854775807
  · have Hf := hide (settle_lo a b c d n v0 v1 v2 v3 h0 h0' h1 h1' h2 h2' h3 h3' H.out (Or.inl hv))
    go_wp2_with fail
    refine bodyPost_ret (v := .agg #[.int .u64 v0, .int .u64 v1, .int .u64 v2, .int .u64 v3]) (by simp [results, Try.results85, go_sem]) rfl ⟨by rw [Hf.out], ?_⟩
    exact (Below.refl _ _).alloc (Nat.le_refl _) _
  · have e3 : v0 + 18446744073709551616 * v1 + 340282366920938463463374607431768211456 * v2 + 6277101735386680763835789423207666416102355444464034512896 * v3 + 19 < 115792089237316195423570985008687907853269984665640564039457584007913129639936 := by have := H.out; omega
    go_wp2_with fail
    refine (plusWord_any v0 v1 v2 v3 19 h0 h0' h1 h1' h2 h2' h3 (by omega) (by omega) e3 _).mono ?_
    rintro e w' ⟨u0, u1, u2, u3, rfl, rfl, g0, g0', g1, g1', g2, g2', g3, g3', G⟩
    clear e3
    by_cases hu : 9223372036854775807 < u3
    · have Hf := hide (settle_hi a b c d n v0 v1 v2 v3 u0 u1 u2 u3 ha' hb' hc' hd hd' hn' h0 h1 h2 h3 g0 g0' g1 g1' g2 g2' g3 g3' H.out G.out hu)
      have e1 := and_top u3 g3 g3'
      go_wp2_with fail
      refine bodyPost_ret (v := .agg #[.int .u64 u0, .int .u64 u1, .int .u64 u2, .int .u64 (u3 % 9223372036854775808)]) (by simp [results, Try.results85, go_sem]) rfl ⟨by rw [Hf.out], ?_⟩
      exact (Below.refl _ _).alloc (Nat.le_refl _) _
    · have Hf := hide (settle_lo a b c d n v0 v1 v2 v3 h0 h0' h1 h1' h2 h2' h3 h3' H.out (Or.inr (by have := G.out; unfold pr; omega)))
      go_wp2_with fail
      refine bodyPost_ret (v := .agg #[.int .u64 v0, .int .u64 v1, .int .u64 v2, .int .u64 v3]) (by simp [results, Try.results85, go_sem]) rfl ⟨by rw [Hf.out], ?_⟩
      exact (Below.refl _ _).alloc (Nat.le_refl _) _
end Go.Proofs.Ytbjllhcjbblojaa
