import Derived.Test.YtgjicjmihlcgkaaSettle
import Derived.LoopN
import Derived.RegionTactic
import Derived.BigRegion
import Derived.Laws.NewBlocks
namespace Go.Proofs.Ytgjicjmihlcgkaa
open Go.RowKit

/-- A sum of two words and a carry, under new names. -/
theorem add64E (x y c : Int) (hx : 0 ≤ x) (hx' : x < 18446744073709551616) (hy : 0 ≤ y) (hy' : y < 18446744073709551616) (hc0 : 0 ≤ c) (hc : c ≤ 1) : ∃ s o : Int, (∀ w, (callFunc 65 #[.int .u64 x, .int .u64 y, .int .u64 c]).run Try.prog w = .ok (.value (.tuple #[.int .u64 s, .int .u64 o])) w) ∧ 0 ≤ s ∧ s < 18446744073709551616 ∧ 0 ≤ o ∧ o ≤ 1 ∧ Hid (s + 18446744073709551616 * o = x + y + c) :=
  ⟨_, _, add64 x y c hx hy hc0 hc, by omega, by omega, by omega, by omega, by unfold Hid; omega⟩
theorem sub64E' (x y b : Int) (hx : 0 ≤ x) (hx' : x < 18446744073709551616) (hy : 0 ≤ y) (hy' : y < 18446744073709551616) (hb0 : 0 ≤ b) (hb : b ≤ 1) : ∃ s o : Int, (∀ w, (callFunc 66 #[.int .u64 x, .int .u64 y, .int .u64 b]).run Try.prog w = .ok (.value (.tuple #[.int .u64 s, .int .u64 o])) w) ∧ 0 ≤ s ∧ s < 18446744073709551616 ∧ 0 ≤ o ∧ o ≤ 1 ∧ Hid (s - 18446744073709551616 * o = x - y - b) :=
  ⟨_, _, sub64 x y b hx hy hy' hb0 hb, by omega, by omega, (bor_bd _ _).1, (bor_bd _ _).2, by unfold Hid bor; split <;> omega⟩

theorem fe_agg (n : Int) : ∃ a b c d : Int, fe n = .agg #[.int .u64 a, .int .u64 b, .int .u64 c, .int .u64 d] := ⟨_, _, _, _, rfl⟩
theorem bcell {W w1 : World} (hb : Below W.heap.size W w1) : (∀ b o, b < W.heap.size → w1.cell? ⟨b, o, none⟩ = W.cell? ⟨b, o, none⟩) ∧ (∀ b o, b < W.heap.size → w1.frozen? ⟨b, o, none⟩ = W.frozen? ⟨b, o, none⟩) :=
  ⟨fun b o h => hb.cell (p := ⟨b, o, none⟩) h, fun b o h => hb.frozen (p := ⟨b, o, none⟩) h⟩
theorem add_fe (a0 a1 a2 a3 b0 b1 b2 b3 s0 s1 s2 s3 o0 o1 o2 o3 : Int) (H0 : s0 + 18446744073709551616 * o0 = a0 + b0 + 0) (H1 : s1 + 18446744073709551616 * o1 = a1 + b1 + o0) (H2 : s2 + 18446744073709551616 * o2 = a2 + b2 + o1) (H3 : s3 + 18446744073709551616 * o3 = a3 + b3 + o2) :
    fe ((a0 + 18446744073709551616 * a1 + 340282366920938463463374607431768211456 * a2 + 6277101735386680763835789423207666416102355444464034512896 * a3 + (b0 + 18446744073709551616 * b1 + 340282366920938463463374607431768211456 * b2 + 6277101735386680763835789423207666416102355444464034512896 * b3)) % pr) = fe ((s0 + 18446744073709551616 * s1 + 340282366920938463463374607431768211456 * s2 + 6277101735386680763835789423207666416102355444464034512896 * s3 + 115792089237316195423570985008687907853269984665640564039457584007913129639936 * o3) % pr) := by
  rw [show a0 + 18446744073709551616 * a1 + 340282366920938463463374607431768211456 * a2 + 6277101735386680763835789423207666416102355444464034512896 * a3 + (b0 + 18446744073709551616 * b1 + 340282366920938463463374607431768211456 * b2 + 6277101735386680763835789423207666416102355444464034512896 * b3) = s0 + 18446744073709551616 * s1 + 340282366920938463463374607431768211456 * s2 + 6277101735386680763835789423207666416102355444464034512896 * s3 + 115792089237316195423570985008687907853269984665640564039457584007913129639936 * o3 from by omega]

end Go.Proofs.Ytgjicjmihlcgkaa
