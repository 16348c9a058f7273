import Derived.Test.YtlbofcgjdbfenabAdd
set_option linter.unusedSimpArgs false
namespace Go.Proofs.Ytlbofcgjdbfenab
open Go.RowKit

theorem aggFe : Calm.AggT Try.prog 24 4 := ⟨⟨_, Try.underlying24, rfl⟩, by kernel_rfl⟩
theorem zeroFe : (Try.prog.info? 24).bind (·.zero) = some (.agg #[.int .u64 0, .int .u64 0, .int .u64 0, .int .u64 0]) := by kernel_rfl
theorem one64 : Calm.OneT Try.prog 22 := ⟨⟨_, Try.underlying22, rfl⟩, by kernel_rfl⟩
theorem feC_size (n : Int) : (feC n).size = 4 := rfl
theorem feC_one (n : Int) : (feC n).all (·.oneCell') = true := by simp [feC, Value.oneCell']
theorem w4_one (a b c d : Int) : (#[Value.int .u64 a, .int .u64 b, .int .u64 c, .int .u64 d] : Array Value).all (·.oneCell') = true := by simp [Value.oneCell']
/-- A number of four words. -/
def Ok (n : Int) : Prop := 0 ≤ n ∧ n < 115792089237316195423570985008687907853269984665640564039457584007913129639936
theorem ok_mod (n : Int) : Ok (n % pr) := by unfold Ok pr; omega
theorem words_sum (A : Int) (hA : Ok A) : A % 18446744073709551616 + 18446744073709551616 * (A / 18446744073709551616 % 18446744073709551616) + 340282366920938463463374607431768211456 * (A / 340282366920938463463374607431768211456 % 18446744073709551616) + 6277101735386680763835789423207666416102355444464034512896 * (A / 6277101735386680763835789423207666416102355444464034512896 % 18446744073709551616) = A := by unfold Ok at hA; omega
theorem feC_of (a b c d n : Int) (ha : 0 ≤ a) (ha' : a < 18446744073709551616) (hb : 0 ≤ b) (hb' : b < 18446744073709551616) (hc : 0 ≤ c) (hc' : c < 18446744073709551616) (hd : 0 ≤ d) (hd' : d < 18446744073709551616) (h : n = a + 18446744073709551616 * b + 340282366920938463463374607431768211456 * c + 6277101735386680763835789423207666416102355444464034512896 * d) : feC n = #[.int .u64 a, .int .u64 b, .int .u64 c, .int .u64 d] := by
  have := fe_of a b c d n ha ha' hb hb' hc hc' hd hd' h
  simpa [fe] using this

set_option maxHeartbeats 400000 in
theorem Add_c (A B : Int) (hA : Ok A) (hB : Ok B) (w : World) : Calls Try.prog 23 #[.agg (feC A), .agg (feC B)] w fun e w' => e = .returned (.agg (feC ((A + B) % pr))) ∧ Below w.heap.size w w' := by
  have h := add_any (A % 18446744073709551616) (A / 18446744073709551616 % 18446744073709551616) (A / 340282366920938463463374607431768211456 % 18446744073709551616) (A / 6277101735386680763835789423207666416102355444464034512896 % 18446744073709551616) (B % 18446744073709551616) (B / 18446744073709551616 % 18446744073709551616) (B / 340282366920938463463374607431768211456 % 18446744073709551616) (B / 6277101735386680763835789423207666416102355444464034512896 % 18446744073709551616) (by omega) (by omega) (by omega) (by omega) (by omega) (by omega) (by omega) (by omega) (by omega) (by omega) (by omega) (by omega) (by omega) (by omega) (by omega) (by omega) w
  rw [words_sum A hA, words_sum B hB] at h
  exact h

theorem canon_lo (a0 a1 a2 a3 : Int) (ha0 : 0 ≤ a0) (ha0' : a0 < 18446744073709551616) (ha1 : 0 ≤ a1) (ha1' : a1 < 18446744073709551616) (ha2 : 0 ≤ a2) (ha2' : a2 < 18446744073709551616) (ha3 : 0 ≤ a3) (ha3' : a3 < 18446744073709551616) (h : a3 < 9223372036854775807) : feC ((a0 + 18446744073709551616 * a1 + 340282366920938463463374607431768211456 * a2 + 6277101735386680763835789423207666416102355444464034512896 * a3) % pr) = #[.int .u64 a0, .int .u64 a1, .int .u64 a2, .int .u64 a3] :=
  feC_of a0 a1 a2 a3 _ ha0 ha0' ha1 ha1' ha2 ha2' ha3 ha3' (Int.emod_eq_of_lt (by omega) (by unfold pr; omega))

set_option maxHeartbeats 400000 in
theorem canonW (a0 a1 a2 a3 : Int) (ha0 : 0 ≤ a0) (ha0' : a0 < 18446744073709551616) (ha1 : 0 ≤ a1) (ha1' : a1 < 18446744073709551616) (ha2 : 0 ≤ a2) (ha2' : a2 < 18446744073709551616) (ha3 : 0 ≤ a3) (ha3' : a3 < 18446744073709551616) (w : World) : Calls Try.prog 40 #[.agg #[.int .u64 a0, .int .u64 a1, .int .u64 a2, .int .u64 a3]] w fun e w' => e = .returned (.agg (feC ((a0 + 18446744073709551616 * a1 + 340282366920938463463374607431768211456 * a2 + 6277101735386680763835789423207666416102355444464034512896 * a3) % pr))) ∧ Below w.heap.size w w' := by
  have S := Calm.St.start w
  by_cases hl : a3 < 9223372036854775807
  · have HF := hide (canon_lo a0 a1 a2 a3 ha0 ha0' ha1 ha1' ha2 ha2' ha3 ha3' hl)
    go_enter Try.func40, Try.ntmps40
    go_wp2_with (first | (refine Calm.wl_box S rfl rfl rfl ?_; clear S; intro b W S) | (refine Calm.wl_new (ty := 24) S rfl rfl zeroFe ?_; clear S; intro b W S) | (refine Calm.g_load (ty := 24) rfl ?_; refine Calm.wl_load (ty := 24) S rfl rfl rfl (by (repeat (first | exact List.Mem.head _ | apply List.Mem.tail))) aggFe (by simp only [List.size_toArray, List.length_cons, List.length_nil, feC_size]) ?_) | (refine Calm.g_store (ty := 24) rfl ?_; refine Calm.wl_store (ty := 24) S rfl rfl rfl rfl (by (repeat (first | exact Calm.foc_hd | apply Calm.foc_tl))) aggFe rfl (by simp only [List.size_toArray, List.length_cons, List.length_nil, feC_size]) (w4_one _ _ _ _) ?_; clear S; intro W S) | (refine Calm.g_load (ty := 22) rfl ?_; refine Calm.wl_loadE (ty := 22) S rfl rfl rfl (by (repeat (first | exact List.Mem.head _ | apply List.Mem.tail))) (by rfl) one64 ?_) | (refine Calm.g_store (ty := 22) rfl ?_; refine Calm.wl_storeE (ty := 22) S rfl rfl rfl rfl (by rfl) (by (repeat (first | exact Calm.foc_hd | apply Calm.foc_tl))) one64 (by simp) rfl ?_; clear S; intro W S; simp only [Act.eval, Array.getD_eq_getD_getElem?, List.getElem?_toArray, List.getElem?_cons_zero, List.getElem?_cons_succ, Option.getD_some, List.setIfInBounds_toArray, List.set_cons_zero, List.set_cons_succ] at S))
    refine Calm.ret_cell S (by rfl) (by rfl) (by repeat (first | exact List.Mem.head _ | apply List.Mem.tail)) aggFe (by rfl) (by rfl) ?_
    exact ⟨by rw [HF.out], S.below⟩
  · go_enter Try.func40, Try.ntmps40
    go_wp2_with (first | (refine Calm.wl_box S rfl rfl rfl ?_; clear S; intro b W S) | (refine Calm.wl_new (ty := 24) S rfl rfl zeroFe ?_; clear S; intro b W S) | (refine Calm.g_load (ty := 24) rfl ?_; refine Calm.wl_load (ty := 24) S rfl rfl rfl (by (repeat (first | exact List.Mem.head _ | apply List.Mem.tail))) aggFe (by simp only [List.size_toArray, List.length_cons, List.length_nil, feC_size]) ?_) | (refine Calm.g_store (ty := 24) rfl ?_; refine Calm.wl_store (ty := 24) S rfl rfl rfl rfl (by (repeat (first | exact Calm.foc_hd | apply Calm.foc_tl))) aggFe rfl (by simp only [List.size_toArray, List.length_cons, List.length_nil, feC_size]) (w4_one _ _ _ _) ?_; clear S; intro W S) | (refine Calm.g_load (ty := 22) rfl ?_; refine Calm.wl_loadE (ty := 22) S rfl rfl rfl (by (repeat (first | exact List.Mem.head _ | apply List.Mem.tail))) (by rfl) one64 ?_) | (refine Calm.g_store (ty := 22) rfl ?_; refine Calm.wl_storeE (ty := 22) S rfl rfl rfl rfl (by rfl) (by (repeat (first | exact Calm.foc_hd | apply Calm.foc_tl))) one64 (by simp) rfl ?_; clear S; intro W S; simp only [Act.eval, Array.getD_eq_getD_getElem?, List.getElem?_toArray, List.getElem?_cons_zero, List.getElem?_cons_succ, Option.getD_some, List.setIfInBounds_toArray, List.set_cons_zero, List.set_cons_succ] at S))
    refine (settle_any a0 a1 a2 a3 0 ha0 ha0' ha1 ha1' ha2 ha2' ha3 ha3' (by omega) (by omega) _).mono ?_
    rintro e W1 ⟨rfl, hb⟩
    have S := S.call hb
    clear hb
    go_wp2_with (first | (refine Calm.wl_box S rfl rfl rfl ?_; clear S; intro b W S) | (refine Calm.wl_new (ty := 24) S rfl rfl zeroFe ?_; clear S; intro b W S) | (refine Calm.g_load (ty := 24) rfl ?_; refine Calm.wl_load (ty := 24) S rfl rfl rfl (by (repeat (first | exact List.Mem.head _ | apply List.Mem.tail))) aggFe (by simp only [List.size_toArray, List.length_cons, List.length_nil, feC_size]) ?_) | (refine Calm.g_store (ty := 24) rfl ?_; refine Calm.wl_store (ty := 24) S rfl rfl rfl rfl (by (repeat (first | exact Calm.foc_hd | apply Calm.foc_tl))) aggFe rfl (by simp only [List.size_toArray, List.length_cons, List.length_nil, feC_size]) (w4_one _ _ _ _) ?_; clear S; intro W S) | (refine Calm.g_load (ty := 22) rfl ?_; refine Calm.wl_loadE (ty := 22) S rfl rfl rfl (by (repeat (first | exact List.Mem.head _ | apply List.Mem.tail))) (by rfl) one64 ?_) | (refine Calm.g_store (ty := 22) rfl ?_; refine Calm.wl_storeE (ty := 22) S rfl rfl rfl rfl (by rfl) (by (repeat (first | exact Calm.foc_hd | apply Calm.foc_tl))) one64 (by simp) rfl ?_; clear S; intro W S; simp only [Act.eval, Array.getD_eq_getD_getElem?, List.getElem?_toArray, List.getElem?_cons_zero, List.getElem?_cons_succ, Option.getD_some, List.setIfInBounds_toArray, List.set_cons_zero, List.set_cons_succ] at S))
    refine Calm.ret_cell S (by rfl) (by rfl) (by repeat (first | exact List.Mem.head _ | apply List.Mem.tail)) aggFe (by rfl) (by rfl) ?_
    exact ⟨rfl, S.below⟩

theorem Canon_c (A : Int) (hA : Ok A) (w : World) : Calls Try.prog 40 #[.agg (feC A)] w fun e w' => e = .returned (.agg (feC (A % pr))) ∧ Below w.heap.size w w' := by
  have h := canonW (A % 18446744073709551616) (A / 18446744073709551616 % 18446744073709551616) (A / 340282366920938463463374607431768211456 % 18446744073709551616) (A / 6277101735386680763835789423207666416102355444464034512896 % 18446744073709551616) (by omega) (by omega) (by omega) (by omega) (by omega) (by omega) (by omega) (by omega) w
  rw [words_sum A hA] at h
  exact h

theorem of_fe (n : Int) (h0 : 0 ≤ n) (h1 : n < 18446744073709551616) : feC n = #[.int .u64 n, .int .u64 0, .int .u64 0, .int .u64 0] := feC_of n 0 0 0 n h0 h1 (by omega) (by omega) (by omega) (by omega) (by omega) (by omega) (by omega)
set_option maxHeartbeats 400000 in
theorem Of_c (n : Int) (h0 : 0 ≤ n) (h1 : n < 18446744073709551616) (w : World) : Calls Try.prog 10 #[.int .u64 n] w fun e w' => e = .returned (.agg (feC n)) ∧ Below w.heap.size w w' := by
  have S := Calm.St.start w
  go_enter Try.func10, Try.ntmps10
  go_wp2_with (first | (refine Calm.wl_box S rfl rfl rfl ?_; clear S; intro b W S) | (refine Calm.wl_new (ty := 24) S rfl rfl zeroFe ?_; clear S; intro b W S) | (refine Calm.g_load (ty := 24) rfl ?_; refine Calm.wl_load (ty := 24) S rfl rfl rfl (by (repeat (first | exact List.Mem.head _ | apply List.Mem.tail))) aggFe (by simp only [List.size_toArray, List.length_cons, List.length_nil, feC_size]) ?_) | (refine Calm.g_store (ty := 24) rfl ?_; refine Calm.wl_store (ty := 24) S rfl rfl rfl rfl (by (repeat (first | exact Calm.foc_hd | apply Calm.foc_tl))) aggFe rfl (by simp only [List.size_toArray, List.length_cons, List.length_nil, feC_size]) (w4_one _ _ _ _) ?_; clear S; intro W S) | (refine Calm.g_load (ty := 22) rfl ?_; refine Calm.wl_loadE (ty := 22) S rfl rfl rfl (by (repeat (first | exact List.Mem.head _ | apply List.Mem.tail))) (by rfl) one64 ?_) | (refine Calm.g_store (ty := 22) rfl ?_; refine Calm.wl_storeE (ty := 22) S rfl rfl rfl rfl (by rfl) (by (repeat (first | exact Calm.foc_hd | apply Calm.foc_tl))) one64 (by simp) rfl ?_; clear S; intro W S; simp only [Act.eval, Array.getD_eq_getD_getElem?, List.getElem?_toArray, List.getElem?_cons_zero, List.getElem?_cons_succ, Option.getD_some, List.setIfInBounds_toArray, List.set_cons_zero, List.set_cons_succ] at S))
  refine Calm.ret_cell S (by rfl) (by rfl) (by repeat (first | exact List.Mem.head _ | apply List.Mem.tail)) aggFe (by rfl) (by rfl) ?_
  exact ⟨by rw [of_fe n h0 h1], S.below⟩
end Go.Proofs.Ytlbofcgjdbfenab
