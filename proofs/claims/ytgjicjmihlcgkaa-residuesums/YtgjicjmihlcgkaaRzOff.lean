import Derived.Test.YtgjicjmihlcgkaaRzSum
set_option linter.unusedSimpArgs false
namespace Go.Proofs.Ytgjicjmihlcgkaa
open Go.RowKit Go.Arr
/-- l off, if that goes. -/
def offL (n : Int) : Int := if n < el then n else n - el
set_option maxHeartbeats 1000000 in
theorem takeOff_c (x0 x1 x2 x3 : Int) (h0 : 0 ≤ x0) (h0' : x0 < 18446744073709551616) (h1 : 0 ≤ x1) (h1' : x1 < 18446744073709551616) (h2 : 0 ≤ x2) (h2' : x2 < 18446744073709551616) (h3 : 0 ≤ x3) (h3' : x3 < 18446744073709551616) (w0 w : World) (b : Nat) (L : List Calm.Blk) (S : Calm.St w0 w (⟨b, #[.int .u64 x0, .int .u64 x1, .int .u64 x2, .int .u64 x3], 59⟩ :: L)) :
    Calls Try.prog 63 #[.pointer (some ⟨b, 0, none⟩)] w fun e w' => e = .returned (.tuple #[]) ∧ Calm.St w0 w' (⟨b, arr .u64 4 (dig 18446744073709551616 (offL (x0 + 18446744073709551616 * x1 + 340282366920938463463374607431768211456 * x2 + 6277101735386680763835789423207666416102355444464034512896 * x3))), 59⟩ :: L) := by
  obtain ⟨s0, o0, k0, p0, q0, r0, t0, H0⟩ := difE x0 6346243789798364141 0 h0 h0' (by omega) (by omega) (by omega) (by omega)
  obtain ⟨s1, o1, k1, p1, q1, r1, t1, H1⟩ := difE x1 1503914060200516822 o0 h1 h1' (by omega) (by omega) r0 t0
  obtain ⟨s2, o2, k2, p2, q2, r2, t2, H2⟩ := difE x2 0 o1 h2 h2' (by omega) (by omega) r1 t1
  obtain ⟨s3, o3, k3, p3, q3, r3, t3, H3⟩ := difE x3 1152921504606846976 o2 h3 h3' (by omega) (by omega) r2 t2
  have hd : (s0 + 18446744073709551616 * s1 + 340282366920938463463374607431768211456 * s2 + 6277101735386680763835789423207666416102355444464034512896 * s3) - 115792089237316195423570985008687907853269984665640564039457584007913129639936 * o3 = (x0 + 18446744073709551616 * x1 + 340282366920938463463374607431768211456 * x2 + 6277101735386680763835789423207666416102355444464034512896 * x3) - el := by
    have := H0.out; have := H1.out; have := H2.out; have := H3.out; unfold el; omega
  by_cases ho : o3 = 0
  · subst ho
    have hge : ¬ (x0 + 18446744073709551616 * x1 + 340282366920938463463374607431768211456 * x2 + 6277101735386680763835789423207666416102355444464034512896 * x3) < el := by omega
    have HF : Hid (arr .u64 4 (dig 18446744073709551616 (offL (x0 + 18446744073709551616 * x1 + 340282366920938463463374607431768211456 * x2 + 6277101735386680763835789423207666416102355444464034512896 * x3))) = #[.int .u64 s0, .int .u64 s1, .int .u64 s2, .int .u64 s3]) := by
      unfold offL
      rw [if_neg hge]
      exact dig4 s0 s1 s2 s3 _ p0 q0 p1 q1 p2 q2 p3 q3 (by omega)
    clear hd hge
    go_enter Try.func63, Try.ntmps63
    go_wp2_with (first | (refine Calm.wl_box S rfl rfl rfl ?_; clear S; intro b W S) | (refine Calm.wl_new (ty := 59) S rfl rfl zeroWd ?_; clear S; intro b W S) | (refine Calm.g_load (ty := 59) rfl ?_; refine Calm.wl_load (ty := 59) S rfl rfl rfl (by (repeat (first | exact List.Mem.head _ | apply List.Mem.tail))) aggWd (by first | exact (Go.Arr.arr_size _ _ _).symm | rfl) ?_) | (refine Calm.g_store (ty := 59) rfl ?_; refine Calm.wl_store (ty := 59) S rfl rfl rfl rfl (by (repeat (first | exact Calm.foc_hd | apply Calm.foc_tl))) aggWd (by first | exact (Go.Arr.arr_size _ _ _).symm | rfl) (by first | exact (Go.Arr.arr_size _ _ _).symm | rfl) (by first | exact Go.Arr.arr_one _ _ _ | rfl | simp [Value.oneCell']) ?_; clear S; intro W S) | (refine Calm.g_load (ty := 22) rfl ?_; refine Calm.wl_loadE (ty := 22) S rfl rfl rfl (by (repeat (first | exact List.Mem.head _ | apply List.Mem.tail))) (by rfl) o64 ?_) | (refine Calm.g_store (ty := 22) rfl ?_; refine Calm.wl_storeE (ty := 22) S rfl rfl rfl rfl (by rfl) (by (repeat (first | exact Calm.foc_hd | apply Calm.foc_tl))) o64 (by simp) rfl ?_; clear S; intro W S; simp only [Act.eval, Array.getD_eq_getD_getElem?, List.getElem?_toArray, List.getElem?_cons_zero, List.getElem?_cons_succ, Option.getD_some, List.setIfInBounds_toArray, List.set_cons_zero, List.set_cons_succ] at S) | simp only [k0] | simp only [k1] | simp only [k2] | simp only [k3])
    refine bodyPost_end (v := .tuple #[]) (by simp [results, Try.results63, go_sem]) rfl ?_
    exact ⟨rfl, by rw [HF.out]; exact S⟩
  · have ho1 : o3 = 1 := by omega
    subst ho1
    have hlt : (x0 + 18446744073709551616 * x1 + 340282366920938463463374607431768211456 * x2 + 6277101735386680763835789423207666416102355444464034512896 * x3) < el := by omega
    have HF : Hid (arr .u64 4 (dig 18446744073709551616 (offL (x0 + 18446744073709551616 * x1 + 340282366920938463463374607431768211456 * x2 + 6277101735386680763835789423207666416102355444464034512896 * x3))) = #[.int .u64 x0, .int .u64 x1, .int .u64 x2, .int .u64 x3]) := by
      unfold offL
      rw [if_pos hlt]
      exact dig4 x0 x1 x2 x3 _ h0 h0' h1 h1' h2 h2' h3 h3' rfl
    clear hd hlt
    go_enter Try.func63, Try.ntmps63
    go_wp2_with (first | (refine Calm.wl_box S rfl rfl rfl ?_; clear S; intro b W S) | (refine Calm.wl_new (ty := 59) S rfl rfl zeroWd ?_; clear S; intro b W S) | (refine Calm.g_load (ty := 59) rfl ?_; refine Calm.wl_load (ty := 59) S rfl rfl rfl (by (repeat (first | exact List.Mem.head _ | apply List.Mem.tail))) aggWd (by first | exact (Go.Arr.arr_size _ _ _).symm | rfl) ?_) | (refine Calm.g_store (ty := 59) rfl ?_; refine Calm.wl_store (ty := 59) S rfl rfl rfl rfl (by (repeat (first | exact Calm.foc_hd | apply Calm.foc_tl))) aggWd (by first | exact (Go.Arr.arr_size _ _ _).symm | rfl) (by first | exact (Go.Arr.arr_size _ _ _).symm | rfl) (by first | exact Go.Arr.arr_one _ _ _ | rfl | simp [Value.oneCell']) ?_; clear S; intro W S) | (refine Calm.g_load (ty := 22) rfl ?_; refine Calm.wl_loadE (ty := 22) S rfl rfl rfl (by (repeat (first | exact List.Mem.head _ | apply List.Mem.tail))) (by rfl) o64 ?_) | (refine Calm.g_store (ty := 22) rfl ?_; refine Calm.wl_storeE (ty := 22) S rfl rfl rfl rfl (by rfl) (by (repeat (first | exact Calm.foc_hd | apply Calm.foc_tl))) o64 (by simp) rfl ?_; clear S; intro W S; simp only [Act.eval, Array.getD_eq_getD_getElem?, List.getElem?_toArray, List.getElem?_cons_zero, List.getElem?_cons_succ, Option.getD_some, List.setIfInBounds_toArray, List.set_cons_zero, List.set_cons_succ] at S) | simp only [k0] | simp only [k1] | simp only [k2] | simp only [k3])
    refine bodyPost_end (v := .tuple #[]) (by simp [results, Try.results63, go_sem]) rfl ?_
    exact ⟨rfl, by rw [HF.out]; exact S⟩
end Go.Proofs.Ytgjicjmihlcgkaa
