import Derived.Test.YtgjicjmihlcgkaaRfTimes
set_option linter.unusedSimpArgs false
namespace Go.Proofs.Ytgjicjmihlcgkaa
open Go.RowKit Go.Arr
theorem by_e : arr .u8 32 (dig 256 (eE : Int)) = (arr .u8 32 (dig 256 el)).setIfInBounds 0 (.int .u8 235) := by kernel_rfl
theorem ord_0 : (arr .u8 32 (dig 256 el))[0]? = some (.int .u8 237) := by kernel_rfl
theorem wd1b (X : Int) (hX : 0 ≤ X) (q r : Nat) (hr : r < 8) : dig 256 X q / 2 ^ r % 2 = X / 2 ^ (8 * q + r) % 2 := by
  obtain ⟨Y, rfl⟩ := Int.eq_ofNat_of_zero_le hX
  have e1 : (2 : Nat) ^ (8 * q + r) = 256 ^ q * 2 ^ r := by rw [Nat.pow_add, Nat.pow_mul]
  have e2 : (256 : Nat) = 2 ^ r * (2 ^ (7 - r) * 2) := by
    rw [← Nat.mul_assoc, ← Nat.pow_add, ← Nat.pow_succ, show (r + (7 - r)).succ = 8 by omega]
  have key : Y / 256 ^ q % 256 / 2 ^ r % 2 = Y / 2 ^ (8 * q + r) % 2 := by
    rw [e1, ← Nat.div_div_eq_div_mul]
    generalize Y / 256 ^ q = y
    rw [e2, Nat.mod_mul_right_div_self, Nat.mod_mul_left_mod]
  have h := congrArg (fun n : Nat => (n : Int)) key
  unfold dig
  simp only [Int.natCast_emod, Int.natCast_ediv, Int.natCast_pow] at h ⊢
  exact h
set_option maxRecDepth 100000 in
set_option maxHeartbeats 1000000 in
theorem RInverse_c (A : Int) (hA : Ok8 A) (w : World) : Calls Try.prog 28 #[.agg (arr .u8 32 (dig 256 A))] w fun e w' => e = .returned (.agg (arr .u8 32 (dig 256 (invE A)))) ∧ Below w.heap.size w w' := by
  have S := Calm.St.start w
  have H0 := hide ord_0
  go_enter Try.func28, Try.ntmps28
  go_wp2_with (first | (refine Calm.wl_box S rfl rfl rfl ?_; clear S; intro b W S) | (refine Calm.wl_new (ty := 36) S rfl rfl zeroSc ?_; clear S; intro b W S) | (refine Calm.g_load (ty := 36) rfl ?_; refine Calm.wl_load (ty := 36) S rfl rfl rfl (by (repeat (first | exact List.Mem.head _ | apply List.Mem.tail))) aggSc (by first | exact (Go.Arr.arr_size _ _ _).symm | rfl) ?_) | (refine Calm.g_store (ty := 36) rfl ?_; refine Calm.wl_store (ty := 36) S rfl rfl rfl rfl (by (repeat (first | exact Calm.foc_hd | apply Calm.foc_tl))) aggSc (by first | exact (Go.Arr.arr_size _ _ _).symm | rfl) (by first | exact (Go.Arr.arr_size _ _ _).symm | rfl) (by first | exact Go.Arr.arr_one _ _ _ | rfl | simp [Value.oneCell']) ?_; clear S; intro W S) | (refine Calm.wl_new (ty := 35) S rfl rfl zeroB32 ?_; clear S; intro b W S) | (refine Calm.g_load (ty := 35) rfl ?_; refine Calm.wl_load (ty := 35) S rfl rfl rfl (by (repeat (first | exact List.Mem.head _ | apply List.Mem.tail))) aggB32 (by first | exact (Go.Arr.arr_size _ _ _).symm | rfl) ?_) | (refine Calm.g_store (ty := 35) rfl ?_; refine Calm.wl_store (ty := 35) S rfl rfl rfl rfl (by (repeat (first | exact Calm.foc_hd | apply Calm.foc_tl))) aggB32 (by first | exact (Go.Arr.arr_size _ _ _).symm | rfl) (by first | exact (Go.Arr.arr_size _ _ _).symm | rfl) (by first | exact Go.Arr.arr_one _ _ _ | rfl | simp [Value.oneCell']) ?_; clear S; intro W S))
  rename_i bA _ _ _ _ _
  rename Nat => bR
  refine (Order_c _).mono ?_
  rintro e W1 ⟨rfl, hb⟩
  have S := S.call hb
  clear hb
  go_wp2_with (first | (refine Calm.wl_box S rfl rfl rfl ?_; clear S; intro b W S) | (refine Calm.wl_new (ty := 36) S rfl rfl zeroSc ?_; clear S; intro b W S) | (refine Calm.g_load (ty := 36) rfl ?_; refine Calm.wl_load (ty := 36) S rfl rfl rfl (by (repeat (first | exact List.Mem.head _ | apply List.Mem.tail))) aggSc (by first | exact (Go.Arr.arr_size _ _ _).symm | rfl) ?_) | (refine Calm.g_store (ty := 36) rfl ?_; refine Calm.wl_store (ty := 36) S rfl rfl rfl rfl (by (repeat (first | exact Calm.foc_hd | apply Calm.foc_tl))) aggSc (by first | exact (Go.Arr.arr_size _ _ _).symm | rfl) (by first | exact (Go.Arr.arr_size _ _ _).symm | rfl) (by first | exact Go.Arr.arr_one _ _ _ | rfl | simp [Value.oneCell']) ?_; clear S; intro W S) | (refine Calm.wl_new (ty := 35) S rfl rfl zeroB32 ?_; clear S; intro b W S) | (refine Calm.g_load (ty := 35) rfl ?_; refine Calm.wl_load (ty := 35) S rfl rfl rfl (by (repeat (first | exact List.Mem.head _ | apply List.Mem.tail))) aggB32 (by first | exact (Go.Arr.arr_size _ _ _).symm | rfl) ?_) | (refine Calm.g_store (ty := 35) rfl ?_; refine Calm.wl_store (ty := 35) S rfl rfl rfl rfl (by (repeat (first | exact Calm.foc_hd | apply Calm.foc_tl))) aggB32 (by first | exact (Go.Arr.arr_size _ _ _).symm | rfl) (by first | exact (Go.Arr.arr_size _ _ _).symm | rfl) (by first | exact Go.Arr.arr_one _ _ _ | rfl | simp [Value.oneCell']) ?_; clear S; intro W S) | (refine Calm.g_load (ty := 5) rfl ?_; refine Calm.wl_loadE (ty := 5) (b := b) (v := .int .u8 237) S rfl rfl rfl (by (repeat (first | exact List.Mem.head _ | apply List.Mem.tail))) H0.out oU8 ?_) | (refine Calm.g_store (ty := 5) rfl ?_; refine Calm.wl_storeE (ty := 5) (b := b) (cs := arr .u8 32 (dig 256 (eE : Int))) S rfl rfl rfl rfl (by_e) (by (repeat (first | exact Calm.foc_hd | apply Calm.foc_tl))) oU8 (by rw [Go.Arr.arr_size]; omega) rfl ?_; clear S; intro W S))
  rename Nat => bE
  refine (ROf2_c 1 (by omega) (by omega) _).mono ?_
  rintro e W1 ⟨rfl, hb⟩
  have S := S.call hb
  clear hb
  go_wp2_with (first | (refine Calm.wl_box S rfl rfl rfl ?_; clear S; intro b W S) | (refine Calm.wl_new (ty := 36) S rfl rfl zeroSc ?_; clear S; intro b W S) | (refine Calm.g_load (ty := 36) rfl ?_; refine Calm.wl_load (ty := 36) S rfl rfl rfl (by (repeat (first | exact List.Mem.head _ | apply List.Mem.tail))) aggSc (by first | exact (Go.Arr.arr_size _ _ _).symm | rfl) ?_) | (refine Calm.g_store (ty := 36) rfl ?_; refine Calm.wl_store (ty := 36) S rfl rfl rfl rfl (by (repeat (first | exact Calm.foc_hd | apply Calm.foc_tl))) aggSc (by first | exact (Go.Arr.arr_size _ _ _).symm | rfl) (by first | exact (Go.Arr.arr_size _ _ _).symm | rfl) (by first | exact Go.Arr.arr_one _ _ _ | rfl | simp [Value.oneCell']) ?_; clear S; intro W S) | (refine Calm.wl_new (ty := 35) S rfl rfl zeroB32 ?_; clear S; intro b W S) | (refine Calm.g_load (ty := 35) rfl ?_; refine Calm.wl_load (ty := 35) S rfl rfl rfl (by (repeat (first | exact List.Mem.head _ | apply List.Mem.tail))) aggB32 (by first | exact (Go.Arr.arr_size _ _ _).symm | rfl) ?_) | (refine Calm.g_store (ty := 35) rfl ?_; refine Calm.wl_store (ty := 35) S rfl rfl rfl rfl (by (repeat (first | exact Calm.foc_hd | apply Calm.foc_tl))) aggB32 (by first | exact (Go.Arr.arr_size _ _ _).symm | rfl) (by first | exact (Go.Arr.arr_size _ _ _).symm | rfl) (by first | exact Go.Arr.arr_one _ _ _ | rfl | simp [Value.oneCell']) ?_; clear S; intro W S))
  rename_i K hK
  go_loopw [5] (fun v Wr => ∃ m : Nat, m ≤ 256 ∧ v = .int .i64 ((m : Int) - 1) ∧ Calm.St w Wr [⟨b, arr .u8 32 (dig 256 (pe A (eE / 2 ^ m))), 36⟩, ⟨bE, arr .u8 32 (dig 256 (eE : Int)), 35⟩, ⟨bR, arr .u8 32 (fun _ => 0), 36⟩, ⟨bA, arr .u8 32 (dig 256 A), 36⟩]) (fun v _ => (intOf v + 1).toNat)
  case atStart => exact ⟨256, by omega, rfl, by rw [show eE / 2 ^ 256 = 0 by kernel_rfl, pe_0]; exact S⟩
  case round =>
    clear S
    obtain ⟨m', hm, rfl, S⟩ := hrel
    by_cases h0 : m' = 0
    · subst h0
      rw [show ((0 : Nat) : Int) - 1 = -1 from rfl]
      rw [Nat.pow_zero, Nat.div_one] at S
      go_wp2_with (first | (refine Calm.wl_box S rfl rfl rfl ?_; clear S; intro b W S) | (refine Calm.wl_new (ty := 36) S rfl rfl zeroSc ?_; clear S; intro b W S) | (refine Calm.g_load (ty := 36) rfl ?_; refine Calm.wl_load (ty := 36) S rfl rfl rfl (by (repeat (first | exact List.Mem.head _ | apply List.Mem.tail))) aggSc (by first | exact (Go.Arr.arr_size _ _ _).symm | rfl) ?_) | (refine Calm.g_store (ty := 36) rfl ?_; refine Calm.wl_store (ty := 36) S rfl rfl rfl rfl (by (repeat (first | exact Calm.foc_hd | apply Calm.foc_tl))) aggSc (by first | exact (Go.Arr.arr_size _ _ _).symm | rfl) (by first | exact (Go.Arr.arr_size _ _ _).symm | rfl) (by first | exact Go.Arr.arr_one _ _ _ | rfl | simp [Value.oneCell']) ?_; clear S; intro W S))
      refine Calm.ret_cell S (by rfl) (by rfl) (by repeat (first | exact List.Mem.head _ | apply List.Mem.tail)) aggSc (arr_size _ _ _).symm (by rfl) ?_
      exact ⟨rfl, S.below⟩
    · obtain ⟨t, rfl⟩ : ∃ m, m' = m + 1 := ⟨m' - 1, by omega⟩
      have em : ((t + 1 : Nat) : Int) - 1 = (t : Int) := by omega
      rw [em]
      obtain ⟨q, hq⟩ : ∃ q : Nat, q = t / 8 := ⟨_, rfl⟩
      obtain ⟨r, hr⟩ : ∃ r : Nat, r = t % 8 := ⟨_, rfl⟩
      have f1 : (t : Int) < 256 := by omega
      have f3 : IntKind.i64.wrap ((t : Int) / 8) = (q : Int) := by rw [wrap_small _ (by omega) (by omega)]; omega
      have f4 : (t : Int).tmod 8 = (r : Int) := by rw [Int.tmod_eq_emod_of_nonneg (by omega)]; omega
      have f5 : (q : Int) < 32 := by omega
      have f6 : r ≤ 8 := by omega
      have f7 : IntKind.i64.wrap ((t : Int) - 1) = (t : Int) - 1 := by rw [IntKind.wrap_i64]; omega
      obtain ⟨x, hx⟩ : ∃ x : Int, x = dig 256 (eE : Int) q := ⟨_, rfl⟩
      have Hx : Hid ((arr .u8 32 (dig 256 (eE : Int)))[q]? = some (.int .u8 x)) := by rw [hx]; exact arr_at _ _ _ q (by omega)
      have hxb := dig_bd b_pos (eE : Int) q
      rw [← hx] at hxb
      have hxr : 0 ≤ x / 2 ^ r := Int.ediv_nonneg hxb.1 (Int.le_of_lt (Int.pow_pos (by omega)))
      have f8 : (x / 2 ^ r).tmod 2 = ((eE / 2 ^ t % 2 : Nat) : Int) := by
        rw [Int.tmod_eq_emod_of_nonneg hxr, hx, wd1b (eE : Int) (by omega) q r (by omega), show 8 * q + r = t by omega, Int.natCast_emod, Int.natCast_ediv, Int.natCast_pow]; rfl
      have hst : eE / 2 ^ t = 2 * (eE / 2 ^ (t + 1)) + eE / 2 ^ t % 2 := by
        rw [Nat.pow_succ, ← Nat.div_div_eq_div_mul]; omega
      have Hst := hide hst
      clear hq hr hx hst em
      go_wp2_with (first | (refine Calm.wl_box S rfl rfl rfl ?_; clear S; intro b W S) | (refine Calm.wl_new (ty := 36) S rfl rfl zeroSc ?_; clear S; intro b W S) | (refine Calm.g_load (ty := 36) rfl ?_; refine Calm.wl_load (ty := 36) S rfl rfl rfl (by (repeat (first | exact List.Mem.head _ | apply List.Mem.tail))) aggSc (by first | exact (Go.Arr.arr_size _ _ _).symm | rfl) ?_) | (refine Calm.g_store (ty := 36) rfl ?_; refine Calm.wl_store (ty := 36) S rfl rfl rfl rfl (by (repeat (first | exact Calm.foc_hd | apply Calm.foc_tl))) aggSc (by first | exact (Go.Arr.arr_size _ _ _).symm | rfl) (by first | exact (Go.Arr.arr_size _ _ _).symm | rfl) (by first | exact Go.Arr.arr_one _ _ _ | rfl | simp [Value.oneCell']) ?_; clear S; intro W S))
      refine (RTimes_c _ _ (ok8_pe _ _) (ok8_pe _ _) _).mono ?_
      rintro e W1 ⟨rfl, hb⟩
      have S := S.call hb
      clear hb
      rw [pe_dbl]
      have hb01 : eE / 2 ^ t % 2 = 0 ∨ eE / 2 ^ t % 2 = 1 := by omega
      rcases hb01 with hb0 | hb1
      · rw [hb0] at f8
        have f8' : (x / 2 ^ r).tmod 2 = 0 := f8
        have Hb := hide hb0
        clear hb0 f8
        go_wp2_with (first | (refine Calm.wl_box S rfl rfl rfl ?_; clear S; intro b W S) | (refine Calm.wl_new (ty := 36) S rfl rfl zeroSc ?_; clear S; intro b W S) | (refine Calm.g_load (ty := 36) rfl ?_; refine Calm.wl_load (ty := 36) S rfl rfl rfl (by (repeat (first | exact List.Mem.head _ | apply List.Mem.tail))) aggSc (by first | exact (Go.Arr.arr_size _ _ _).symm | rfl) ?_) | (refine Calm.g_store (ty := 36) rfl ?_; refine Calm.wl_store (ty := 36) S rfl rfl rfl rfl (by (repeat (first | exact Calm.foc_hd | apply Calm.foc_tl))) aggSc (by first | exact (Go.Arr.arr_size _ _ _).symm | rfl) (by first | exact (Go.Arr.arr_size _ _ _).symm | rfl) (by first | exact Go.Arr.arr_one _ _ _ | rfl | simp [Value.oneCell']) ?_; clear S; intro W S) | (refine Calm.g_load (ty := 5) rfl ?_; refine Calm.wl_loadE (ty := 5) (b := bE) (v := .int .u8 x) S rfl rfl rfl (by (repeat (first | exact List.Mem.head _ | apply List.Mem.tail))) Hx.out oU8 ?_))
        go_roundw
        case rel => exact ⟨t, by omega, by go_num, by rw [Hst.out, Hb.out, Nat.add_zero]; exact S⟩
        case measure => simp [intOf]
      · rw [hb1] at f8
        have f8' : (x / 2 ^ r).tmod 2 = 1 := f8
        have Hb := hide hb1
        clear hb1 f8
        go_wp2_with (first | (refine Calm.wl_box S rfl rfl rfl ?_; clear S; intro b W S) | (refine Calm.wl_new (ty := 36) S rfl rfl zeroSc ?_; clear S; intro b W S) | (refine Calm.g_load (ty := 36) rfl ?_; refine Calm.wl_load (ty := 36) S rfl rfl rfl (by (repeat (first | exact List.Mem.head _ | apply List.Mem.tail))) aggSc (by first | exact (Go.Arr.arr_size _ _ _).symm | rfl) ?_) | (refine Calm.g_store (ty := 36) rfl ?_; refine Calm.wl_store (ty := 36) S rfl rfl rfl rfl (by (repeat (first | exact Calm.foc_hd | apply Calm.foc_tl))) aggSc (by first | exact (Go.Arr.arr_size _ _ _).symm | rfl) (by first | exact (Go.Arr.arr_size _ _ _).symm | rfl) (by first | exact Go.Arr.arr_one _ _ _ | rfl | simp [Value.oneCell']) ?_; clear S; intro W S) | (refine Calm.g_load (ty := 5) rfl ?_; refine Calm.wl_loadE (ty := 5) (b := bE) (v := .int .u8 x) S rfl rfl rfl (by (repeat (first | exact List.Mem.head _ | apply List.Mem.tail))) Hx.out oU8 ?_))
        refine (RTimes_c _ _ (ok8_pe _ _) hA _).mono ?_
        rintro e W1 ⟨rfl, hb⟩
        have S := S.call hb
        clear hb
        rw [pe_succ]
        go_wp2_with (first | (refine Calm.wl_box S rfl rfl rfl ?_; clear S; intro b W S) | (refine Calm.wl_new (ty := 36) S rfl rfl zeroSc ?_; clear S; intro b W S) | (refine Calm.g_load (ty := 36) rfl ?_; refine Calm.wl_load (ty := 36) S rfl rfl rfl (by (repeat (first | exact List.Mem.head _ | apply List.Mem.tail))) aggSc (by first | exact (Go.Arr.arr_size _ _ _).symm | rfl) ?_) | (refine Calm.g_store (ty := 36) rfl ?_; refine Calm.wl_store (ty := 36) S rfl rfl rfl rfl (by (repeat (first | exact Calm.foc_hd | apply Calm.foc_tl))) aggSc (by first | exact (Go.Arr.arr_size _ _ _).symm | rfl) (by first | exact (Go.Arr.arr_size _ _ _).symm | rfl) (by first | exact Go.Arr.arr_one _ _ _ | rfl | simp [Value.oneCell']) ?_; clear S; intro W S))
        go_roundw
        case rel => exact ⟨t, by omega, by go_num, by rw [Hst.out, Hb.out]; exact S⟩
        case measure => simp [intOf]
end Go.Proofs.Ytgjicjmihlcgkaa
