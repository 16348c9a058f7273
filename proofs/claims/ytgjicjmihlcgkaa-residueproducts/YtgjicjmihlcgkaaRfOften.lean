import Derived.Test.YtgjicjmihlcgkaaRfMay
set_option linter.unusedSimpArgs false
namespace Go.Proofs.Ytgjicjmihlcgkaa
open Go.RowKit Go.Arr
theorem aggLg : Calm.AggT Try.prog 83 9 := ⟨⟨_, Try.underlying83, rfl⟩, by kernel_rfl⟩
theorem zeroLg : (Try.prog.info? 83).bind (·.zero) = some (.agg (arr .u64 9 fun _ => 0)) := by kernel_rfl
theorem tw_start : arr .u64 9 (tw el 32) = arr .u64 9 (fun _ => 0) := by kernel_rfl
theorem tw_set (X : Int) (m q : Nat) (hq : q = m / 4) : arr .u64 9 (tw X m) = (arr .u64 9 (tw X (m + 1))).setIfInBounds q (.int .u64 (tw X m q)) := by
  rw [← arr_set]
  refine arr_ext fun j _ => ?_
  by_cases e : j = q
  · subst e; rw [gset_eq]
  · rw [gset_ne _ _ _ e]; exact (tw_same X m j (by rw [← hq]; exact e)).symm
theorem mix_n (n : Nat) (h g : Nat → Int) : arr .u64 n (mixG h g n) = arr .u64 n g := arr_ext fun j hj => by unfold mixG; rw [if_pos hj]
theorem mix_0 (n : Nat) (h g : Nat → Int) : arr .u64 n (mixG h g 0) = arr .u64 n h := arr_ext fun j _ => by unfold mixG; rw [if_neg (by omega)]
theorem two_k (k : Nat) (hk : k ≤ 8) : (1 : Int) ≤ 2 ^ k ∧ (2 : Int) ^ k ≤ 256 := by
  have : k = 0 ∨ k = 1 ∨ k = 2 ∨ k = 3 ∨ k = 4 ∨ k = 5 ∨ k = 6 ∨ k = 7 ∨ k = 8 := by omega
  rcases this with rfl | rfl | rfl | rfl | rfl | rfl | rfl | rfl | rfl <;> decide
theorem g_9 : (4294967296 : Int) ^ 9 = 4294967296 * 115792089237316195423570985008687907853269984665640564039457584007913129639936 := by decide
theorem often_end (k : Nat) (hk : k ≤ 8) (g : Nat → Int) (c : Int) (H : Mc 4294967296 (2 ^ k) (dig 4294967296 el) g c 0 9) : arr .u64 9 (mixG (dig 4294967296 el) g 9) = arr .u64 9 (dig 4294967296 (2 ^ k * el)) := by
  rw [mix_n, arr_num g_pos .u64 9 g H.lo]
  have he := H.eq
  have h0 := H.c0
  have hb := vB_bd g_pos g 9 H.lo
  have h2 := two_k k hk
  rw [dig_v g_pos el 9 (by unfold el; omega) (by rw [g_9]; unfold el; omega)] at he
  rw [g_9] at he hb
  have h3 : 2 ^ k * el ≤ 256 * el := Int.mul_le_mul_of_nonneg_right h2.2 (by unfold el; omega)
  have hc : c = 0 := by unfold el at *; omega
  rw [hc] at he
  rw [show vB 4294967296 g 9 = 2 ^ k * el by omega]
set_option maxHeartbeats 1000000 in
theorem often_c (k : Nat) (hk : k ≤ 8) (w : World) : Calls Try.prog 64 #[.int .i64 (k : Int)] w fun e w' => e = .returned (.agg (arr .u64 9 (dig 4294967296 (2 ^ k * el)))) ∧ Below w.heap.size w w' := by
  have S := Calm.St.start w
  go_enter Try.func64, Try.ntmps64
  go_wp2_with (first | (refine Calm.wl_box S rfl rfl rfl ?_; clear S; intro b W S) | (refine Calm.wl_new (ty := 83) S rfl rfl zeroLg ?_; clear S; intro b W S) | (refine Calm.g_load (ty := 83) rfl ?_; refine Calm.wl_load (ty := 83) S rfl rfl rfl (by (repeat (first | exact List.Mem.head _ | apply List.Mem.tail))) aggLg (by first | exact (Go.Arr.arr_size _ _ _).symm | rfl) ?_) | (refine Calm.g_store (ty := 83) rfl ?_; refine Calm.wl_store (ty := 83) S rfl rfl rfl rfl (by (repeat (first | exact Calm.foc_hd | apply Calm.foc_tl))) aggLg (by first | exact (Go.Arr.arr_size _ _ _).symm | rfl) (by first | exact (Go.Arr.arr_size _ _ _).symm | rfl) (by first | exact Go.Arr.arr_one _ _ _ | rfl | simp [Value.oneCell']) ?_; clear S; intro W S) | (refine Calm.wl_new (ty := 35) S rfl rfl zeroB32 ?_; clear S; intro b W S) | (refine Calm.g_load (ty := 35) rfl ?_; refine Calm.wl_load (ty := 35) S rfl rfl rfl (by (repeat (first | exact List.Mem.head _ | apply List.Mem.tail))) aggB32 (by first | exact (Go.Arr.arr_size _ _ _).symm | rfl) ?_) | (refine Calm.g_store (ty := 35) rfl ?_; refine Calm.wl_store (ty := 35) S rfl rfl rfl rfl (by (repeat (first | exact Calm.foc_hd | apply Calm.foc_tl))) aggB32 (by first | exact (Go.Arr.arr_size _ _ _).symm | rfl) (by first | exact (Go.Arr.arr_size _ _ _).symm | rfl) (by first | exact Go.Arr.arr_one _ _ _ | rfl | simp [Value.oneCell']) ?_; clear S; intro W S))
  rename Nat => bR
  refine (Order_c _).mono ?_
  rintro e W1 ⟨rfl, hb⟩
  have S := S.call hb
  clear hb
  go_wp2_with (first | (refine Calm.wl_box S rfl rfl rfl ?_; clear S; intro b W S) | (refine Calm.wl_new (ty := 83) S rfl rfl zeroLg ?_; clear S; intro b W S) | (refine Calm.g_load (ty := 83) rfl ?_; refine Calm.wl_load (ty := 83) S rfl rfl rfl (by (repeat (first | exact List.Mem.head _ | apply List.Mem.tail))) aggLg (by first | exact (Go.Arr.arr_size _ _ _).symm | rfl) ?_) | (refine Calm.g_store (ty := 83) rfl ?_; refine Calm.wl_store (ty := 83) S rfl rfl rfl rfl (by (repeat (first | exact Calm.foc_hd | apply Calm.foc_tl))) aggLg (by first | exact (Go.Arr.arr_size _ _ _).symm | rfl) (by first | exact (Go.Arr.arr_size _ _ _).symm | rfl) (by first | exact Go.Arr.arr_one _ _ _ | rfl | simp [Value.oneCell']) ?_; clear S; intro W S) | (refine Calm.wl_new (ty := 35) S rfl rfl zeroB32 ?_; clear S; intro b W S) | (refine Calm.g_load (ty := 35) rfl ?_; refine Calm.wl_load (ty := 35) S rfl rfl rfl (by (repeat (first | exact List.Mem.head _ | apply List.Mem.tail))) aggB32 (by first | exact (Go.Arr.arr_size _ _ _).symm | rfl) ?_) | (refine Calm.g_store (ty := 35) rfl ?_; refine Calm.wl_store (ty := 35) S rfl rfl rfl rfl (by (repeat (first | exact Calm.foc_hd | apply Calm.foc_tl))) aggB32 (by first | exact (Go.Arr.arr_size _ _ _).symm | rfl) (by first | exact (Go.Arr.arr_size _ _ _).symm | rfl) (by first | exact Go.Arr.arr_one _ _ _ | rfl | simp [Value.oneCell']) ?_; clear S; intro W S))
  rename_i bL _ _ K hK
  rw [← tw_start] at S
  go_loopw [5] (fun i Wr => ∃ m : Nat, m ≤ 32 ∧ i = .int .i64 ((m : Int) - 1) ∧ Calm.St w Wr [⟨b, arr .u64 9 (tw el m), 83⟩, ⟨bL, arr .u8 32 (dig 256 el), 35⟩, ⟨bR, arr .u64 9 (tw el 32), 83⟩]) (fun i _ => (intOf i + 1).toNat)
  case atStart => exact ⟨32, by omega, rfl, S⟩
  case round =>
    clear S
    obtain ⟨m', hm, rfl, S⟩ := hrel
    by_cases h0 : m' = 0
    · subst h0
      rw [show ((0 : Nat) : Int) - 1 = -1 from rfl]
      rw [tw_start, show arr .u64 9 (tw el 0) = arr .u64 9 (dig 4294967296 el) from arr_ext fun j _ => tw_0 el j] at S
      go_wp2_with fail
      rename_i K2 hK2
      go_loopw [6, 7] (fun cc i Wr => ∃ (j : Nat) (g : Nat → Int) (c : Int), j ≤ 9 ∧ i = .int .i64 (j : Int) ∧ cc = .int .u64 c ∧ Mc 4294967296 (2 ^ k) (dig 4294967296 el) g c 0 j ∧ Calm.St w Wr [⟨b, arr .u64 9 (mixG (dig 4294967296 el) g j), 83⟩, ⟨bL, arr .u8 32 (dig 256 el), 35⟩, ⟨bR, arr .u64 9 (fun _ => 0), 83⟩]) (fun _ i _ => 9 - (intOf i).toNat)
      case atStart => exact ⟨0, fun _ => 0, 0, by omega, rfl, rfl, ⟨fun j h => by omega, by omega, by have := two_k k hk; omega, by simp [vB]⟩, by rw [mix_0]; exact S⟩
      case round =>
        clear S
        obtain ⟨j, g, c, hj, rfl, rfl, hC, S⟩ := hrel
        by_cases hlt : j < 9
        · have g5 : (j : Int) < 9 := by omega
          have hk64 : k ≤ 64 := by omega
          obtain ⟨x, hx⟩ : ∃ x : Int, x = dig 4294967296 el j := ⟨_, rfl⟩
          have hxb := dig_bd g_pos el j
          have Hx : Hid ((arr .u64 9 (mixG (dig 4294967296 el) g j))[j]? = some (.int .u64 x)) := by rw [hx]; exact mix_at 9 _ g j hlt
          have hbd := hC.bd hxb
          have hst := fun t ht => hC.step g_pos hxb t ht
          have h2 := two_k k hk
          rw [← hx] at hxb hbd hst
          have h3 : 2 ^ k * 4294967296 ≤ 256 * (4294967296 : Int) := Int.mul_le_mul_of_nonneg_right h2.2 (by omega)
          have hc0 := hC.c0
          have hxk : 0 ≤ 2 ^ k * x := Int.mul_nonneg (by omega) hxb.1
          obtain ⟨t, ht⟩ : ∃ t : Int, t = c + 2 ^ k * x := ⟨_, rfl⟩
          rw [← ht] at hbd
          have e1 : IntKind.u64.wrap (x * 2 ^ k) = x * 2 ^ k := by rw [IntKind.wrap_u64, Int.mul_comm]; omega
          have e2 : IntKind.u64.wrap (c + x * 2 ^ k) = t := by rw [IntKind.wrap_u64, Int.mul_comm x]; omega
          have e3 : t.tmod 4294967296 = t % 4294967296 := Int.tmod_eq_emod_of_nonneg hbd.1
          have e4 : IntKind.u64.wrap (t / 4294967296) = t / 4294967296 := by rw [IntKind.wrap_u64]; omega
          have Hst := hide (hst t ht)
          have ht0 : 0 ≤ t := hbd.1
          have ht1 : t < 18446744073709551616 := by omega
          clear hst ht hx hbd h2 h3 hxk
          go_wp2_with (first | (refine Calm.g_load (ty := 22) rfl ?_; refine Calm.wl_loadE (ty := 22) (b := b) (v := .int .u64 x) S rfl rfl rfl (by (repeat (first | exact List.Mem.head _ | apply List.Mem.tail))) Hx.out o64 ?_) | (refine Calm.g_store (ty := 22) rfl ?_; refine Calm.wl_storeE (ty := 22) (b := b) (cs := arr .u64 9 (mixG (dig 4294967296 el) (gset g j (t % 4294967296)) (j + 1))) S rfl rfl rfl rfl (mix_set _ _ _ _ _) (by (repeat (first | exact Calm.foc_hd | apply Calm.foc_tl))) o64 (by rw [Go.Arr.arr_size]; omega) rfl ?_; clear S; intro W S))
          go_roundw
          case rel => exact ⟨j + 1, _, _, by omega, by go_num, rfl, Hst.out, S⟩
          case measure => simp [intOf]; omega
        · have hj' : j = 9 := by omega
          subst hj'
          rw [often_end k hk g c hC] at S
          go_wp2_with (first | (refine Calm.wl_box S rfl rfl rfl ?_; clear S; intro b W S) | (refine Calm.wl_new (ty := 83) S rfl rfl zeroLg ?_; clear S; intro b W S) | (refine Calm.g_load (ty := 83) rfl ?_; refine Calm.wl_load (ty := 83) S rfl rfl rfl (by (repeat (first | exact List.Mem.head _ | apply List.Mem.tail))) aggLg (by first | exact (Go.Arr.arr_size _ _ _).symm | rfl) ?_) | (refine Calm.g_store (ty := 83) rfl ?_; refine Calm.wl_store (ty := 83) S rfl rfl rfl rfl (by (repeat (first | exact Calm.foc_hd | apply Calm.foc_tl))) aggLg (by first | exact (Go.Arr.arr_size _ _ _).symm | rfl) (by first | exact (Go.Arr.arr_size _ _ _).symm | rfl) (by first | exact Go.Arr.arr_one _ _ _ | rfl | simp [Value.oneCell']) ?_; clear S; intro W S))
          refine Calm.ret_cell S (by rfl) (by rfl) (by repeat (first | exact List.Mem.head _ | apply List.Mem.tail)) aggLg (arr_size _ _ _).symm (by rfl) ?_
          exact ⟨rfl, S.below⟩
    · obtain ⟨m, rfl⟩ : ∃ m, m' = m + 1 := ⟨m' - 1, by omega⟩
      have em : ((m + 1 : Nat) : Int) - 1 = (m : Int) := by omega
      rw [em]
      have hm8 : (m : Int) < 32 := by omega
      obtain ⟨q, hq⟩ : ∃ q : Nat, q = m / 4 := ⟨_, rfl⟩
      have g1 : IntKind.i64.wrap ((m : Int) / 4) = (q : Int) := by rw [wrap_small _ (by omega) (by omega)]; omega
      have g2 : (q : Int) < 9 := by omega
      have hq9 : q < 9 := by omega
      obtain ⟨x, hx⟩ : ∃ x : Int, x = tw el (m + 1) q := ⟨_, rfl⟩
      obtain ⟨y, hy⟩ : ∃ y : Int, y = tw el m q := ⟨_, rfl⟩
      have Hx : Hid ((arr .u64 9 (tw el (m + 1)))[q]? = some (.int .u64 x)) := by rw [hx]; exact arr_at _ _ _ q hq9
      have Hd := hide (arr_at .u8 32 (dig 256 el) m (by omega))
      have hst := tw_step el (by unfold el; omega) m
      have hyb := tw_bd el m q
      have hxb := tw_bd el (m + 1) q
      have hdb := dig_bd b_pos el m
      have Hset : Hid (arr .u64 9 (tw el m) = (arr .u64 9 (tw el (m + 1))).setIfInBounds q (.int .u64 y)) := by unfold Hid; rw [hy]; exact tw_set el m q hq
      rw [← hq, ← hx, ← hy] at hst
      rw [← hx] at hxb
      rw [← hy] at hyb
      have e1 : IntKind.u64.wrap (256 * x) = 256 * x := by rw [IntKind.wrap_u64]; omega
      have e2 : IntKind.u64.wrap (dig 256 el m) = dig 256 el m := by rw [IntKind.wrap_u64]; omega
      have e3 : IntKind.u64.wrap (256 * x + dig 256 el m) = y := by rw [IntKind.wrap_u64]; omega
      clear hst hx hy hq em
      go_wp2_with fail
      refine Calm.region0 S 13 (by kernel_rfl) (by kernel_rfl) (fun S => ?_)
      iterate 5 (first | (refine Calm.wn_skip rfl ?_) | (refine Calm.wn_move rfl (by rfl) (Or.inl rfl) ?_; simp only [Act.put, Act.eval, Array.getD_eq_getD_getElem?, List.getElem?_toArray, List.getElem?_cons_zero, List.getElem?_cons_succ, Option.getD_some, List.setIfInBounds_toArray, List.set_cons_zero, List.set_cons_succ]) | (refine Calm.wn_move rfl (by rfl) (Or.inr rfl) ?_; simp only [Act.put, Act.eval, Array.getD_eq_getD_getElem?, List.getElem?_toArray, List.getElem?_cons_zero, List.getElem?_cons_succ, Option.getD_some, List.setIfInBounds_toArray, List.set_cons_zero, List.set_cons_succ]) | (refine Calm.gn_load (ty := 24) rfl ?_; refine Calm.wn_load (ty := 24) S rfl (by rfl) rfl rfl (by (repeat (first | exact List.Mem.head _ | apply List.Mem.tail))) aggFe (by simp only [List.size_toArray, List.length_cons, List.length_nil, feC_size]) ?_; simp only [Act.put, Act.eval, Array.getD_eq_getD_getElem?, List.getElem?_toArray, List.getElem?_cons_zero, List.getElem?_cons_succ, Option.getD_some, List.setIfInBounds_toArray, List.set_cons_zero, List.set_cons_succ]) | (refine Calm.gn_load (ty := 22) rfl ?_; refine Calm.wn_loadE (ty := 22) S rfl (by rfl) rfl rfl (by (repeat (first | exact List.Mem.head _ | apply List.Mem.tail))) (by rfl) one64 ?_; simp only [Act.put, Act.eval, Array.getD_eq_getD_getElem?, List.getElem?_toArray, List.getElem?_cons_zero, List.getElem?_cons_succ, Option.getD_some, List.setIfInBounds_toArray, List.set_cons_zero, List.set_cons_succ]) | (apply Calm.wn_val rfl (by rfl); (intro w; go_simp; rfl); simp only [Act.put, Act.eval, Array.getD_eq_getD_getElem?, List.getElem?_toArray, List.getElem?_cons_zero, List.getElem?_cons_succ, Option.getD_some, List.setIfInBounds_toArray, List.set_cons_zero, List.set_cons_succ]))
      (refine Calm.gn_load (ty := 22) rfl ?_; refine Calm.wn_loadE (ty := 22) (b := b) (v := .int .u64 x) S rfl (by rfl) rfl rfl (by (repeat (first | exact List.Mem.head _ | apply List.Mem.tail))) Hx.out o64 ?_; simp only [Act.put, Act.eval, Array.getD_eq_getD_getElem?, List.getElem?_toArray, List.getElem?_cons_zero, List.getElem?_cons_succ, Option.getD_some, List.setIfInBounds_toArray, List.set_cons_zero, List.set_cons_succ])
      iterate 3 (first | (refine Calm.wn_skip rfl ?_) | (refine Calm.wn_move rfl (by rfl) (Or.inl rfl) ?_; simp only [Act.put, Act.eval, Array.getD_eq_getD_getElem?, List.getElem?_toArray, List.getElem?_cons_zero, List.getElem?_cons_succ, Option.getD_some, List.setIfInBounds_toArray, List.set_cons_zero, List.set_cons_succ]) | (refine Calm.wn_move rfl (by rfl) (Or.inr rfl) ?_; simp only [Act.put, Act.eval, Array.getD_eq_getD_getElem?, List.getElem?_toArray, List.getElem?_cons_zero, List.getElem?_cons_succ, Option.getD_some, List.setIfInBounds_toArray, List.set_cons_zero, List.set_cons_succ]) | (refine Calm.gn_load (ty := 24) rfl ?_; refine Calm.wn_load (ty := 24) S rfl (by rfl) rfl rfl (by (repeat (first | exact List.Mem.head _ | apply List.Mem.tail))) aggFe (by simp only [List.size_toArray, List.length_cons, List.length_nil, feC_size]) ?_; simp only [Act.put, Act.eval, Array.getD_eq_getD_getElem?, List.getElem?_toArray, List.getElem?_cons_zero, List.getElem?_cons_succ, Option.getD_some, List.setIfInBounds_toArray, List.set_cons_zero, List.set_cons_succ]) | (refine Calm.gn_load (ty := 22) rfl ?_; refine Calm.wn_loadE (ty := 22) S rfl (by rfl) rfl rfl (by (repeat (first | exact List.Mem.head _ | apply List.Mem.tail))) (by rfl) one64 ?_; simp only [Act.put, Act.eval, Array.getD_eq_getD_getElem?, List.getElem?_toArray, List.getElem?_cons_zero, List.getElem?_cons_succ, Option.getD_some, List.setIfInBounds_toArray, List.set_cons_zero, List.set_cons_succ]) | (apply Calm.wn_val rfl (by rfl); (intro w; go_simp; rfl); simp only [Act.put, Act.eval, Array.getD_eq_getD_getElem?, List.getElem?_toArray, List.getElem?_cons_zero, List.getElem?_cons_succ, Option.getD_some, List.setIfInBounds_toArray, List.set_cons_zero, List.set_cons_succ]))
      (refine Calm.gn_load (ty := 5) rfl ?_; refine Calm.wn_loadE (ty := 5) (b := bL) (v := .int .u8 (dig 256 el m)) S rfl (by rfl) rfl rfl (by (repeat (first | exact List.Mem.head _ | apply List.Mem.tail))) Hd.out oU8 ?_; simp only [Act.put, Act.eval, Array.getD_eq_getD_getElem?, List.getElem?_toArray, List.getElem?_cons_zero, List.getElem?_cons_succ, Option.getD_some, List.setIfInBounds_toArray, List.set_cons_zero, List.set_cons_succ])
      repeat (first | (refine Calm.wn_skip rfl ?_) | (refine Calm.wn_move rfl (by rfl) (Or.inl rfl) ?_; simp only [Act.put, Act.eval, Array.getD_eq_getD_getElem?, List.getElem?_toArray, List.getElem?_cons_zero, List.getElem?_cons_succ, Option.getD_some, List.setIfInBounds_toArray, List.set_cons_zero, List.set_cons_succ]) | (refine Calm.wn_move rfl (by rfl) (Or.inr rfl) ?_; simp only [Act.put, Act.eval, Array.getD_eq_getD_getElem?, List.getElem?_toArray, List.getElem?_cons_zero, List.getElem?_cons_succ, Option.getD_some, List.setIfInBounds_toArray, List.set_cons_zero, List.set_cons_succ]) | (refine Calm.gn_load (ty := 24) rfl ?_; refine Calm.wn_load (ty := 24) S rfl (by rfl) rfl rfl (by (repeat (first | exact List.Mem.head _ | apply List.Mem.tail))) aggFe (by simp only [List.size_toArray, List.length_cons, List.length_nil, feC_size]) ?_; simp only [Act.put, Act.eval, Array.getD_eq_getD_getElem?, List.getElem?_toArray, List.getElem?_cons_zero, List.getElem?_cons_succ, Option.getD_some, List.setIfInBounds_toArray, List.set_cons_zero, List.set_cons_succ]) | (refine Calm.gn_load (ty := 22) rfl ?_; refine Calm.wn_loadE (ty := 22) S rfl (by rfl) rfl rfl (by (repeat (first | exact List.Mem.head _ | apply List.Mem.tail))) (by rfl) one64 ?_; simp only [Act.put, Act.eval, Array.getD_eq_getD_getElem?, List.getElem?_toArray, List.getElem?_cons_zero, List.getElem?_cons_succ, Option.getD_some, List.setIfInBounds_toArray, List.set_cons_zero, List.set_cons_succ]) | (apply Calm.wn_val rfl (by rfl); (intro w; go_simp; rfl); simp only [Act.put, Act.eval, Array.getD_eq_getD_getElem?, List.getElem?_toArray, List.getElem?_cons_zero, List.getElem?_cons_succ, Option.getD_some, List.setIfInBounds_toArray, List.set_cons_zero, List.set_cons_succ]))
      (refine Calm.wn_nil ?_; clear S; intro W S; simp only [Act.put, List.setIfInBounds_toArray, List.set_cons_zero, List.set_cons_succ, List.drop_succ_cons, List.drop_zero, List.drop_nil])
      try rw [e3]
      go_wp2_with (first | (refine Calm.g_store (ty := 22) rfl ?_; refine Calm.wl_storeE (ty := 22) (b := b) (cs := arr .u64 9 (tw el m)) S rfl rfl rfl rfl (Hset.out) (by (repeat (first | exact Calm.foc_hd | apply Calm.foc_tl))) o64 (by rw [Go.Arr.arr_size]; omega) rfl ?_; clear S; intro W S))
      go_roundw
      case rel => exact ⟨m, by omega, by go_num, S⟩
      case measure => simp [intOf]
end Go.Proofs.Ytgjicjmihlcgkaa
