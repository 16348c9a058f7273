import Derived.Test.YtgjicjmihlcgkaaRzTy
set_option linter.unusedSimpArgs false
namespace Go.Proofs.Ytgjicjmihlcgkaa
open Go.RowKit Go.Arr
set_option maxHeartbeats 1000000 in
theorem read_c (N : Int) (hN : Ok8 N) (w : World) : Calls Try.prog 49 #[.agg (arr .u8 32 (dig 256 N))] w fun e w' => e = .returned (.agg (arr .u64 4 (dig 18446744073709551616 N))) ∧ Below w.heap.size w w' := by
  have S := Calm.St.start w
  go_enter Try.func49, Try.ntmps49
  go_wp2_with (first | (refine Calm.wl_box S rfl rfl rfl ?_; clear S; intro b W S) | (refine Calm.wl_new (ty := 59) S rfl rfl zeroWd ?_; clear S; intro b W S) | (refine Calm.g_load (ty := 59) rfl ?_; refine Calm.wl_load (ty := 59) S rfl rfl rfl (by (repeat (first | exact List.Mem.head _ | apply List.Mem.tail))) aggWd (by first | exact (Go.Arr.arr_size _ _ _).symm | rfl) ?_) | (refine Calm.g_store (ty := 59) rfl ?_; refine Calm.wl_store (ty := 59) S rfl rfl rfl rfl (by (repeat (first | exact Calm.foc_hd | apply Calm.foc_tl))) aggWd (by first | exact (Go.Arr.arr_size _ _ _).symm | rfl) (by first | exact (Go.Arr.arr_size _ _ _).symm | rfl) (by first | exact Go.Arr.arr_one _ _ _ | rfl | simp [Value.oneCell']) ?_; clear S; intro W S))
  rename_i bB _ bR _ K hK
  go_loopw [5] (fun i Wr => ∃ k : Nat, k ≤ 32 ∧ i = .int .i64 k ∧ Calm.St w Wr [⟨b, arr .u64 4 (dig 18446744073709551616 (N % 256 ^ k)), 59⟩, ⟨bR, arr .u64 4 (fun _ => 0), 59⟩, ⟨bB, arr .u8 32 (dig 256 N), 36⟩]) (fun i _ => 32 - (intOf i).toNat)
  case atStart => exact ⟨0, by omega, rfl, by rw [show N % 256 ^ 0 = 0 from by simp, dig_0]; exact S⟩
  case round =>
    clear S
    obtain ⟨k, hk, rfl, S⟩ := hrel
    by_cases hlt : k < 32
    · obtain ⟨q, hq⟩ : ∃ q : Nat, q = k / 8 := ⟨_, rfl⟩
      obtain ⟨r, hr⟩ : ∃ r : Nat, r = k % 8 := ⟨_, rfl⟩
      obtain ⟨s, hs⟩ : ∃ s : Nat, s = 8 * r := ⟨_, rfl⟩
      have g1 : IntKind.i64.wrap ((k : Int) / 8) = (q : Int) := by rw [wrap_small _ (by omega) (by omega)]; omega
      have g2 : (k : Int).tmod 8 = (r : Int) := by rw [Int.tmod_eq_emod_of_nonneg (by omega)]; omega
      have g3 : IntKind.i64.wrap ((r : Int) * 8) = (s : Int) := by rw [wrap_small _ (by omega) (by omega)]; omega
      have g4 : (q : Int) < 4 := by omega
      have g5 : (k : Int) < 32 := by omega
      have hs64 : s ≤ 64 := by omega
      obtain ⟨t, z, hx, t0, t1, z0, z1, z2, HZ, hn⟩ := rd_step 4 N hN.1 k q r s (by omega) (by omega) (by omega) hs
      obtain ⟨d0, d1⟩ := dig_bd b_pos N k
      have Hx := hide hx
      have Hn := hide hn
      have Hb := hide (arr_at .u8 32 (dig 256 N) k hlt)
      have g0 : IntKind.u64.wrap (dig 256 N k) = dig 256 N k := by rw [IntKind.wrap_u64]; omega
      have g6 : IntKind.u64.wrap (dig 256 N k * 2 ^ s) = z := by rw [IntKind.wrap_u64, ← HZ.out]; omega
      have g7 := or_add t z (dig 256 N k) s t0 t1 d0 HZ.out z2 z0
      have hq4 : q < 4 := by omega
      clear hx hn hq hr hs t1
      go_wp2_with fail
      refine Calm.region0 S 14 (by kernel_rfl) (by kernel_rfl) (fun S => ?_)
      iterate 3 (first | (refine Calm.wn_skip rfl ?_) | (refine Calm.wn_move rfl (by rfl) (Or.inl rfl) ?_; simp only [Act.put, Act.eval, Array.getD_eq_getD_getElem?, List.getElem?_toArray, List.getElem?_cons_zero, List.getElem?_cons_succ, Option.getD_some, List.setIfInBounds_toArray, List.set_cons_zero, List.set_cons_succ]) | (refine Calm.wn_move rfl (by rfl) (Or.inr rfl) ?_; simp only [Act.put, Act.eval, Array.getD_eq_getD_getElem?, List.getElem?_toArray, List.getElem?_cons_zero, List.getElem?_cons_succ, Option.getD_some, List.setIfInBounds_toArray, List.set_cons_zero, List.set_cons_succ]) | (refine Calm.gn_load (ty := 24) rfl ?_; refine Calm.wn_load (ty := 24) S rfl (by rfl) rfl rfl (by (repeat (first | exact List.Mem.head _ | apply List.Mem.tail))) aggFe (by simp only [List.size_toArray, List.length_cons, List.length_nil, feC_size]) ?_; simp only [Act.put, Act.eval, Array.getD_eq_getD_getElem?, List.getElem?_toArray, List.getElem?_cons_zero, List.getElem?_cons_succ, Option.getD_some, List.setIfInBounds_toArray, List.set_cons_zero, List.set_cons_succ]) | (refine Calm.gn_load (ty := 22) rfl ?_; refine Calm.wn_loadE (ty := 22) S rfl (by rfl) rfl rfl (by (repeat (first | exact List.Mem.head _ | apply List.Mem.tail))) (by rfl) one64 ?_; simp only [Act.put, Act.eval, Array.getD_eq_getD_getElem?, List.getElem?_toArray, List.getElem?_cons_zero, List.getElem?_cons_succ, Option.getD_some, List.setIfInBounds_toArray, List.set_cons_zero, List.set_cons_succ]) | (apply Calm.wn_val rfl (by rfl); (intro w; go_simp; rfl); simp only [Act.put, Act.eval, Array.getD_eq_getD_getElem?, List.getElem?_toArray, List.getElem?_cons_zero, List.getElem?_cons_succ, Option.getD_some, List.setIfInBounds_toArray, List.set_cons_zero, List.set_cons_succ]))
      (refine Calm.gn_load (ty := 22) rfl ?_; refine Calm.wn_loadE (ty := 22) (b := b) (v := .int .u64 t) S rfl (by rfl) rfl rfl (by (repeat (first | exact List.Mem.head _ | apply List.Mem.tail))) Hx.out o64 ?_; simp only [Act.put, Act.eval, Array.getD_eq_getD_getElem?, List.getElem?_toArray, List.getElem?_cons_zero, List.getElem?_cons_succ, Option.getD_some, List.setIfInBounds_toArray, List.set_cons_zero, List.set_cons_succ])
      iterate 2 (first | (refine Calm.wn_skip rfl ?_) | (refine Calm.wn_move rfl (by rfl) (Or.inl rfl) ?_; simp only [Act.put, Act.eval, Array.getD_eq_getD_getElem?, List.getElem?_toArray, List.getElem?_cons_zero, List.getElem?_cons_succ, Option.getD_some, List.setIfInBounds_toArray, List.set_cons_zero, List.set_cons_succ]) | (refine Calm.wn_move rfl (by rfl) (Or.inr rfl) ?_; simp only [Act.put, Act.eval, Array.getD_eq_getD_getElem?, List.getElem?_toArray, List.getElem?_cons_zero, List.getElem?_cons_succ, Option.getD_some, List.setIfInBounds_toArray, List.set_cons_zero, List.set_cons_succ]) | (refine Calm.gn_load (ty := 24) rfl ?_; refine Calm.wn_load (ty := 24) S rfl (by rfl) rfl rfl (by (repeat (first | exact List.Mem.head _ | apply List.Mem.tail))) aggFe (by simp only [List.size_toArray, List.length_cons, List.length_nil, feC_size]) ?_; simp only [Act.put, Act.eval, Array.getD_eq_getD_getElem?, List.getElem?_toArray, List.getElem?_cons_zero, List.getElem?_cons_succ, Option.getD_some, List.setIfInBounds_toArray, List.set_cons_zero, List.set_cons_succ]) | (refine Calm.gn_load (ty := 22) rfl ?_; refine Calm.wn_loadE (ty := 22) S rfl (by rfl) rfl rfl (by (repeat (first | exact List.Mem.head _ | apply List.Mem.tail))) (by rfl) one64 ?_; simp only [Act.put, Act.eval, Array.getD_eq_getD_getElem?, List.getElem?_toArray, List.getElem?_cons_zero, List.getElem?_cons_succ, Option.getD_some, List.setIfInBounds_toArray, List.set_cons_zero, List.set_cons_succ]) | (apply Calm.wn_val rfl (by rfl); (intro w; go_simp; rfl); simp only [Act.put, Act.eval, Array.getD_eq_getD_getElem?, List.getElem?_toArray, List.getElem?_cons_zero, List.getElem?_cons_succ, Option.getD_some, List.setIfInBounds_toArray, List.set_cons_zero, List.set_cons_succ]))
      (refine Calm.gn_load (ty := 5) rfl ?_; refine Calm.wn_loadE (ty := 5) (b := bB) (v := .int .u8 (dig 256 N k)) S rfl (by rfl) rfl rfl (by (repeat (first | exact List.Mem.head _ | apply List.Mem.tail))) Hb.out oU8 ?_; simp only [Act.put, Act.eval, Array.getD_eq_getD_getElem?, List.getElem?_toArray, List.getElem?_cons_zero, List.getElem?_cons_succ, Option.getD_some, List.setIfInBounds_toArray, List.set_cons_zero, List.set_cons_succ])
      repeat (first | (refine Calm.wn_skip rfl ?_) | (refine Calm.wn_move rfl (by rfl) (Or.inl rfl) ?_; simp only [Act.put, Act.eval, Array.getD_eq_getD_getElem?, List.getElem?_toArray, List.getElem?_cons_zero, List.getElem?_cons_succ, Option.getD_some, List.setIfInBounds_toArray, List.set_cons_zero, List.set_cons_succ]) | (refine Calm.wn_move rfl (by rfl) (Or.inr rfl) ?_; simp only [Act.put, Act.eval, Array.getD_eq_getD_getElem?, List.getElem?_toArray, List.getElem?_cons_zero, List.getElem?_cons_succ, Option.getD_some, List.setIfInBounds_toArray, List.set_cons_zero, List.set_cons_succ]) | (refine Calm.gn_load (ty := 24) rfl ?_; refine Calm.wn_load (ty := 24) S rfl (by rfl) rfl rfl (by (repeat (first | exact List.Mem.head _ | apply List.Mem.tail))) aggFe (by simp only [List.size_toArray, List.length_cons, List.length_nil, feC_size]) ?_; simp only [Act.put, Act.eval, Array.getD_eq_getD_getElem?, List.getElem?_toArray, List.getElem?_cons_zero, List.getElem?_cons_succ, Option.getD_some, List.setIfInBounds_toArray, List.set_cons_zero, List.set_cons_succ]) | (refine Calm.gn_load (ty := 22) rfl ?_; refine Calm.wn_loadE (ty := 22) S rfl (by rfl) rfl rfl (by (repeat (first | exact List.Mem.head _ | apply List.Mem.tail))) (by rfl) one64 ?_; simp only [Act.put, Act.eval, Array.getD_eq_getD_getElem?, List.getElem?_toArray, List.getElem?_cons_zero, List.getElem?_cons_succ, Option.getD_some, List.setIfInBounds_toArray, List.set_cons_zero, List.set_cons_succ]) | (apply Calm.wn_val rfl (by rfl); (intro w; go_simp; rfl); simp only [Act.put, Act.eval, Array.getD_eq_getD_getElem?, List.getElem?_toArray, List.getElem?_cons_zero, List.getElem?_cons_succ, Option.getD_some, List.setIfInBounds_toArray, List.set_cons_zero, List.set_cons_succ]))
      (refine Calm.wn_nil ?_; clear S; intro W S; simp only [Act.put, List.setIfInBounds_toArray, List.set_cons_zero, List.set_cons_succ, List.drop_succ_cons, List.drop_zero, List.drop_nil])
      refine Calm.wl_storeE (ty := 22) (b := b) (cs := arr .u64 4 (dig 18446744073709551616 (N % 256 ^ (k + 1)))) S rfl rfl rfl rfl Hn.out (by (repeat (first | exact Calm.foc_hd | apply Calm.foc_tl))) o64 (by rw [arr_size]; omega) rfl ?_
      clear S
      intro W S
      go_wp2_with fail
      go_roundw
      case rel => exact ⟨k + 1, by omega, by go_num, S⟩
      case measure => simp [intOf]; omega
    · have hk' : k = 32 := by omega
      subst hk'
      rw [show N % 256 ^ 32 = N from Int.emod_eq_of_lt hN.1 hN.2] at S
      go_wp2_with (first | (refine Calm.wl_box S rfl rfl rfl ?_; clear S; intro b W S) | (refine Calm.wl_new (ty := 59) S rfl rfl zeroWd ?_; clear S; intro b W S) | (refine Calm.g_load (ty := 59) rfl ?_; refine Calm.wl_load (ty := 59) S rfl rfl rfl (by (repeat (first | exact List.Mem.head _ | apply List.Mem.tail))) aggWd (by first | exact (Go.Arr.arr_size _ _ _).symm | rfl) ?_) | (refine Calm.g_store (ty := 59) rfl ?_; refine Calm.wl_store (ty := 59) S rfl rfl rfl rfl (by (repeat (first | exact Calm.foc_hd | apply Calm.foc_tl))) aggWd (by first | exact (Go.Arr.arr_size _ _ _).symm | rfl) (by first | exact (Go.Arr.arr_size _ _ _).symm | rfl) (by first | exact Go.Arr.arr_one _ _ _ | rfl | simp [Value.oneCell']) ?_; clear S; intro W S))
      refine Calm.ret_cell S (by rfl) (by rfl) (by repeat (first | exact List.Mem.head _ | apply List.Mem.tail)) aggWd (arr_size _ _ _).symm (by rfl) ?_
      exact ⟨rfl, S.below⟩
/-- Bytes, the first k of them a number's, the others 0. -/
def firstK (n : Int) (k : Nat) (j : Nat) : Int := if j < k then dig 256 n j else 0
theorem firstK_0 (n : Int) (m : Nat) : arr .u8 m (firstK n 0) = arr .u8 m fun _ => 0 := arr_ext fun j _ => by simp [firstK]
theorem firstK_n (n : Int) (m : Nat) : arr .u8 m (firstK n m) = arr .u8 m (dig 256 n) := arr_ext fun j hj => by simp [firstK, hj]
theorem firstK_next (n : Int) (m k : Nat) (v : Int) (hv : v = dig 256 n k) : arr .u8 m (firstK n (k + 1)) = (arr .u8 m (firstK n k)).setIfInBounds k (.int .u8 v) := by
  rw [← arr_set]
  refine arr_ext fun j _ => ?_
  by_cases e : j = k
  · subst e; rw [gset_eq, hv]; simp [firstK]
  · rw [gset_ne _ _ _ e]
    unfold firstK
    by_cases h : j < k
    · rw [if_pos h, if_pos (by omega)]
    · rw [if_neg h, if_neg (by omega)]
set_option maxHeartbeats 1000000 in
theorem write_c (A : Int) (hA : Ok8 A) (w : World) : Calls Try.prog 45 #[.agg (arr .u64 4 (dig 18446744073709551616 A))] w fun e w' => e = .returned (.agg (arr .u8 32 (dig 256 A))) ∧ Below w.heap.size w w' := by
  have S := Calm.St.start w
  go_enter Try.func45, Try.ntmps45
  go_wp2_with (first | (refine Calm.wl_box S rfl rfl rfl ?_; clear S; intro b W S) | (refine Calm.wl_new (ty := 36) S rfl rfl zeroSc ?_; clear S; intro b W S) | (refine Calm.g_load (ty := 36) rfl ?_; refine Calm.wl_load (ty := 36) S rfl rfl rfl (by (repeat (first | exact List.Mem.head _ | apply List.Mem.tail))) aggSc (by first | exact (Go.Arr.arr_size _ _ _).symm | rfl) ?_) | (refine Calm.g_store (ty := 36) rfl ?_; refine Calm.wl_store (ty := 36) S rfl rfl rfl rfl (by (repeat (first | exact Calm.foc_hd | apply Calm.foc_tl))) aggSc (by first | exact (Go.Arr.arr_size _ _ _).symm | rfl) (by first | exact (Go.Arr.arr_size _ _ _).symm | rfl) (by first | exact Go.Arr.arr_one _ _ _ | rfl | simp [Value.oneCell']) ?_; clear S; intro W S))
  rename_i bA _ bR _ K hK
  go_loopw [5] (fun i Wr => ∃ k : Nat, k ≤ 32 ∧ i = .int .i64 k ∧ Calm.St w Wr [⟨b, arr .u8 32 (firstK A k), 36⟩, ⟨bR, arr .u8 32 (fun _ => 0), 36⟩, ⟨bA, arr .u64 4 (dig 18446744073709551616 A), 59⟩]) (fun i _ => 32 - (intOf i).toNat)
  case atStart => exact ⟨0, by omega, rfl, by rw [firstK_0]; exact S⟩
  case round =>
    clear S
    obtain ⟨k, hk, rfl, S⟩ := hrel
    by_cases hlt : k < 32
    · obtain ⟨q, hq⟩ : ∃ q : Nat, q = k / 8 := ⟨_, rfl⟩
      obtain ⟨r, hr⟩ : ∃ r : Nat, r = k % 8 := ⟨_, rfl⟩
      obtain ⟨s, hs⟩ : ∃ s : Nat, s = 8 * r := ⟨_, rfl⟩
      have g1 : IntKind.i64.wrap ((k : Int) / 8) = (q : Int) := by rw [wrap_small _ (by omega) (by omega)]; omega
      have g2 : (k : Int).tmod 8 = (r : Int) := by rw [Int.tmod_eq_emod_of_nonneg (by omega)]; omega
      have g3 : IntKind.i64.wrap ((r : Int) * 8) = (s : Int) := by rw [wrap_small _ (by omega) (by omega)]; omega
      have g4 : (q : Int) < 4 := by omega
      have g5 : (k : Int) < 32 := by omega
      have hs64 : s ≤ 64 := by omega
      obtain ⟨x, hx⟩ : ∃ x : Int, x = dig 18446744073709551616 A q := ⟨_, rfl⟩
      have Hx : Hid ((arr .u64 4 (dig 18446744073709551616 A))[q]? = some (.int .u64 x)) := by rw [hx]; exact arr_at _ _ _ q (by omega)
      have hxb := dig_bd M_pos A q
      rw [← hx] at hxb
      have HB : Hid (x / 2 ^ s % 256 = dig 256 A k) := by unfold Hid; rw [hx, wd8 A hA.1 q r s (by omega) hs, show 8 * q + r = k by omega]
      clear hx hq hr hs
      go_wp2_with (first | (refine Calm.g_load (ty := 22) rfl ?_; refine Calm.wl_loadE (ty := 22) (b := bA) (v := .int .u64 x) S rfl rfl rfl (by (repeat (first | exact List.Mem.head _ | apply List.Mem.tail))) Hx.out o64 ?_) | (refine Calm.g_store (ty := 5) rfl ?_; refine Calm.wl_storeE (ty := 5) (b := b) (cs := arr .u8 32 (firstK A (k + 1))) S rfl rfl rfl rfl (firstK_next A 32 k _ HB.out) (by (repeat (first | exact Calm.foc_hd | apply Calm.foc_tl))) oU8 (by rw [Go.Arr.arr_size]; omega) rfl ?_; clear S; intro W S))
      go_roundw
      case rel => exact ⟨k + 1, by omega, by go_num, S⟩
      case measure => simp [intOf]; omega
    · have hk' : k = 32 := by omega
      subst hk'
      rw [firstK_n] at S
      go_wp2_with (first | (refine Calm.wl_box S rfl rfl rfl ?_; clear S; intro b W S) | (refine Calm.wl_new (ty := 36) S rfl rfl zeroSc ?_; clear S; intro b W S) | (refine Calm.g_load (ty := 36) rfl ?_; refine Calm.wl_load (ty := 36) S rfl rfl rfl (by (repeat (first | exact List.Mem.head _ | apply List.Mem.tail))) aggSc (by first | exact (Go.Arr.arr_size _ _ _).symm | rfl) ?_) | (refine Calm.g_store (ty := 36) rfl ?_; refine Calm.wl_store (ty := 36) S rfl rfl rfl rfl (by (repeat (first | exact Calm.foc_hd | apply Calm.foc_tl))) aggSc (by first | exact (Go.Arr.arr_size _ _ _).symm | rfl) (by first | exact (Go.Arr.arr_size _ _ _).symm | rfl) (by first | exact Go.Arr.arr_one _ _ _ | rfl | simp [Value.oneCell']) ?_; clear S; intro W S))
      refine Calm.ret_cell S (by rfl) (by rfl) (by repeat (first | exact List.Mem.head _ | apply List.Mem.tail)) aggSc (arr_size _ _ _).symm (by rfl) ?_
      exact ⟨rfl, S.below⟩
end Go.Proofs.Ytgjicjmihlcgkaa
