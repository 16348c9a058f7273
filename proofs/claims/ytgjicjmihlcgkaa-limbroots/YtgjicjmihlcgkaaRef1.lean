import Derived.Test.YtgjicjmihlcgkaaReduce
set_option linter.unusedSimpArgs false
namespace Go.Proofs.Ytgjicjmihlcgkaa
open Go.RowKit
theorem aggW4 : Calm.AggT Try.prog 23 4 := ⟨⟨_, Try.underlying23, rfl⟩, by kernel_rfl⟩
theorem zeroW4 : (Try.prog.info? 23).bind (·.zero) = some (.agg #[.int .u64 0, .int .u64 0, .int .u64 0, .int .u64 0]) := by kernel_rfl
theorem nu_lt (n : Int) : ∀ j, j < 8 → 0 ≤ nuG n j ∧ nuG n j < 1099511627776 := fun j _ => by have := nuG_bd n j; omega
theorem wd32_key (X : Nat) (q r : Nat) (hr : r < 2) : (X / 2 ^ (64 * q) % 18446744073709551616) / 2 ^ (32 * r) % 4294967296 = X / 4294967296 ^ (2 * q + r) % 4294967296 := by
  have e1 : (4294967296 : Nat) ^ (2 * q + r) = 2 ^ (64 * q) * 2 ^ (32 * r) := by
    rw [show (4294967296 : Nat) = 2 ^ 32 from rfl, ← Nat.pow_mul, ← Nat.pow_add]; congr 1; omega
  have e2 : (18446744073709551616 : Nat) = 2 ^ (32 * r) * (2 ^ (32 - 32 * r) * 4294967296) := by
    rw [← Nat.mul_assoc, ← Nat.pow_add, show 32 * r + (32 - 32 * r) = 32 by omega]
  rw [e1, ← Nat.div_div_eq_div_mul]
  generalize X / 2 ^ (64 * q) = y
  rw [e2, Nat.mod_mul_right_div_self, Nat.mod_mul_left_mod]
theorem wd32_at (X : Int) (hX : Ok X) (q r s : Nat) (hq : q < 4) (hr : r < 2) (hs : s = 32 * r) : ∃ x : Int, (feC X)[q]? = some (.int .u64 x) ∧ 0 ≤ x ∧ x < 18446744073709551616 ∧ Hid (x / 2 ^ s % 4294967296 = nuG X (2 * q + r)) := by
  unfold Ok at hX
  obtain ⟨Y, rfl⟩ := Int.eq_ofNat_of_zero_le hX.1
  have key := wd32_key Y q r hr
  have fin : ∀ x : Nat, x = Y / 2 ^ (64 * q) % 18446744073709551616 → Hid (((x : Nat) : Int) / 2 ^ s % 4294967296 = nuG (Y : Int) (2 * q + r)) := by
    intro x hx
    unfold Hid nuG
    rw [hs, hx]
    have h := congrArg (fun n : Nat => (n : Int)) key
    simp only [Int.natCast_emod, Int.natCast_ediv, Int.natCast_pow] at h ⊢
    exact h
  have c : q = 0 ∨ q = 1 ∨ q = 2 ∨ q = 3 := by omega
  rcases c with rfl | rfl | rfl | rfl
  · exact ⟨((Y % 18446744073709551616 : Nat) : Int), by rw [Int.natCast_emod]; rfl, by omega, by omega, fin _ (by rw [show 2 ^ (64 * 0) = 1 from rfl]; omega)⟩
  · exact ⟨((Y / 18446744073709551616 % 18446744073709551616 : Nat) : Int), by rw [Int.natCast_emod, Int.natCast_ediv]; rfl, by omega, by omega, fin _ rfl⟩
  · exact ⟨((Y / 340282366920938463463374607431768211456 % 18446744073709551616 : Nat) : Int), by rw [Int.natCast_emod, Int.natCast_ediv]; rfl, by omega, by omega, fin _ rfl⟩
  · exact ⟨((Y / 6277101735386680763835789423207666416102355444464034512896 % 18446744073709551616 : Nat) : Int), by rw [Int.natCast_emod, Int.natCast_ediv]; rfl, by omega, by omega, fin _ rfl⟩
set_option maxHeartbeats 1000000 in
theorem Words_c (A : Int) (hA : Ok A) (w : World) : Calls Try.prog 40 #[.agg (feC A)] w fun e w' => e = .returned (.agg (nuC (A % pr))) ∧ Below w.heap.size w w' := by
  have S := Calm.St.start w
  have hR := fun w => Reduce_c (nuG A) (nu_lt A) w
  rw [val_nu A hA] at hR
  have HR := hide hR
  clear hR
  go_enter Try.func40, Try.ntmps40
  go_wp2_with (first | (refine Calm.wl_box S rfl rfl rfl ?_; clear S; intro b W S) | (refine Calm.wl_new (ty := 24) S rfl rfl zeroFe ?_; clear S; intro b W S) | (refine Calm.g_load (ty := 24) rfl ?_; refine Calm.wl_load (ty := 24) S rfl rfl rfl (by (repeat (first | exact List.Mem.head _ | apply List.Mem.tail))) aggFe (by simp only [List.size_toArray, List.length_cons, List.length_nil, feC_size]) ?_) | (refine Calm.g_store (ty := 24) rfl ?_; refine Calm.wl_store (ty := 24) S rfl rfl rfl rfl (by (repeat (first | exact Calm.foc_hd | apply Calm.foc_tl))) aggFe rfl (by simp only [List.size_toArray, List.length_cons, List.length_nil, feC_size]) (w4_one _ _ _ _) ?_; clear S; intro W S) | (refine Calm.g_load (ty := 22) rfl ?_; refine Calm.wl_loadE (ty := 22) S rfl rfl rfl (by (repeat (first | exact List.Mem.head _ | apply List.Mem.tail))) (by rfl) one64 ?_) | (refine Calm.g_store (ty := 22) rfl ?_; refine Calm.wl_storeE (ty := 22) S rfl rfl rfl rfl (by rfl) (by (repeat (first | exact Calm.foc_hd | apply Calm.foc_tl))) one64 (by simp) rfl ?_; clear S; intro W S; simp only [Act.eval, Array.getD_eq_getD_getElem?, List.getElem?_toArray, List.getElem?_cons_zero, List.getElem?_cons_succ, Option.getD_some, List.setIfInBounds_toArray, List.set_cons_zero, List.set_cons_succ] at S) | (refine Calm.wl_new (ty := 28) S rfl rfl zeroNu ?_; clear S; intro b W S))
  rename_i bA _ bR _ K hK
  go_loopw [4] (fun i Wr => ∃ (k : Nat) (g : Nat → Int), k ≤ 8 ∧ i = .int .i64 (k : Int) ∧ (∀ j, j < k → g j = nuG A j) ∧ Calm.St w Wr [⟨b, nuF g, 28⟩, ⟨bR, nuF (fun _ => 0), 28⟩, ⟨bA, feC A, 23⟩]) (fun i _ => 8 - (intOf i).toNat)
  case atStart => exact ⟨0, _, by omega, rfl, fun j h => by omega, S⟩
  case round =>
    clear S
    obtain ⟨k, g, hk, rfl, hg, S⟩ := hrel
    by_cases hlt : k < 8
    · obtain ⟨q, hq⟩ : ∃ q : Nat, q = k / 2 := ⟨_, rfl⟩
      obtain ⟨r, hr⟩ : ∃ r : Nat, r = k % 2 := ⟨_, rfl⟩
      obtain ⟨s, hs⟩ : ∃ s : Nat, s = 32 * r := ⟨_, rfl⟩
      have g1 : IntKind.i64.wrap ((k : Int) / 2) = (q : Int) := by rw [wrap_small _ (by omega) (by omega)]; omega
      have g2 : (k : Int).tmod 2 = (r : Int) := by rw [Int.tmod_eq_emod_of_nonneg (by omega)]; omega
      have g3 : IntKind.i64.wrap (32 * (r : Int)) = (s : Int) := by rw [wrap_small _ (by omega) (by omega)]; omega
      have g4 : (q : Int) < 4 := by omega
      have g5 : (k : Int) < 8 := by omega
      have hs64 : s ≤ 64 := by omega
      obtain ⟨x, hx, hx0, hx1, HX⟩ := wd32_at A hA q r s (by omega) (by omega) hs
      have Hx := hide hx
      have Hk := hide (show 2 * q + r = k by omega)
      have g6 : (x / 2 ^ s).tmod 4294967296 = x / 2 ^ s % 4294967296 := Int.tmod_eq_emod_of_nonneg (Int.ediv_nonneg hx0 (Int.le_of_lt (Int.pow_pos (by omega))))
      clear hx hq hr hs
      go_wp2_with (first | (refine Calm.g_load (ty := 22) rfl ?_; refine Calm.wl_loadE (ty := 22) (b := bA) (v := .int .u64 x) S rfl rfl rfl (by repeat (first | exact List.Mem.head _ | apply List.Mem.tail)) Hx.out one64 ?_) | (refine Calm.g_store (ty := 22) rfl ?_; refine Calm.wl_storeE (ty := 22) (b := b) (cs := nuF (upd g k (x / 2 ^ s % 4294967296))) S rfl rfl rfl rfl (nuF_set _ _ _) (by (repeat (first | exact Calm.foc_hd | apply Calm.foc_tl))) one64 (by rw [nuF_size]; omega) rfl ?_; clear S; intro W S))
      go_roundw
      case rel =>
        refine ⟨k + 1, _, by omega, by go_num, fun j hj => ?_, S⟩
        by_cases e : j = k
        · subst e; rw [upd_eq, HX.out, Hk.out]
        · rw [upd_ne _ _ _ e]; exact hg j (by omega)
      case measure => simp [intOf]; omega
    · have hk' : k = 8 := by omega
      subst hk'
      rw [nuF_ext g (nuG A) (fun j hj => hg j hj)] at S
      go_wp2_with (first | (refine Calm.wl_box S rfl rfl rfl ?_; clear S; intro b W S) | (refine Calm.wl_new (ty := 24) S rfl rfl zeroFe ?_; clear S; intro b W S) | (refine Calm.g_load (ty := 24) rfl ?_; refine Calm.wl_load (ty := 24) S rfl rfl rfl (by (repeat (first | exact List.Mem.head _ | apply List.Mem.tail))) aggFe (by simp only [List.size_toArray, List.length_cons, List.length_nil, feC_size]) ?_) | (refine Calm.g_store (ty := 24) rfl ?_; refine Calm.wl_store (ty := 24) S rfl rfl rfl rfl (by (repeat (first | exact Calm.foc_hd | apply Calm.foc_tl))) aggFe rfl (by simp only [List.size_toArray, List.length_cons, List.length_nil, feC_size]) (w4_one _ _ _ _) ?_; clear S; intro W S) | (refine Calm.g_load (ty := 22) rfl ?_; refine Calm.wl_loadE (ty := 22) S rfl rfl rfl (by (repeat (first | exact List.Mem.head _ | apply List.Mem.tail))) (by rfl) one64 ?_) | (refine Calm.g_store (ty := 22) rfl ?_; refine Calm.wl_storeE (ty := 22) S rfl rfl rfl rfl (by rfl) (by (repeat (first | exact Calm.foc_hd | apply Calm.foc_tl))) one64 (by simp) rfl ?_; clear S; intro W S; simp only [Act.eval, Array.getD_eq_getD_getElem?, List.getElem?_toArray, List.getElem?_cons_zero, List.getElem?_cons_succ, Option.getD_some, List.setIfInBounds_toArray, List.set_cons_zero, List.set_cons_succ] at S) | (refine Calm.g_load (ty := 28) rfl ?_; refine Calm.wl_load (ty := 28) S rfl rfl rfl (by repeat (first | exact List.Mem.head _ | apply List.Mem.tail)) aggNu (by rw [nuF_size]) ?_))
      refine (HR.out _).mono ?_
      rintro e W1 ⟨rfl, hb⟩
      have S := S.call hb
      clear hb
      go_wp2_with (first | (refine Calm.g_store (ty := 28) rfl ?_; refine Calm.wl_store (ty := 28) S rfl rfl rfl rfl (by (repeat (first | exact Calm.foc_hd | apply Calm.foc_tl))) aggNu (by unfold nuC; rw [nuF_size]) (by rw [nuF_size]) (nuF_one _) ?_; clear S; intro W S))
      refine Calm.ret_cell S (by rfl) (by rfl) (by repeat (first | exact List.Mem.head _ | apply List.Mem.tail)) aggNu (by unfold nuC; rw [nuF_size]) (by rfl) ?_
      exact ⟨rfl, S.below⟩
theorem num_c (A : Int) (hA : Ok A) (w : World) : Calls Try.prog 11 #[.agg (feC A)] w fun e w' => e = .returned (.agg (nuC (A % pr))) ∧ Below w.heap.size w w' := by
  have S := Calm.St.start w
  go_enter Try.func11, Try.ntmps11
  go_wp2_with (first | (refine Calm.wl_box S rfl rfl rfl ?_; clear S; intro b W S) | (refine Calm.wl_new (ty := 24) S rfl rfl zeroFe ?_; clear S; intro b W S) | (refine Calm.g_load (ty := 24) rfl ?_; refine Calm.wl_load (ty := 24) S rfl rfl rfl (by (repeat (first | exact List.Mem.head _ | apply List.Mem.tail))) aggFe (by simp only [List.size_toArray, List.length_cons, List.length_nil, feC_size]) ?_) | (refine Calm.g_store (ty := 24) rfl ?_; refine Calm.wl_store (ty := 24) S rfl rfl rfl rfl (by (repeat (first | exact Calm.foc_hd | apply Calm.foc_tl))) aggFe rfl (by simp only [List.size_toArray, List.length_cons, List.length_nil, feC_size]) (w4_one _ _ _ _) ?_; clear S; intro W S) | (refine Calm.g_load (ty := 22) rfl ?_; refine Calm.wl_loadE (ty := 22) S rfl rfl rfl (by (repeat (first | exact List.Mem.head _ | apply List.Mem.tail))) (by rfl) one64 ?_) | (refine Calm.g_store (ty := 22) rfl ?_; refine Calm.wl_storeE (ty := 22) S rfl rfl rfl rfl (by rfl) (by (repeat (first | exact Calm.foc_hd | apply Calm.foc_tl))) one64 (by simp) rfl ?_; clear S; intro W S; simp only [Act.eval, Array.getD_eq_getD_getElem?, List.getElem?_toArray, List.getElem?_cons_zero, List.getElem?_cons_succ, Option.getD_some, List.setIfInBounds_toArray, List.set_cons_zero, List.set_cons_succ] at S) | (refine Calm.wl_new (ty := 28) S rfl rfl zeroNu ?_; clear S; intro b W S))
  refine (Words_c A hA _).mono ?_
  rintro e W1 ⟨rfl, hb⟩
  have S := S.call hb
  clear hb
  go_wp2_with (first | (refine Calm.g_store (ty := 28) rfl ?_; refine Calm.wl_store (ty := 28) S rfl rfl rfl rfl (by (repeat (first | exact Calm.foc_hd | apply Calm.foc_tl))) aggNu (by unfold nuC; rw [nuF_size]) (by rw [nuF_size]) (nuF_one _) ?_; clear S; intro W S))
  refine Calm.ret_cell S (by rfl) (by rfl) (by repeat (first | exact List.Mem.head _ | apply List.Mem.tail)) aggNu (by unfold nuC; rw [nuF_size]) (by rfl) ?_
  exact ⟨rfl, S.below⟩
end Go.Proofs.Ytgjicjmihlcgkaa
