import Derived.Test.YtgjicjmihlcgkaaRzOps
set_option linter.unusedSimpArgs false
namespace Go.Proofs.Ytgjicjmihlcgkaa
open Go.RowKit Go.Arr
/-- A power modulo l. -/
def pe (A : Int) (n : Nat) : Int := A ^ n % el
/-- l - 2. -/
def eE : Nat := 7237005577332262213973186563042994240857116359379907606001950938285454250987
def invE (A : Int) : Int := pe A eE
theorem ok8_pe (A : Int) (n : Nat) : Ok8 (pe A n) := ok8_mod _
theorem wd_e : arr .u64 4 (dig 18446744073709551616 (eE : Int)) = #[.int .u64 6346243789798364139, .int .u64 1503914060200516822, .int .u64 0, .int .u64 1152921504606846976] := by kernel_rfl
theorem wd_1 : arr .u64 4 (dig 18446744073709551616 1) = #[.int .u64 1, .int .u64 0, .int .u64 0, .int .u64 0] := by kernel_rfl
theorem lmm (X : Int) : X % el % el = X % el := Int.emod_emod_of_dvd _ (Int.dvd_refl _)
theorem lml (X Y : Int) : X % el * Y % el = X * Y % el := by rw [Int.mul_emod, lmm, ← Int.mul_emod]
theorem lmr (X Y : Int) : X * (Y % el) % el = X * Y % el := by rw [Int.mul_emod, lmm, ← Int.mul_emod]
theorem pe_dbl (A : Int) (n : Nat) : pe A n * pe A n % el = pe A (2 * n) := by
  unfold pe; rw [lml, lmr, ← Int.pow_add]; congr 2; omega
theorem pe_succ (A : Int) (n : Nat) : pe A n * A % el = pe A (n + 1) := by unfold pe; rw [lml, Int.pow_succ]
theorem pe_0 (A : Int) : pe A 0 = 1 := by unfold pe el; simp
set_option maxHeartbeats 1000000 in
theorem Inverse_c (A : Int) (hA : Ok8 A) (w : World) : Calls Try.prog 27 #[.agg (arr .u8 32 (dig 256 A))] w fun e w' => e = .returned (.agg (arr .u8 32 (dig 256 (invE A)))) ∧ Below w.heap.size w w' := by
  have S := Calm.St.start w
  have HE := hide wd_e
  have H1 := hide wd_1
  go_enter Try.func27, Try.ntmps27
  go_wp2_with (first | (refine Calm.wl_box S rfl rfl rfl ?_; clear S; intro b W S) | (refine Calm.wl_new (ty := 36) S rfl rfl zeroSc ?_; clear S; intro b W S) | (refine Calm.g_load (ty := 36) rfl ?_; refine Calm.wl_load (ty := 36) S rfl rfl rfl (by (repeat (first | exact List.Mem.head _ | apply List.Mem.tail))) aggSc (by first | exact (Go.Arr.arr_size _ _ _).symm | rfl) ?_) | (refine Calm.g_store (ty := 36) rfl ?_; refine Calm.wl_store (ty := 36) S rfl rfl rfl rfl (by (repeat (first | exact Calm.foc_hd | apply Calm.foc_tl))) aggSc (by first | exact (Go.Arr.arr_size _ _ _).symm | rfl) (by first | exact (Go.Arr.arr_size _ _ _).symm | rfl) (by first | exact Go.Arr.arr_one _ _ _ | rfl | simp [Value.oneCell']) ?_; clear S; intro W S) | (refine Calm.wl_new (ty := 59) S rfl rfl zeroWd ?_; clear S; intro b W S) | (refine Calm.g_load (ty := 59) rfl ?_; refine Calm.wl_load (ty := 59) S rfl rfl rfl (by (repeat (first | exact List.Mem.head _ | apply List.Mem.tail))) aggWd (by first | exact (Go.Arr.arr_size _ _ _).symm | rfl) ?_) | (refine Calm.g_store (ty := 59) rfl ?_; refine Calm.wl_store (ty := 59) S rfl rfl rfl rfl (by (repeat (first | exact Calm.foc_hd | apply Calm.foc_tl))) aggWd (by first | exact (Go.Arr.arr_size _ _ _).symm | rfl) (by first | exact (Go.Arr.arr_size _ _ _).symm | rfl) (by first | exact Go.Arr.arr_one _ _ _ | rfl | simp [Value.oneCell']) ?_; clear S; intro W S))
  rename_i bA _ bR _ _ _ _ _ _
  rename Nat => bE
  refine (read_c A hA _).mono ?_
  rintro e W1 ⟨rfl, hb⟩
  have S := S.call hb
  clear hb
  go_wp2_with (first | (refine Calm.wl_box S rfl rfl rfl ?_; clear S; intro b W S) | (refine Calm.wl_new (ty := 36) S rfl rfl zeroSc ?_; clear S; intro b W S) | (refine Calm.g_load (ty := 36) rfl ?_; refine Calm.wl_load (ty := 36) S rfl rfl rfl (by (repeat (first | exact List.Mem.head _ | apply List.Mem.tail))) aggSc (by first | exact (Go.Arr.arr_size _ _ _).symm | rfl) ?_) | (refine Calm.g_store (ty := 36) rfl ?_; refine Calm.wl_store (ty := 36) S rfl rfl rfl rfl (by (repeat (first | exact Calm.foc_hd | apply Calm.foc_tl))) aggSc (by first | exact (Go.Arr.arr_size _ _ _).symm | rfl) (by first | exact (Go.Arr.arr_size _ _ _).symm | rfl) (by first | exact Go.Arr.arr_one _ _ _ | rfl | simp [Value.oneCell']) ?_; clear S; intro W S) | (refine Calm.wl_new (ty := 59) S rfl rfl zeroWd ?_; clear S; intro b W S) | (refine Calm.g_load (ty := 59) rfl ?_; refine Calm.wl_load (ty := 59) S rfl rfl rfl (by (repeat (first | exact List.Mem.head _ | apply List.Mem.tail))) aggWd (by first | exact (Go.Arr.arr_size _ _ _).symm | rfl) ?_) | (refine Calm.g_store (ty := 59) rfl ?_; refine Calm.wl_store (ty := 59) S rfl rfl rfl rfl (by (repeat (first | exact Calm.foc_hd | apply Calm.foc_tl))) aggWd (by first | exact (Go.Arr.arr_size _ _ _).symm | rfl) (by first | exact (Go.Arr.arr_size _ _ _).symm | rfl) (by first | exact Go.Arr.arr_one _ _ _ | rfl | simp [Value.oneCell']) ?_; clear S; intro W S))
  rw [← HE.out, ← H1.out] at S
  rename_i bN _ _ _ K hK
  go_loopw [12] (fun v Wr => ∃ k : Nat, k ≤ 253 ∧ v = .int .i64 k ∧ Calm.St w Wr [⟨b, arr .u64 4 (dig 18446744073709551616 (pe A (eE / 2 ^ (253 - k)))), 59⟩, ⟨bN, arr .u64 4 (dig 18446744073709551616 A), 59⟩, ⟨bE, arr .u64 4 (dig 18446744073709551616 (eE : Int)), 59⟩, ⟨bR, arr .u8 32 (fun _ => 0), 36⟩, ⟨bA, arr .u8 32 (dig 256 A), 36⟩]) (fun v _ => 253 - (intOf v).toNat)
  case atStart => exact ⟨0, by omega, rfl, by rw [show eE / 2 ^ (253 - 0) = 0 by kernel_rfl, pe_0]; exact S⟩
  case round =>
    clear S
    obtain ⟨k, hk, rfl, S⟩ := hrel
    by_cases hlt : k < 253
    · obtain ⟨t, ht⟩ : ∃ t : Nat, t = 252 - k := ⟨_, rfl⟩
      obtain ⟨q, hq⟩ : ∃ q : Nat, q = t / 64 := ⟨_, rfl⟩
      obtain ⟨r, hr⟩ : ∃ r : Nat, r = t % 64 := ⟨_, rfl⟩
      have hlt' : (k : Int) < 253 := by omega
      have f2 : IntKind.i64.wrap (252 - (k : Int)) = (t : Int) := by rw [IntKind.wrap_i64]; omega
      have f3 : IntKind.i64.wrap ((t : Int) / 64) = (q : Int) := by rw [wrap_small _ (by omega) (by omega)]; omega
      have f4 : (t : Int).tmod 64 = (r : Int) := by rw [Int.tmod_eq_emod_of_nonneg (by omega)]; omega
      have f5 : (q : Int) < 4 := by omega
      have f6 : r ≤ 64 := by omega
      obtain ⟨x, hx⟩ : ∃ x : Int, x = dig 18446744073709551616 (eE : Int) q := ⟨_, rfl⟩
      have Hx : Hid ((arr .u64 4 (dig 18446744073709551616 (eE : Int)))[q]? = some (.int .u64 x)) := by rw [hx]; exact arr_at _ _ _ q (by omega)
      have hxb := dig_bd M_pos (eE : Int) q
      rw [← hx] at hxb
      have hxr : 0 ≤ x / 2 ^ r ∧ x / 2 ^ r < 18446744073709551616 := shr_bd x r hxb.1 hxb.2
      have hbit : bits .and .u64 (x / 2 ^ r) 1 = ((eE / 2 ^ t % 2 : Nat) : Int) := by
        rw [and_one _ hxr.1 hxr.2, hx, wd1 (eE : Int) (by omega) q r (by omega), show 64 * q + r = t by omega, Int.natCast_emod, Int.natCast_ediv, Int.natCast_pow]; rfl
      have hst : eE / 2 ^ (253 - (k + 1)) = 2 * (eE / 2 ^ (253 - k)) + eE / 2 ^ t % 2 := by
        rw [show 253 - (k + 1) = t by omega, show 253 - k = t + 1 by omega, Nat.pow_succ, ← Nat.div_div_eq_div_mul]; omega
      have Hst := hide hst
      have Ht := hide ht
      clear ht hq hr hx hst
      go_wp2_with (first | (refine Calm.wl_box S rfl rfl rfl ?_; clear S; intro b W S) | (refine Calm.wl_new (ty := 59) S rfl rfl zeroWd ?_; clear S; intro b W S) | (refine Calm.g_load (ty := 59) rfl ?_; refine Calm.wl_load (ty := 59) S rfl rfl rfl (by (repeat (first | exact List.Mem.head _ | apply List.Mem.tail))) aggWd (by first | exact (Go.Arr.arr_size _ _ _).symm | rfl) ?_) | (refine Calm.g_store (ty := 59) rfl ?_; refine Calm.wl_store (ty := 59) S rfl rfl rfl rfl (by (repeat (first | exact Calm.foc_hd | apply Calm.foc_tl))) aggWd (by first | exact (Go.Arr.arr_size _ _ _).symm | rfl) (by first | exact (Go.Arr.arr_size _ _ _).symm | rfl) (by first | exact Go.Arr.arr_one _ _ _ | rfl | simp [Value.oneCell']) ?_; clear S; intro W S))
      refine (product_c _ _ (ok8_pe _ _) (ok8_pe _ _) _).mono ?_
      rintro e W1 ⟨rfl, hb⟩
      have S := S.call hb
      clear hb
      go_wp2_with (first | (refine Calm.wl_box S rfl rfl rfl ?_; clear S; intro b W S) | (refine Calm.wl_new (ty := 59) S rfl rfl zeroWd ?_; clear S; intro b W S) | (refine Calm.g_load (ty := 59) rfl ?_; refine Calm.wl_load (ty := 59) S rfl rfl rfl (by (repeat (first | exact List.Mem.head _ | apply List.Mem.tail))) aggWd (by first | exact (Go.Arr.arr_size _ _ _).symm | rfl) ?_) | (refine Calm.g_store (ty := 59) rfl ?_; refine Calm.wl_store (ty := 59) S rfl rfl rfl rfl (by (repeat (first | exact Calm.foc_hd | apply Calm.foc_tl))) aggWd (by first | exact (Go.Arr.arr_size _ _ _).symm | rfl) (by first | exact (Go.Arr.arr_size _ _ _).symm | rfl) (by first | exact Go.Arr.arr_one _ _ _ | rfl | simp [Value.oneCell']) ?_; clear S; intro W S))
      refine (rest_c _ (prod_ok (ok8_pe _ _) (ok8_pe _ _)) _).mono ?_
      rintro e W1 ⟨rfl, hb⟩
      have S := S.call hb
      clear hb
      rw [pe_dbl]
      have hb01 : eE / 2 ^ t % 2 = 0 ∨ eE / 2 ^ t % 2 = 1 := by omega
      rcases hb01 with hb0 | hb1
      · rw [hb0] at hbit
        have hbit' : bits .and .u64 (x / 2 ^ r) 1 = 0 := hbit
        have Hb := hide hb0
        clear hb0 hbit
        go_wp2_with (first | (refine Calm.wl_box S rfl rfl rfl ?_; clear S; intro b W S) | (refine Calm.wl_new (ty := 59) S rfl rfl zeroWd ?_; clear S; intro b W S) | (refine Calm.g_load (ty := 59) rfl ?_; refine Calm.wl_load (ty := 59) S rfl rfl rfl (by (repeat (first | exact List.Mem.head _ | apply List.Mem.tail))) aggWd (by first | exact (Go.Arr.arr_size _ _ _).symm | rfl) ?_) | (refine Calm.g_store (ty := 59) rfl ?_; refine Calm.wl_store (ty := 59) S rfl rfl rfl rfl (by (repeat (first | exact Calm.foc_hd | apply Calm.foc_tl))) aggWd (by first | exact (Go.Arr.arr_size _ _ _).symm | rfl) (by first | exact (Go.Arr.arr_size _ _ _).symm | rfl) (by first | exact Go.Arr.arr_one _ _ _ | rfl | simp [Value.oneCell']) ?_; clear S; intro W S) | (refine Calm.g_load (ty := 22) rfl ?_; refine Calm.wl_loadE (ty := 22) (b := bE) (v := .int .u64 x) S rfl rfl rfl (by (repeat (first | exact List.Mem.head _ | apply List.Mem.tail))) Hx.out o64 ?_))
        go_roundw
        case rel => exact ⟨k + 1, by omega, by go_num, by rw [Hst.out, Hb.out, Nat.add_zero]; exact S⟩
        case measure => simp [intOf]; omega
      · rw [hb1] at hbit
        have hbit' : bits .and .u64 (x / 2 ^ r) 1 = 1 := hbit
        have Hb := hide hb1
        clear hb1 hbit
        go_wp2_with (first | (refine Calm.wl_box S rfl rfl rfl ?_; clear S; intro b W S) | (refine Calm.wl_new (ty := 59) S rfl rfl zeroWd ?_; clear S; intro b W S) | (refine Calm.g_load (ty := 59) rfl ?_; refine Calm.wl_load (ty := 59) S rfl rfl rfl (by (repeat (first | exact List.Mem.head _ | apply List.Mem.tail))) aggWd (by first | exact (Go.Arr.arr_size _ _ _).symm | rfl) ?_) | (refine Calm.g_store (ty := 59) rfl ?_; refine Calm.wl_store (ty := 59) S rfl rfl rfl rfl (by (repeat (first | exact Calm.foc_hd | apply Calm.foc_tl))) aggWd (by first | exact (Go.Arr.arr_size _ _ _).symm | rfl) (by first | exact (Go.Arr.arr_size _ _ _).symm | rfl) (by first | exact Go.Arr.arr_one _ _ _ | rfl | simp [Value.oneCell']) ?_; clear S; intro W S) | (refine Calm.g_load (ty := 22) rfl ?_; refine Calm.wl_loadE (ty := 22) (b := bE) (v := .int .u64 x) S rfl rfl rfl (by (repeat (first | exact List.Mem.head _ | apply List.Mem.tail))) Hx.out o64 ?_))
        refine (product_c _ _ (ok8_pe _ _) hA _).mono ?_
        rintro e W1 ⟨rfl, hb⟩
        have S := S.call hb
        clear hb
        go_wp2_with (first | (refine Calm.wl_box S rfl rfl rfl ?_; clear S; intro b W S) | (refine Calm.wl_new (ty := 59) S rfl rfl zeroWd ?_; clear S; intro b W S) | (refine Calm.g_load (ty := 59) rfl ?_; refine Calm.wl_load (ty := 59) S rfl rfl rfl (by (repeat (first | exact List.Mem.head _ | apply List.Mem.tail))) aggWd (by first | exact (Go.Arr.arr_size _ _ _).symm | rfl) ?_) | (refine Calm.g_store (ty := 59) rfl ?_; refine Calm.wl_store (ty := 59) S rfl rfl rfl rfl (by (repeat (first | exact Calm.foc_hd | apply Calm.foc_tl))) aggWd (by first | exact (Go.Arr.arr_size _ _ _).symm | rfl) (by first | exact (Go.Arr.arr_size _ _ _).symm | rfl) (by first | exact Go.Arr.arr_one _ _ _ | rfl | simp [Value.oneCell']) ?_; clear S; intro W S))
        refine (rest_c _ (prod_ok (ok8_pe _ _) hA) _).mono ?_
        rintro e W1 ⟨rfl, hb⟩
        have S := S.call hb
        clear hb
        rw [pe_succ]
        go_wp2_with (first | (refine Calm.wl_box S rfl rfl rfl ?_; clear S; intro b W S) | (refine Calm.wl_new (ty := 59) S rfl rfl zeroWd ?_; clear S; intro b W S) | (refine Calm.g_load (ty := 59) rfl ?_; refine Calm.wl_load (ty := 59) S rfl rfl rfl (by (repeat (first | exact List.Mem.head _ | apply List.Mem.tail))) aggWd (by first | exact (Go.Arr.arr_size _ _ _).symm | rfl) ?_) | (refine Calm.g_store (ty := 59) rfl ?_; refine Calm.wl_store (ty := 59) S rfl rfl rfl rfl (by (repeat (first | exact Calm.foc_hd | apply Calm.foc_tl))) aggWd (by first | exact (Go.Arr.arr_size _ _ _).symm | rfl) (by first | exact (Go.Arr.arr_size _ _ _).symm | rfl) (by first | exact Go.Arr.arr_one _ _ _ | rfl | simp [Value.oneCell']) ?_; clear S; intro W S))
        go_roundw
        case rel => exact ⟨k + 1, by omega, by go_num, by rw [Hst.out, Hb.out]; exact S⟩
        case measure => simp [intOf]; omega
    · have hk' : k = 253 := by omega
      subst hk'
      rw [Nat.sub_self, Nat.pow_zero, Nat.div_one] at S
      go_wp2_with (first | (refine Calm.wl_box S rfl rfl rfl ?_; clear S; intro b W S) | (refine Calm.wl_new (ty := 59) S rfl rfl zeroWd ?_; clear S; intro b W S) | (refine Calm.g_load (ty := 59) rfl ?_; refine Calm.wl_load (ty := 59) S rfl rfl rfl (by (repeat (first | exact List.Mem.head _ | apply List.Mem.tail))) aggWd (by first | exact (Go.Arr.arr_size _ _ _).symm | rfl) ?_) | (refine Calm.g_store (ty := 59) rfl ?_; refine Calm.wl_store (ty := 59) S rfl rfl rfl rfl (by (repeat (first | exact Calm.foc_hd | apply Calm.foc_tl))) aggWd (by first | exact (Go.Arr.arr_size _ _ _).symm | rfl) (by first | exact (Go.Arr.arr_size _ _ _).symm | rfl) (by first | exact Go.Arr.arr_one _ _ _ | rfl | simp [Value.oneCell']) ?_; clear S; intro W S))
      refine (write_c _ (ok8_pe _ _) _).mono ?_
      rintro e W1 ⟨rfl, hb⟩
      have S := S.call hb
      clear hb
      go_wp2_with (first | (refine Calm.wl_box S rfl rfl rfl ?_; clear S; intro b W S) | (refine Calm.wl_new (ty := 36) S rfl rfl zeroSc ?_; clear S; intro b W S) | (refine Calm.g_load (ty := 36) rfl ?_; refine Calm.wl_load (ty := 36) S rfl rfl rfl (by (repeat (first | exact List.Mem.head _ | apply List.Mem.tail))) aggSc (by first | exact (Go.Arr.arr_size _ _ _).symm | rfl) ?_) | (refine Calm.g_store (ty := 36) rfl ?_; refine Calm.wl_store (ty := 36) S rfl rfl rfl rfl (by (repeat (first | exact Calm.foc_hd | apply Calm.foc_tl))) aggSc (by first | exact (Go.Arr.arr_size _ _ _).symm | rfl) (by first | exact (Go.Arr.arr_size _ _ _).symm | rfl) (by first | exact Go.Arr.arr_one _ _ _ | rfl | simp [Value.oneCell']) ?_; clear S; intro W S) | (refine Calm.wl_new (ty := 59) S rfl rfl zeroWd ?_; clear S; intro b W S) | (refine Calm.g_load (ty := 59) rfl ?_; refine Calm.wl_load (ty := 59) S rfl rfl rfl (by (repeat (first | exact List.Mem.head _ | apply List.Mem.tail))) aggWd (by first | exact (Go.Arr.arr_size _ _ _).symm | rfl) ?_) | (refine Calm.g_store (ty := 59) rfl ?_; refine Calm.wl_store (ty := 59) S rfl rfl rfl rfl (by (repeat (first | exact Calm.foc_hd | apply Calm.foc_tl))) aggWd (by first | exact (Go.Arr.arr_size _ _ _).symm | rfl) (by first | exact (Go.Arr.arr_size _ _ _).symm | rfl) (by first | exact Go.Arr.arr_one _ _ _ | rfl | simp [Value.oneCell']) ?_; clear S; intro W S))
      refine Calm.ret_cell S (by rfl) (by rfl) (by repeat (first | exact List.Mem.head _ | apply List.Mem.tail)) aggSc (arr_size _ _ _).symm (by rfl) ?_
      exact ⟨rfl, S.below⟩
end Go.Proofs.Ytgjicjmihlcgkaa
