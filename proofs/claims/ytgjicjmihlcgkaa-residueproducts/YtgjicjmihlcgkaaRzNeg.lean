import Derived.Test.YtgjicjmihlcgkaaRzRest
set_option linter.unusedSimpArgs false
namespace Go.Proofs.Ytgjicjmihlcgkaa
open Go.RowKit Go.Arr
theorem wd_0 : arr .u64 4 (dig 18446744073709551616 0) = #[.int .u64 0, .int .u64 0, .int .u64 0, .int .u64 0] := by kernel_rfl
theorem wd_el : arr .u64 4 (dig 18446744073709551616 el) = #[.int .u64 6346243789798364141, .int .u64 1503914060200516822, .int .u64 0, .int .u64 1152921504606846976] := by kernel_rfl
theorem ok8_0 : Ok8 0 := by unfold Ok8; omega
theorem sum_ok {A B : Int} (hA : Ok8 A) (hB : Ok8 B) : 0 ≤ A + B ∧ A + B < 18446744073709551616 ^ 8 := by rw [m_8]; unfold Ok8 at *; omega
theorem prod_ok {A B : Int} (hA : Ok8 A) (hB : Ok8 B) : 0 ≤ A * B ∧ A * B < 18446744073709551616 ^ 8 := by
  unfold Ok8 at *
  refine ⟨Int.mul_nonneg hA.1 hB.1, ?_⟩
  have h := Int.mul_le_mul (show A ≤ 115792089237316195423570985008687907853269984665640564039457584007913129639936 - 1 by omega) (show B ≤ 115792089237316195423570985008687907853269984665640564039457584007913129639936 - 1 by omega) hB.1 (by omega)
  rw [m_8]
  exact Int.lt_of_le_of_lt h (by decide)
/-- The words while one is taken off another. -/
def mixG (h g : Nat → Int) (k : Nat) (j : Nat) : Int := if j < k then g j else h j
theorem mix_at (n : Nat) (h g : Nat → Int) (k : Nat) (hk : k < n) : (arr .u64 n (mixG h g k))[k]? = some (.int .u64 (h k)) := by rw [arr_at _ _ _ k hk]; simp [mixG]
theorem mix_set (n : Nat) (h g : Nat → Int) (k : Nat) (s : Int) : arr .u64 n (mixG h (gset g k s) (k + 1)) = (arr .u64 n (mixG h g k)).setIfInBounds k (.int .u64 s) := by
  rw [← arr_set]
  refine arr_ext fun j _ => ?_
  by_cases e : j = k
  · subst e; rw [gset_eq]; unfold mixG; rw [if_pos (by omega), gset_eq]
  · rw [gset_ne _ _ _ e]
    unfold mixG
    by_cases hl : j < k
    · rw [if_pos hl, if_pos (by omega), gset_ne _ _ _ e]
    · rw [if_neg hl, if_neg (by omega)]
theorem neg_end (R : Int) (g : Nat → Int) (c : Int) (hR : 0 ≤ R ∧ R < el) (H : Br 18446744073709551616 (dig 18446744073709551616 el) (dig 18446744073709551616 R) g c 4) : arr .u64 4 (mixG (dig 18446744073709551616 el) g 4) = arr .u64 4 (dig 18446744073709551616 (el - R)) := by
  rw [arr_ext (g := mixG (dig 18446744073709551616 el) g 4) (h := g) (fun j hj => by unfold mixG; rw [if_pos hj]), arr_num M_pos .u64 4 g H.lo]
  have he := H.eq
  have h0 := H.c0
  have h1 := H.c1
  have hb := vB_bd M_pos g 4 H.lo
  rw [dig_v M_pos el 4 (by unfold el; omega) (by rw [m_4]; unfold el; omega), dig_v M_pos R 4 hR.1 (by rw [m_4]; unfold el at hR; omega), m_4] at he
  rw [m_4] at hb
  have : c = 0 ∨ c = 1 := by omega
  rcases this with rfl | rfl
  · rw [show vB 18446744073709551616 g 4 = el - R by omega]
  · omega
set_option maxHeartbeats 1000000 in
theorem negative_c (A : Int) (hA : Ok8 A) (w : World) : Calls Try.prog 50 #[.agg (arr .u64 4 (dig 18446744073709551616 A))] w fun e w' => e = .returned (.agg (arr .u64 4 (dig 18446744073709551616 (el - A % el)))) ∧ Below w.heap.size w w' := by
  have S := Calm.St.start w
  have hs := fun w => sum_c A 0 hA ok8_0 w
  rw [wd_0, Int.add_zero] at hs
  have Hs := hide hs
  have HW := hide wd_el
  clear hs
  go_enter Try.func50, Try.ntmps50
  go_wp2_with (first | (refine Calm.wl_box S rfl rfl rfl ?_; clear S; intro b W S) | (refine Calm.wl_new (ty := 59) S rfl rfl zeroWd ?_; clear S; intro b W S) | (refine Calm.g_load (ty := 59) rfl ?_; refine Calm.wl_load (ty := 59) S rfl rfl rfl (by (repeat (first | exact List.Mem.head _ | apply List.Mem.tail))) aggWd (by first | exact (Go.Arr.arr_size _ _ _).symm | rfl) ?_) | (refine Calm.g_store (ty := 59) rfl ?_; refine Calm.wl_store (ty := 59) S rfl rfl rfl rfl (by (repeat (first | exact Calm.foc_hd | apply Calm.foc_tl))) aggWd (by first | exact (Go.Arr.arr_size _ _ _).symm | rfl) (by first | exact (Go.Arr.arr_size _ _ _).symm | rfl) (by first | exact Go.Arr.arr_one _ _ _ | rfl | simp [Value.oneCell']) ?_; clear S; intro W S))
  rename_i bA _ _ _ _ _
  rename Nat => bR
  refine (Hs.out _).mono ?_
  rintro e W1 ⟨rfl, hb⟩
  have S := S.call hb
  clear hb
  go_wp2_with (first | (refine Calm.wl_box S rfl rfl rfl ?_; clear S; intro b W S) | (refine Calm.wl_new (ty := 59) S rfl rfl zeroWd ?_; clear S; intro b W S) | (refine Calm.g_load (ty := 59) rfl ?_; refine Calm.wl_load (ty := 59) S rfl rfl rfl (by (repeat (first | exact List.Mem.head _ | apply List.Mem.tail))) aggWd (by first | exact (Go.Arr.arr_size _ _ _).symm | rfl) ?_) | (refine Calm.g_store (ty := 59) rfl ?_; refine Calm.wl_store (ty := 59) S rfl rfl rfl rfl (by (repeat (first | exact Calm.foc_hd | apply Calm.foc_tl))) aggWd (by first | exact (Go.Arr.arr_size _ _ _).symm | rfl) (by first | exact (Go.Arr.arr_size _ _ _).symm | rfl) (by first | exact Go.Arr.arr_one _ _ _ | rfl | simp [Value.oneCell']) ?_; clear S; intro W S))
  refine (rest_c A (by have := sum_ok hA ok8_0; simpa using this) _).mono ?_
  rintro e W1 ⟨rfl, hb⟩
  have S := S.call hb
  clear hb
  go_wp2_with (first | (refine Calm.wl_box S rfl rfl rfl ?_; clear S; intro b W S) | (refine Calm.wl_new (ty := 59) S rfl rfl zeroWd ?_; clear S; intro b W S) | (refine Calm.g_load (ty := 59) rfl ?_; refine Calm.wl_load (ty := 59) S rfl rfl rfl (by (repeat (first | exact List.Mem.head _ | apply List.Mem.tail))) aggWd (by first | exact (Go.Arr.arr_size _ _ _).symm | rfl) ?_) | (refine Calm.g_store (ty := 59) rfl ?_; refine Calm.wl_store (ty := 59) S rfl rfl rfl rfl (by (repeat (first | exact Calm.foc_hd | apply Calm.foc_tl))) aggWd (by first | exact (Go.Arr.arr_size _ _ _).symm | rfl) (by first | exact (Go.Arr.arr_size _ _ _).symm | rfl) (by first | exact Go.Arr.arr_one _ _ _ | rfl | simp [Value.oneCell']) ?_; clear S; intro W S))
  rw [← HW.out] at S
  rename_i K hK
  go_loopw [11, 4] (fun v cc Wr => ∃ (k : Nat) (g : Nat → Int) (c : Int), k ≤ 4 ∧ v = .int .i64 k ∧ cc = .int .u64 c ∧ Br 18446744073709551616 (dig 18446744073709551616 el) (dig 18446744073709551616 (A % el)) g c k ∧ Calm.St w Wr [⟨b, arr .u64 4 (mixG (dig 18446744073709551616 el) g k), 59⟩, ⟨bR, arr .u64 4 (fun _ => 0), 59⟩, ⟨bA, arr .u64 4 (dig 18446744073709551616 (A % el)), 59⟩]) (fun v _ _ => 4 - (intOf v).toNat)
  case atStart => exact ⟨0, fun _ => 0, 0, by omega, rfl, rfl, ⟨fun j h => by omega, by omega, by omega, by simp [vB]⟩, by rw [show arr .u64 4 (mixG (dig 18446744073709551616 el) (fun _ => 0) 0) = arr .u64 4 (dig 18446744073709551616 el) from arr_ext fun j _ => by simp [mixG]]; exact S⟩
  case round =>
    clear S
    obtain ⟨k, g, c, hk, rfl, rfl, hC, S⟩ := hrel
    by_cases hlt : k < 4
    · have g5 : (k : Int) < 4 := by omega
      have ba := dig_bd M_pos el k
      have bb := dig_bd M_pos (A % el) k
      obtain ⟨s, o, hs, s0, s1, o0, o1, HS⟩ := difE (dig 18446744073709551616 el k) (dig 18446744073709551616 (A % el) k) c ba.1 ba.2 bb.1 bb.2 hC.c0 hC.c1
      have Hs := hide hs
      have Ha := hide (mix_at 4 (dig 18446744073709551616 el) g k hlt)
      have Hb := hide (arr_at .u64 4 (dig 18446744073709551616 (A % el)) k hlt)
      clear hs
      go_wp2_with fail
      refine Calm.region_sched S [(0, true), (1, true), (2, true), (4, true), (5, true), (6, true), (7, true), (3, false), (8, true), (9, true), (10, true), (11, true), (12, true), (13, false), (14, true)] [⟨bA, arr .u64 4 (dig 18446744073709551616 (A % el)), 59⟩] (by kernel_rfl) (by kernel_rfl) (by simp) (by intro c a d v w h; cases d <;> exact h) (fun S => ?_)
      iterate 5 (apply Calm.wh_val rfl (by rfl); (intro w; go_simp; rfl); simp only [List.getElem_toArray, List.getElem_cons_succ, List.getElem_cons_zero, Act.put, Act.eval, Array.getD_eq_getD_getElem?, List.getElem?_toArray, List.getElem?_cons_zero, List.getElem?_cons_succ, Option.getD_some, List.setIfInBounds_toArray, List.set_cons_zero, List.set_cons_succ])
      (refine Calm.wh_loadE (ty := 22) (b := bA) (v := .int .u64 (dig 18446744073709551616 (A % el) k)) rfl (by rfl) rfl rfl (by (repeat (first | exact List.Mem.head _ | apply List.Mem.tail))) Hb.out o64 ?_; simp only [List.getElem_toArray, List.getElem_cons_succ, List.getElem_cons_zero, Act.put, Act.eval, Array.getD_eq_getD_getElem?, List.getElem?_toArray, List.getElem?_cons_zero, List.getElem?_cons_succ, Option.getD_some, List.setIfInBounds_toArray, List.set_cons_zero, List.set_cons_succ])
      (apply Calm.wh_val rfl (by rfl); (intro w; go_simp; rfl); simp only [List.getElem_toArray, List.getElem_cons_succ, List.getElem_cons_zero, Act.put, Act.eval, Array.getD_eq_getD_getElem?, List.getElem?_toArray, List.getElem?_cons_zero, List.getElem?_cons_succ, Option.getD_some, List.setIfInBounds_toArray, List.set_cons_zero, List.set_cons_succ])
      (refine Calm.whB_loadE (ty := 22) (b := b) (v := .int .u64 (dig 18446744073709551616 el k)) S (by simp) rfl (by rfl) rfl rfl (by (repeat (first | exact List.Mem.head _ | apply List.Mem.tail))) Ha.out o64 ?_; simp only [List.getElem_toArray, List.getElem_cons_succ, List.getElem_cons_zero, Act.put, Act.eval, Array.getD_eq_getD_getElem?, List.getElem?_toArray, List.getElem?_cons_zero, List.getElem?_cons_succ, Option.getD_some, List.setIfInBounds_toArray, List.set_cons_zero, List.set_cons_succ])
      (apply Calm.wh_val rfl (by rfl); (intro w; go_simp; exact Hs.out w); simp only [List.getElem_toArray, List.getElem_cons_succ, List.getElem_cons_zero, Act.put, Act.eval, Array.getD_eq_getD_getElem?, List.getElem?_toArray, List.getElem?_cons_zero, List.getElem?_cons_succ, Option.getD_some, List.setIfInBounds_toArray, List.set_cons_zero, List.set_cons_succ])
      iterate 4 (apply Calm.wh_val rfl (by rfl); (intro w; go_simp; rfl); simp only [List.getElem_toArray, List.getElem_cons_succ, List.getElem_cons_zero, Act.put, Act.eval, Array.getD_eq_getD_getElem?, List.getElem?_toArray, List.getElem?_cons_zero, List.getElem?_cons_succ, Option.getD_some, List.setIfInBounds_toArray, List.set_cons_zero, List.set_cons_succ])
      (refine Calm.whB_storeE (ty := 22) (b := b) (cs := arr .u64 4 (mixG (dig 18446744073709551616 el) (gset g k s) (k + 1))) S rfl (by rfl) rfl rfl rfl (mix_set _ _ _ _ _) (by (repeat (first | exact Calm.foc_hd | apply Calm.foc_tl))) o64 (by first | (rw [Go.Arr.arr_size]; omega) | (simp only [Array.size_setIfInBounds, Go.Arr.arr_size]; omega) | (simp only [Array.size_setIfInBounds, Go.Arr.arr_size]; decide)) rfl (by simp) ?_; clear S; intro W S; simp only [List.getElem_toArray, List.getElem_cons_succ, List.getElem_cons_zero, Act.put, Act.eval, Array.getD_eq_getD_getElem?, List.getElem?_toArray, List.getElem?_cons_zero, List.getElem?_cons_succ, Option.getD_some, List.setIfInBounds_toArray, List.set_cons_zero, List.set_cons_succ])
      (apply Calm.wh_val rfl (by rfl); (intro w; go_simp; rfl); simp only [List.getElem_toArray, List.getElem_cons_succ, List.getElem_cons_zero, Act.put, Act.eval, Array.getD_eq_getD_getElem?, List.getElem?_toArray, List.getElem?_cons_zero, List.getElem?_cons_succ, Option.getD_some, List.setIfInBounds_toArray, List.set_cons_zero, List.set_cons_succ])
      refine Calm.wh_nil ?_
      go_wp2_with fail
      go_roundw
      case rel => exact ⟨k + 1, _, _, by omega, by go_num, rfl, hC.step s0 s1 o0 o1 HS.out, S⟩
      case measure => simp [intOf]; omega
    · have hk' : k = 4 := by omega
      subst hk'
      rw [neg_end (A % el) g c (by unfold el; omega) hC] at S
      go_wp2_with (first | (refine Calm.wl_box S rfl rfl rfl ?_; clear S; intro b W S) | (refine Calm.wl_new (ty := 59) S rfl rfl zeroWd ?_; clear S; intro b W S) | (refine Calm.g_load (ty := 59) rfl ?_; refine Calm.wl_load (ty := 59) S rfl rfl rfl (by (repeat (first | exact List.Mem.head _ | apply List.Mem.tail))) aggWd (by first | exact (Go.Arr.arr_size _ _ _).symm | rfl) ?_) | (refine Calm.g_store (ty := 59) rfl ?_; refine Calm.wl_store (ty := 59) S rfl rfl rfl rfl (by (repeat (first | exact Calm.foc_hd | apply Calm.foc_tl))) aggWd (by first | exact (Go.Arr.arr_size _ _ _).symm | rfl) (by first | exact (Go.Arr.arr_size _ _ _).symm | rfl) (by first | exact Go.Arr.arr_one _ _ _ | rfl | simp [Value.oneCell']) ?_; clear S; intro W S))
      refine Calm.ret_cell S (by rfl) (by rfl) (by repeat (first | exact List.Mem.head _ | apply List.Mem.tail)) aggWd (arr_size _ _ _).symm (by rfl) ?_
      exact ⟨rfl, S.below⟩
end Go.Proofs.Ytgjicjmihlcgkaa
