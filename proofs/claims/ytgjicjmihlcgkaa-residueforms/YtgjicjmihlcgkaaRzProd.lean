import Derived.Test.YtgjicjmihlcgkaaRzSum
set_option linter.unusedSimpArgs false
namespace Go.Proofs.Ytgjicjmihlcgkaa
open Go.RowKit Go.Arr
/-- A product of two words, under new names. -/
theorem mulE (x y : Int) (hx : 0 ≤ x) (hx' : x < 18446744073709551616) (hy : 0 ≤ y) (hy' : y < 18446744073709551616) : ∃ hi lo : Int, (∀ w, Calls Try.prog 67 #[.int .u64 x, .int .u64 y] w fun e w' => e = .returned (.tuple #[.int .u64 hi, .int .u64 lo]) ∧ Below w.heap.size w w') ∧ 0 ≤ hi ∧ hi < 18446744073709551615 ∧ 0 ≤ lo ∧ lo < 18446744073709551616 ∧ Hid (lo + 18446744073709551616 * hi = x * y) := by
  have hm : x * y ≤ 18446744073709551615 * 18446744073709551615 := Int.mul_le_mul (by omega) (by omega) (by omega) (by omega)
  have hm0 : 0 ≤ x * y := Int.mul_nonneg hx hy
  refine ⟨x * y / 18446744073709551616, x * y % 18446744073709551616, fun w => ?_, by omega, by omega, by omega, by omega, by unfold Hid; omega⟩
  refine (mul64 x y hx hx' hy hy' w).mono ?_
  rintro e w' ⟨hi, lo, rfl, rfl, h1, h2, h3, h4, H⟩
  have := H.out
  generalize x * y = z at *
  exact ⟨by rw [show lo = z % 18446744073709551616 from by omega, show hi = z / 18446744073709551616 from by omega], Below.refl _ _⟩
theorem prod_end (A B : Int) (h : Nat → Int) (hA : Ok8 A) (hB : Ok8 B) (hh : ∀ j, 0 ≤ h j ∧ h j < 18446744073709551616) (hv : vB 18446744073709551616 h 8 = vB 18446744073709551616 (dig 18446744073709551616 A) 4 * vB 18446744073709551616 (dig 18446744073709551616 B) 4) : arr .u64 8 h = arr .u64 8 (dig 18446744073709551616 (A * B)) := by
  rw [arr_num M_pos .u64 8 h (fun j _ => hh j), hv, dig_v M_pos A 4 hA.1 (by rw [m_4]; exact hA.2), dig_v M_pos B 4 hB.1 (by rw [m_4]; exact hB.2)]
theorem row_sum (hi lo n a x s1 o1 s2 o2 : Int) (h : lo + 18446744073709551616 * hi = x) (h1 : s1 + 18446744073709551616 * o1 = lo + n + 0) (h2 : s2 + 18446744073709551616 * o2 = s1 + a + 0) : s2 + 18446744073709551616 * (hi + o1 + o2) = a + n + x := by omega
set_option maxHeartbeats 2000000 in
theorem product_c (A B : Int) (hA : Ok8 A) (hB : Ok8 B) (w : World) : Calls Try.prog 51 #[.agg (arr .u64 4 (dig 18446744073709551616 A)), .agg (arr .u64 4 (dig 18446744073709551616 B))] w fun e w' => e = .returned (.agg (arr .u64 8 (dig 18446744073709551616 (A * B)))) ∧ Below w.heap.size w w' := by
  have S := Calm.St.start w
  go_enter Try.func51, Try.ntmps51
  go_wp2_with (first | (refine Calm.wl_box S rfl rfl rfl ?_; clear S; intro b W S) | (refine Calm.wl_new (ty := 60) S rfl rfl zeroWi ?_; clear S; intro b W S) | (refine Calm.g_load (ty := 60) rfl ?_; refine Calm.wl_load (ty := 60) S rfl rfl rfl (by (repeat (first | exact List.Mem.head _ | apply List.Mem.tail))) aggWi (by first | exact (Go.Arr.arr_size _ _ _).symm | rfl) ?_) | (refine Calm.g_store (ty := 60) rfl ?_; refine Calm.wl_store (ty := 60) S rfl rfl rfl rfl (by (repeat (first | exact Calm.foc_hd | apply Calm.foc_tl))) aggWi (by first | exact (Go.Arr.arr_size _ _ _).symm | rfl) (by first | exact (Go.Arr.arr_size _ _ _).symm | rfl) (by first | exact Go.Arr.arr_one _ _ _ | rfl | simp [Value.oneCell']) ?_; clear S; intro W S))
  rename_i bA _ bB _ bR _ K hK
  go_loopw [12] (fun ii Wr => ∃ (i : Nat) (h : Nat → Int), i ≤ 4 ∧ ii = .int .i64 (i : Int) ∧ (∀ j, 0 ≤ h j ∧ h j < 18446744073709551616) ∧ (∀ j, i + 4 ≤ j → h j = 0) ∧ vB 18446744073709551616 h 8 = vB 18446744073709551616 (dig 18446744073709551616 A) i * vB 18446744073709551616 (dig 18446744073709551616 B) 4 ∧ Calm.St w Wr [⟨b, arr .u64 8 h, 60⟩, ⟨bR, arr .u64 8 (fun _ => 0), 60⟩, ⟨bB, arr .u64 4 (dig 18446744073709551616 B), 59⟩, ⟨bA, arr .u64 4 (dig 18446744073709551616 A), 59⟩]) (fun ii _ => 4 - (intOf ii).toNat)
  case atStart => exact ⟨0, _, by omega, rfl, fun j => by omega, fun _ _ => rfl, by rw [vB_zero]; simp [vB], S⟩
  case round =>
    clear S
    obtain ⟨i, h, hi, rfl, hh, hz, hv, S⟩ := hrel
    by_cases hlt : i < 4
    · have hlt' : (i : Int) < 4 := by omega
      have HZ := hide hz
      have HV := hide hv
      have HH := hide hh
      clear hz hv hh
      go_wp2_with fail
      rename_i K2 hK2
      go_loopw [15, 7] (fun kk cc Wr => ∃ (k : Nat) (g : Nat → Int) (c : Int), k ≤ 4 ∧ kk = .int .i64 (k : Int) ∧ cc = .int .u64 c ∧ Row 18446744073709551616 4 8 (dig 18446744073709551616 A) (dig 18446744073709551616 B) h g i c k ∧ Calm.St w Wr [⟨b, arr .u64 8 g, 60⟩, ⟨bR, arr .u64 8 (fun _ => 0), 60⟩, ⟨bB, arr .u64 4 (dig 18446744073709551616 B), 59⟩, ⟨bA, arr .u64 4 (dig 18446744073709551616 A), 59⟩]) (fun kk _ _ => 4 - (intOf kk).toNat)
      case atStart => exact ⟨0, h, 0, by omega, rfl, rfl, ⟨HH.out, HZ.out, by omega, by omega, by simp [vB]⟩, S⟩
      case round =>
        clear S
        obtain ⟨k, g, c, hk, rfl, rfl, hR, S⟩ := hrel
        by_cases hk4 : k < 4
        · have hk4' : (k : Int) < 4 := by omega
          obtain ⟨p, hp⟩ : ∃ p : Nat, p = i + k := ⟨_, rfl⟩
          have g1 : IntKind.i64.wrap ((i : Int) + (k : Int)) = (p : Int) := by rw [wrap_small _ (by omega) (by omega)]; omega
          have g2 : (p : Int) < 8 := by omega
          have Hx := hide (arr_at .u64 8 g p (by omega))
          have Ha := hide (arr_at .u64 4 (dig 18446744073709551616 A) i hlt)
          have Hb := hide (arr_at .u64 4 (dig 18446744073709551616 B) k hk4)
          have ba := dig_bd M_pos A i
          have bb := dig_bd M_pos B k
          have hc0 := hR.c0
          have hc1 := hR.c1
          have hgb := hR.bd p
          obtain ⟨hi', lo, hm, m0, m1, m2, m3, HM⟩ := mulE (dig 18446744073709551616 A i) (dig 18446744073709551616 B k) ba.1 ba.2 bb.1 bb.2
          obtain ⟨s1, o1, ha1, a0, a1, a2, a3, HA1⟩ := sumE lo (g p) 0 m2 m3 hgb.1 hgb.2 (by omega) (by omega)
          obtain ⟨s2, o2, ha2, b0, b1, b2, b3, HA2⟩ := sumE s1 c 0 a0 a1 hc0 hc1 (by omega) (by omega)
          have HS : Hid (s2 + 18446744073709551616 * (hi' + o1 + o2) = c + g p + dig 18446744073709551616 A i * dig 18446744073709551616 B k) := row_sum _ _ _ _ _ _ _ _ _ HM.out HA1.out HA2.out
          have e1 : IntKind.u64.wrap (hi' + o1) = hi' + o1 := by rw [IntKind.wrap_u64]; omega
          have hpb : dig 18446744073709551616 A i * dig 18446744073709551616 B k ≤ 18446744073709551615 * 18446744073709551615 := Int.mul_le_mul (by omega) (by omega) (by omega) (by omega)
          have hq1 : hi' + o1 + o2 < 18446744073709551616 := by have := HS.out; omega
          have e2 : IntKind.u64.wrap (hi' + o1 + o2) = hi' + o1 + o2 := by rw [IntKind.wrap_u64]; omega
          have Hm := hide hm
          have Hp := hide hp
          have Hpb := hide hpb
          clear hm hp hpb
          go_wp2_with fail
          refine Calm.region0 S 12 (by kernel_rfl) (by kernel_rfl) (fun S => ?_)
          iterate 2 (first | (refine Calm.wn_skip rfl ?_) | (refine Calm.wn_move rfl (by rfl) (Or.inl rfl) ?_; simp only [Act.put, Act.eval, Array.getD_eq_getD_getElem?, List.getElem?_toArray, List.getElem?_cons_zero, List.getElem?_cons_succ, Option.getD_some, List.setIfInBounds_toArray, List.set_cons_zero, List.set_cons_succ]) | (refine Calm.wn_move rfl (by rfl) (Or.inr rfl) ?_; simp only [Act.put, Act.eval, Array.getD_eq_getD_getElem?, List.getElem?_toArray, List.getElem?_cons_zero, List.getElem?_cons_succ, Option.getD_some, List.setIfInBounds_toArray, List.set_cons_zero, List.set_cons_succ]) | (refine Calm.gn_load (ty := 24) rfl ?_; refine Calm.wn_load (ty := 24) S rfl (by rfl) rfl rfl (by (repeat (first | exact List.Mem.head _ | apply List.Mem.tail))) aggFe (by simp only [List.size_toArray, List.length_cons, List.length_nil, feC_size]) ?_; simp only [Act.put, Act.eval, Array.getD_eq_getD_getElem?, List.getElem?_toArray, List.getElem?_cons_zero, List.getElem?_cons_succ, Option.getD_some, List.setIfInBounds_toArray, List.set_cons_zero, List.set_cons_succ]) | (refine Calm.gn_load (ty := 22) rfl ?_; refine Calm.wn_loadE (ty := 22) S rfl (by rfl) rfl rfl (by (repeat (first | exact List.Mem.head _ | apply List.Mem.tail))) (by rfl) one64 ?_; simp only [Act.put, Act.eval, Array.getD_eq_getD_getElem?, List.getElem?_toArray, List.getElem?_cons_zero, List.getElem?_cons_succ, Option.getD_some, List.setIfInBounds_toArray, List.set_cons_zero, List.set_cons_succ]) | (apply Calm.wn_val rfl (by rfl); (intro w; go_simp; rfl); simp only [Act.put, Act.eval, Array.getD_eq_getD_getElem?, List.getElem?_toArray, List.getElem?_cons_zero, List.getElem?_cons_succ, Option.getD_some, List.setIfInBounds_toArray, List.set_cons_zero, List.set_cons_succ]))
          (refine Calm.gn_load (ty := 22) rfl ?_; refine Calm.wn_loadE (ty := 22) (b := bA) (v := .int .u64 (dig 18446744073709551616 A i)) S rfl (by rfl) rfl rfl (by (repeat (first | exact List.Mem.head _ | apply List.Mem.tail))) Ha.out o64 ?_; simp only [Act.put, Act.eval, Array.getD_eq_getD_getElem?, List.getElem?_toArray, List.getElem?_cons_zero, List.getElem?_cons_succ, Option.getD_some, List.setIfInBounds_toArray, List.set_cons_zero, List.set_cons_succ])
          iterate 2 (first | (refine Calm.wn_skip rfl ?_) | (refine Calm.wn_move rfl (by rfl) (Or.inl rfl) ?_; simp only [Act.put, Act.eval, Array.getD_eq_getD_getElem?, List.getElem?_toArray, List.getElem?_cons_zero, List.getElem?_cons_succ, Option.getD_some, List.setIfInBounds_toArray, List.set_cons_zero, List.set_cons_succ]) | (refine Calm.wn_move rfl (by rfl) (Or.inr rfl) ?_; simp only [Act.put, Act.eval, Array.getD_eq_getD_getElem?, List.getElem?_toArray, List.getElem?_cons_zero, List.getElem?_cons_succ, Option.getD_some, List.setIfInBounds_toArray, List.set_cons_zero, List.set_cons_succ]) | (refine Calm.gn_load (ty := 24) rfl ?_; refine Calm.wn_load (ty := 24) S rfl (by rfl) rfl rfl (by (repeat (first | exact List.Mem.head _ | apply List.Mem.tail))) aggFe (by simp only [List.size_toArray, List.length_cons, List.length_nil, feC_size]) ?_; simp only [Act.put, Act.eval, Array.getD_eq_getD_getElem?, List.getElem?_toArray, List.getElem?_cons_zero, List.getElem?_cons_succ, Option.getD_some, List.setIfInBounds_toArray, List.set_cons_zero, List.set_cons_succ]) | (refine Calm.gn_load (ty := 22) rfl ?_; refine Calm.wn_loadE (ty := 22) S rfl (by rfl) rfl rfl (by (repeat (first | exact List.Mem.head _ | apply List.Mem.tail))) (by rfl) one64 ?_; simp only [Act.put, Act.eval, Array.getD_eq_getD_getElem?, List.getElem?_toArray, List.getElem?_cons_zero, List.getElem?_cons_succ, Option.getD_some, List.setIfInBounds_toArray, List.set_cons_zero, List.set_cons_succ]) | (apply Calm.wn_val rfl (by rfl); (intro w; go_simp; rfl); simp only [Act.put, Act.eval, Array.getD_eq_getD_getElem?, List.getElem?_toArray, List.getElem?_cons_zero, List.getElem?_cons_succ, Option.getD_some, List.setIfInBounds_toArray, List.set_cons_zero, List.set_cons_succ]))
          (refine Calm.gn_load (ty := 22) rfl ?_; refine Calm.wn_loadE (ty := 22) (b := bB) (v := .int .u64 (dig 18446744073709551616 B k)) S rfl (by rfl) rfl rfl (by (repeat (first | exact List.Mem.head _ | apply List.Mem.tail))) Hb.out o64 ?_; simp only [Act.put, Act.eval, Array.getD_eq_getD_getElem?, List.getElem?_toArray, List.getElem?_cons_zero, List.getElem?_cons_succ, Option.getD_some, List.setIfInBounds_toArray, List.set_cons_zero, List.set_cons_succ])
          repeat (first | (refine Calm.wn_skip rfl ?_) | (refine Calm.wn_move rfl (by rfl) (Or.inl rfl) ?_; simp only [Act.put, Act.eval, Array.getD_eq_getD_getElem?, List.getElem?_toArray, List.getElem?_cons_zero, List.getElem?_cons_succ, Option.getD_some, List.setIfInBounds_toArray, List.set_cons_zero, List.set_cons_succ]) | (refine Calm.wn_move rfl (by rfl) (Or.inr rfl) ?_; simp only [Act.put, Act.eval, Array.getD_eq_getD_getElem?, List.getElem?_toArray, List.getElem?_cons_zero, List.getElem?_cons_succ, Option.getD_some, List.setIfInBounds_toArray, List.set_cons_zero, List.set_cons_succ]) | (refine Calm.gn_load (ty := 24) rfl ?_; refine Calm.wn_load (ty := 24) S rfl (by rfl) rfl rfl (by (repeat (first | exact List.Mem.head _ | apply List.Mem.tail))) aggFe (by simp only [List.size_toArray, List.length_cons, List.length_nil, feC_size]) ?_; simp only [Act.put, Act.eval, Array.getD_eq_getD_getElem?, List.getElem?_toArray, List.getElem?_cons_zero, List.getElem?_cons_succ, Option.getD_some, List.setIfInBounds_toArray, List.set_cons_zero, List.set_cons_succ]) | (refine Calm.gn_load (ty := 22) rfl ?_; refine Calm.wn_loadE (ty := 22) S rfl (by rfl) rfl rfl (by (repeat (first | exact List.Mem.head _ | apply List.Mem.tail))) (by rfl) one64 ?_; simp only [Act.put, Act.eval, Array.getD_eq_getD_getElem?, List.getElem?_toArray, List.getElem?_cons_zero, List.getElem?_cons_succ, Option.getD_some, List.setIfInBounds_toArray, List.set_cons_zero, List.set_cons_succ]) | (apply Calm.wn_call (f := 67) rfl (by rfl) rfl; (intro w; go_simp; rfl); (intro w; exact Hm.out w); simp only [Act.put, Act.eval, Array.getD_eq_getD_getElem?, List.getElem?_toArray, List.getElem?_cons_zero, List.getElem?_cons_succ, Option.getD_some, List.setIfInBounds_toArray, List.set_cons_zero, List.set_cons_succ]) | (apply Calm.wn_val rfl (by rfl); (intro w; go_simp; rfl); simp only [Act.put, Act.eval, Array.getD_eq_getD_getElem?, List.getElem?_toArray, List.getElem?_cons_zero, List.getElem?_cons_succ, Option.getD_some, List.setIfInBounds_toArray, List.set_cons_zero, List.set_cons_succ]))
          (refine Calm.wn_nil ?_; clear S; intro W S; simp only [Act.put, List.setIfInBounds_toArray, List.set_cons_zero, List.set_cons_succ, List.drop_succ_cons, List.drop_zero, List.drop_nil])
          go_wp2_with (first | (refine Calm.g_load (ty := 22) rfl ?_; refine Calm.wl_loadE (ty := 22) (b := b) (v := .int .u64 (g p)) S rfl rfl rfl (by (repeat (first | exact List.Mem.head _ | apply List.Mem.tail))) Hx.out o64 ?_) | (refine Calm.g_store (ty := 22) rfl ?_; refine Calm.wl_storeE (ty := 22) (b := b) (cs := arr .u64 8 (gset g p s2)) S rfl rfl rfl rfl (arr_set _ _ _ _ _) (by (repeat (first | exact Calm.foc_hd | apply Calm.foc_tl))) o64 (by rw [Go.Arr.arr_size]; omega) rfl ?_; clear S; intro W S) | simp only [ha1] | simp only [ha2])
          go_roundw
          case rel =>
            have hp := Hp.out
            subst hp
            exact ⟨k + 1, _, _, by omega, by go_num, rfl, hR.step (by omega) hk4 b0 b1 (by omega) hq1 HS.out, S⟩
          case measure => simp [intOf]; omega
        · have hk' : k = 4 := by omega
          subst hk'
          obtain ⟨p, hp⟩ : ∃ p : Nat, p = i + 4 := ⟨_, rfl⟩
          have g1 : IntKind.i64.wrap ((i : Int) + 4) = (p : Int) := by rw [wrap_small _ (by omega) (by omega)]; omega
          have g2 : (p : Int) < 8 := by omega
          have Hp := hide hp
          clear hp
          go_wp2_with (first | (refine Calm.g_store (ty := 22) rfl ?_; refine Calm.wl_storeE (ty := 22) (b := b) (cs := arr .u64 8 (gset g p c)) S rfl rfl rfl rfl (arr_set _ _ _ _ _) (by (repeat (first | exact Calm.foc_hd | apply Calm.foc_tl))) o64 (by rw [Go.Arr.arr_size]; omega) rfl ?_; clear S; intro W S))
          go_roundw
          case rel =>
            have hp := Hp.out
            subst hp
            obtain ⟨q1, q2, q3⟩ := hR.close (by omega) HV.out
            exact ⟨i + 1, _, by omega, by go_num, q1, q2, q3, S⟩
          case measure => simp [intOf]; omega
    · have hk' : i = 4 := by omega
      subst hk'
      rw [prod_end A B h hA hB hh hv] at S
      go_wp2_with (first | (refine Calm.wl_box S rfl rfl rfl ?_; clear S; intro b W S) | (refine Calm.wl_new (ty := 60) S rfl rfl zeroWi ?_; clear S; intro b W S) | (refine Calm.g_load (ty := 60) rfl ?_; refine Calm.wl_load (ty := 60) S rfl rfl rfl (by (repeat (first | exact List.Mem.head _ | apply List.Mem.tail))) aggWi (by first | exact (Go.Arr.arr_size _ _ _).symm | rfl) ?_) | (refine Calm.g_store (ty := 60) rfl ?_; refine Calm.wl_store (ty := 60) S rfl rfl rfl rfl (by (repeat (first | exact Calm.foc_hd | apply Calm.foc_tl))) aggWi (by first | exact (Go.Arr.arr_size _ _ _).symm | rfl) (by first | exact (Go.Arr.arr_size _ _ _).symm | rfl) (by first | exact Go.Arr.arr_one _ _ _ | rfl | simp [Value.oneCell']) ?_; clear S; intro W S))
      refine Calm.ret_cell S (by rfl) (by rfl) (by repeat (first | exact List.Mem.head _ | apply List.Mem.tail)) aggWi (arr_size _ _ _).symm (by rfl) ?_
      exact ⟨rfl, S.below⟩
end Go.Proofs.Ytgjicjmihlcgkaa
