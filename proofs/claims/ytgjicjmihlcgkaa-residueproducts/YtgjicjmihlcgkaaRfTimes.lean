import Derived.Test.YtgjicjmihlcgkaaRfPlus
set_option linter.unusedSimpArgs false
namespace Go.Proofs.Ytgjicjmihlcgkaa
open Go.RowKit Go.Arr
theorem times_end (A B : Int) (h : Nat → Int) (hA : Ok8 A) (hB : Ok8 B) (hv : vB 256 h 64 = vB 256 (dig 256 A) 32 * vB 256 (dig 256 B) 32) : vB 256 h 64 = A * B := by
  rw [hv, by_v A hA, by_v B hB]
theorem byte_mul (x y : Int) (hx : 0 ≤ x ∧ x < 256) (hy : 0 ≤ y ∧ y < 256) : 0 ≤ x * y ∧ x * y ≤ 65025 := by
  refine ⟨Int.mul_nonneg hx.1 hy.1, ?_⟩
  have := Int.mul_le_mul (show x ≤ 255 by omega) (show y ≤ 255 by omega) hy.1 (by omega)
  omega
set_option maxHeartbeats 2000000 in
theorem RTimes_c (A B : Int) (hA : Ok8 A) (hB : Ok8 B) (w : World) : Calls Try.prog 26 #[.agg (arr .u8 32 (dig 256 A)), .agg (arr .u8 32 (dig 256 B))] w fun e w' => e = .returned (.agg (arr .u8 32 (dig 256 (A * B % el)))) ∧ Below w.heap.size w w' := by
  have S := Calm.St.start w
  go_enter Try.func26, Try.ntmps26
  go_wp2_with (first | (refine Calm.wl_box S rfl rfl rfl ?_; clear S; intro b W S) | (refine Calm.wl_new (ty := 36) S rfl rfl zeroSc ?_; clear S; intro b W S) | (refine Calm.g_load (ty := 36) rfl ?_; refine Calm.wl_load (ty := 36) S rfl rfl rfl (by (repeat (first | exact List.Mem.head _ | apply List.Mem.tail))) aggSc (by first | exact (Go.Arr.arr_size _ _ _).symm | rfl) ?_) | (refine Calm.g_store (ty := 36) rfl ?_; refine Calm.wl_store (ty := 36) S rfl rfl rfl rfl (by (repeat (first | exact Calm.foc_hd | apply Calm.foc_tl))) aggSc (by first | exact (Go.Arr.arr_size _ _ _).symm | rfl) (by first | exact (Go.Arr.arr_size _ _ _).symm | rfl) (by first | exact Go.Arr.arr_one _ _ _ | rfl | simp [Value.oneCell']) ?_; clear S; intro W S) | (refine Calm.wl_new (ty := 37) S rfl rfl zeroB64 ?_; clear S; intro b W S) | (refine Calm.g_load (ty := 37) rfl ?_; refine Calm.wl_load (ty := 37) S rfl rfl rfl (by (repeat (first | exact List.Mem.head _ | apply List.Mem.tail))) aggB64 (by first | exact (Go.Arr.arr_size _ _ _).symm | rfl) ?_) | (refine Calm.g_store (ty := 37) rfl ?_; refine Calm.wl_store (ty := 37) S rfl rfl rfl rfl (by (repeat (first | exact Calm.foc_hd | apply Calm.foc_tl))) aggB64 (by first | exact (Go.Arr.arr_size _ _ _).symm | rfl) (by first | exact (Go.Arr.arr_size _ _ _).symm | rfl) (by first | exact Go.Arr.arr_one _ _ _ | rfl | simp [Value.oneCell']) ?_; clear S; intro W S))
  rename_i bA _ bB _ bR _ K hK
  go_loopw [6] (fun ii Wr => ∃ (i : Nat) (h : Nat → Int), i ≤ 32 ∧ ii = .int .i64 (i : Int) ∧ (∀ j, 0 ≤ h j ∧ h j < 256) ∧ (∀ j, i + 32 ≤ j → h j = 0) ∧ vB 256 h 64 = vB 256 (dig 256 A) i * vB 256 (dig 256 B) 32 ∧ Calm.St w Wr [⟨b, arr .u8 64 h, 37⟩, ⟨bR, arr .u8 32 (fun _ => 0), 36⟩, ⟨bB, arr .u8 32 (dig 256 B), 36⟩, ⟨bA, arr .u8 32 (dig 256 A), 36⟩]) (fun ii _ => 32 - (intOf ii).toNat)
  case atStart => exact ⟨0, _, by omega, rfl, fun j => by omega, fun _ _ => rfl, by rw [vB_zero]; simp [vB], S⟩
  case round =>
    clear S
    obtain ⟨i, h, hi, rfl, hh, hz, hv, S⟩ := hrel
    by_cases hlt : i < 32
    · have hlt' : (i : Int) < 32 := by omega
      have HZ := hide hz
      have HV := hide hv
      have HH := hide hh
      clear hz hv hh
      go_wp2_with fail
      rename_i K2 hK2
      go_loopw [7, 8] (fun cc kk Wr => ∃ (k : Nat) (g : Nat → Int) (c : Int), k ≤ 32 ∧ kk = .int .i64 (k : Int) ∧ cc = .int .i64 c ∧ Row 256 32 64 (dig 256 A) (dig 256 B) h g i c k ∧ Calm.St w Wr [⟨b, arr .u8 64 g, 37⟩, ⟨bR, arr .u8 32 (fun _ => 0), 36⟩, ⟨bB, arr .u8 32 (dig 256 B), 36⟩, ⟨bA, arr .u8 32 (dig 256 A), 36⟩]) (fun _ kk _ => 32 - (intOf kk).toNat)
      case atStart => exact ⟨0, h, 0, by omega, rfl, rfl, ⟨HH.out, HZ.out, by omega, by omega, by simp [vB]⟩, S⟩
      case round =>
        clear S
        obtain ⟨k, g, c, hk, rfl, rfl, hR, S⟩ := hrel
        by_cases hk4 : k < 32
        · have hk4' : (k : Int) < 32 := by omega
          obtain ⟨p, hp⟩ : ∃ p : Nat, p = i + k := ⟨_, rfl⟩
          have g1 : IntKind.i64.wrap ((i : Int) + (k : Int)) = (p : Int) := by rw [wrap_small _ (by omega) (by omega)]; omega
          have g2 : (p : Int) < 64 := by omega
          have Hx := hide (arr_at .u8 64 g p (by omega))
          have Ha := hide (arr_at .u8 32 (dig 256 A) i hlt)
          have Hb := hide (arr_at .u8 32 (dig 256 B) k hk4)
          have ba := dig_bd b_pos A i
          have bb := dig_bd b_pos B k
          have hc0 := hR.c0
          have hc1 := hR.c1
          have hgb := hR.bd p
          have hm := byte_mul _ _ ba bb
          obtain ⟨t, ht⟩ : ∃ t : Int, t = c + g p + dig 256 A i * dig 256 B k := ⟨_, rfl⟩
          have w1 : IntKind.i64.wrap (dig 256 A i) = dig 256 A i := by rw [IntKind.wrap_i64]; omega
          have w2 : IntKind.i64.wrap (dig 256 B k) = dig 256 B k := by rw [IntKind.wrap_i64]; omega
          have w3 : IntKind.i64.wrap (g p) = g p := by rw [IntKind.wrap_i64]; omega
          have e0 : IntKind.i64.wrap (dig 256 A i * dig 256 B k) = dig 256 A i * dig 256 B k := by rw [IntKind.wrap_i64]; omega
          have e1 : IntKind.i64.wrap (c + g p) = c + g p := by rw [IntKind.wrap_i64]; omega
          have e2 : IntKind.i64.wrap (c + g p + dig 256 A i * dig 256 B k) = t := by rw [IntKind.wrap_i64]; omega
          have ht0 : 0 ≤ t := by omega
          have ht1 : t < 65536 := by omega
          have e3 : t.tmod 256 = t % 256 := Int.tmod_eq_emod_of_nonneg ht0
          have e4 : IntKind.u8.wrap (t % 256) = t % 256 := by rw [IntKind.wrap_u8]; omega
          have e5 : IntKind.i64.wrap (t / 256) = t / 256 := by rw [IntKind.wrap_i64]; omega
          have e6 : t.tdiv 256 = t / 256 := Int.tdiv_eq_ediv_of_nonneg ht0
          have HS : Hid (t % 256 + 256 * (t / 256) = c + g p + dig 256 A i * dig 256 B k) := by unfold Hid; omega
          have Hp := hide hp
          clear ht hp hm
          go_wp2_with fail
          refine Calm.region0 S 18 (by kernel_rfl) (by kernel_rfl) (fun S => ?_)
          iterate 5 (first | (refine Calm.wn_skip rfl ?_) | (refine Calm.wn_move rfl (by rfl) (Or.inl rfl) ?_; simp only [Act.put, Act.eval, Array.getD_eq_getD_getElem?, List.getElem?_toArray, List.getElem?_cons_zero, List.getElem?_cons_succ, Option.getD_some, List.setIfInBounds_toArray, List.set_cons_zero, List.set_cons_succ]) | (refine Calm.wn_move rfl (by rfl) (Or.inr rfl) ?_; simp only [Act.put, Act.eval, Array.getD_eq_getD_getElem?, List.getElem?_toArray, List.getElem?_cons_zero, List.getElem?_cons_succ, Option.getD_some, List.setIfInBounds_toArray, List.set_cons_zero, List.set_cons_succ]) | (refine Calm.gn_load (ty := 24) rfl ?_; refine Calm.wn_load (ty := 24) S rfl (by rfl) rfl rfl (by (repeat (first | exact List.Mem.head _ | apply List.Mem.tail))) aggFe (by simp only [List.size_toArray, List.length_cons, List.length_nil, feC_size]) ?_; simp only [Act.put, Act.eval, Array.getD_eq_getD_getElem?, List.getElem?_toArray, List.getElem?_cons_zero, List.getElem?_cons_succ, Option.getD_some, List.setIfInBounds_toArray, List.set_cons_zero, List.set_cons_succ]) | (refine Calm.gn_load (ty := 22) rfl ?_; refine Calm.wn_loadE (ty := 22) S rfl (by rfl) rfl rfl (by (repeat (first | exact List.Mem.head _ | apply List.Mem.tail))) (by rfl) one64 ?_; simp only [Act.put, Act.eval, Array.getD_eq_getD_getElem?, List.getElem?_toArray, List.getElem?_cons_zero, List.getElem?_cons_succ, Option.getD_some, List.setIfInBounds_toArray, List.set_cons_zero, List.set_cons_succ]) | (apply Calm.wn_val rfl (by rfl); (intro w; go_simp; rfl); simp only [Act.put, Act.eval, Array.getD_eq_getD_getElem?, List.getElem?_toArray, List.getElem?_cons_zero, List.getElem?_cons_succ, Option.getD_some, List.setIfInBounds_toArray, List.set_cons_zero, List.set_cons_succ]))
          (refine Calm.gn_load (ty := 5) rfl ?_; refine Calm.wn_loadE (ty := 5) (b := b) (v := .int .u8 (g p)) S rfl (by rfl) rfl rfl (by (repeat (first | exact List.Mem.head _ | apply List.Mem.tail))) Hx.out oU8 ?_; simp only [Act.put, Act.eval, Array.getD_eq_getD_getElem?, List.getElem?_toArray, List.getElem?_cons_zero, List.getElem?_cons_succ, Option.getD_some, List.setIfInBounds_toArray, List.set_cons_zero, List.set_cons_succ])
          iterate 4 (first | (refine Calm.wn_skip rfl ?_) | (refine Calm.wn_move rfl (by rfl) (Or.inl rfl) ?_; simp only [Act.put, Act.eval, Array.getD_eq_getD_getElem?, List.getElem?_toArray, List.getElem?_cons_zero, List.getElem?_cons_succ, Option.getD_some, List.setIfInBounds_toArray, List.set_cons_zero, List.set_cons_succ]) | (refine Calm.wn_move rfl (by rfl) (Or.inr rfl) ?_; simp only [Act.put, Act.eval, Array.getD_eq_getD_getElem?, List.getElem?_toArray, List.getElem?_cons_zero, List.getElem?_cons_succ, Option.getD_some, List.setIfInBounds_toArray, List.set_cons_zero, List.set_cons_succ]) | (refine Calm.gn_load (ty := 24) rfl ?_; refine Calm.wn_load (ty := 24) S rfl (by rfl) rfl rfl (by (repeat (first | exact List.Mem.head _ | apply List.Mem.tail))) aggFe (by simp only [List.size_toArray, List.length_cons, List.length_nil, feC_size]) ?_; simp only [Act.put, Act.eval, Array.getD_eq_getD_getElem?, List.getElem?_toArray, List.getElem?_cons_zero, List.getElem?_cons_succ, Option.getD_some, List.setIfInBounds_toArray, List.set_cons_zero, List.set_cons_succ]) | (refine Calm.gn_load (ty := 22) rfl ?_; refine Calm.wn_loadE (ty := 22) S rfl (by rfl) rfl rfl (by (repeat (first | exact List.Mem.head _ | apply List.Mem.tail))) (by rfl) one64 ?_; simp only [Act.put, Act.eval, Array.getD_eq_getD_getElem?, List.getElem?_toArray, List.getElem?_cons_zero, List.getElem?_cons_succ, Option.getD_some, List.setIfInBounds_toArray, List.set_cons_zero, List.set_cons_succ]) | (apply Calm.wn_val rfl (by rfl); (intro w; go_simp; rfl); simp only [Act.put, Act.eval, Array.getD_eq_getD_getElem?, List.getElem?_toArray, List.getElem?_cons_zero, List.getElem?_cons_succ, Option.getD_some, List.setIfInBounds_toArray, List.set_cons_zero, List.set_cons_succ]))
          (refine Calm.gn_load (ty := 5) rfl ?_; refine Calm.wn_loadE (ty := 5) (b := bA) (v := .int .u8 (dig 256 A i)) S rfl (by rfl) rfl rfl (by (repeat (first | exact List.Mem.head _ | apply List.Mem.tail))) Ha.out oU8 ?_; simp only [Act.put, Act.eval, Array.getD_eq_getD_getElem?, List.getElem?_toArray, List.getElem?_cons_zero, List.getElem?_cons_succ, Option.getD_some, List.setIfInBounds_toArray, List.set_cons_zero, List.set_cons_succ])
          iterate 3 (first | (refine Calm.wn_skip rfl ?_) | (refine Calm.wn_move rfl (by rfl) (Or.inl rfl) ?_; simp only [Act.put, Act.eval, Array.getD_eq_getD_getElem?, List.getElem?_toArray, List.getElem?_cons_zero, List.getElem?_cons_succ, Option.getD_some, List.setIfInBounds_toArray, List.set_cons_zero, List.set_cons_succ]) | (refine Calm.wn_move rfl (by rfl) (Or.inr rfl) ?_; simp only [Act.put, Act.eval, Array.getD_eq_getD_getElem?, List.getElem?_toArray, List.getElem?_cons_zero, List.getElem?_cons_succ, Option.getD_some, List.setIfInBounds_toArray, List.set_cons_zero, List.set_cons_succ]) | (refine Calm.gn_load (ty := 24) rfl ?_; refine Calm.wn_load (ty := 24) S rfl (by rfl) rfl rfl (by (repeat (first | exact List.Mem.head _ | apply List.Mem.tail))) aggFe (by simp only [List.size_toArray, List.length_cons, List.length_nil, feC_size]) ?_; simp only [Act.put, Act.eval, Array.getD_eq_getD_getElem?, List.getElem?_toArray, List.getElem?_cons_zero, List.getElem?_cons_succ, Option.getD_some, List.setIfInBounds_toArray, List.set_cons_zero, List.set_cons_succ]) | (refine Calm.gn_load (ty := 22) rfl ?_; refine Calm.wn_loadE (ty := 22) S rfl (by rfl) rfl rfl (by (repeat (first | exact List.Mem.head _ | apply List.Mem.tail))) (by rfl) one64 ?_; simp only [Act.put, Act.eval, Array.getD_eq_getD_getElem?, List.getElem?_toArray, List.getElem?_cons_zero, List.getElem?_cons_succ, Option.getD_some, List.setIfInBounds_toArray, List.set_cons_zero, List.set_cons_succ]) | (apply Calm.wn_val rfl (by rfl); (intro w; go_simp; rfl); simp only [Act.put, Act.eval, Array.getD_eq_getD_getElem?, List.getElem?_toArray, List.getElem?_cons_zero, List.getElem?_cons_succ, Option.getD_some, List.setIfInBounds_toArray, List.set_cons_zero, List.set_cons_succ]))
          (refine Calm.gn_load (ty := 5) rfl ?_; refine Calm.wn_loadE (ty := 5) (b := bB) (v := .int .u8 (dig 256 B k)) S rfl (by rfl) rfl rfl (by (repeat (first | exact List.Mem.head _ | apply List.Mem.tail))) Hb.out oU8 ?_; simp only [Act.put, Act.eval, Array.getD_eq_getD_getElem?, List.getElem?_toArray, List.getElem?_cons_zero, List.getElem?_cons_succ, Option.getD_some, List.setIfInBounds_toArray, List.set_cons_zero, List.set_cons_succ])
          repeat (first | (refine Calm.wn_skip rfl ?_) | (refine Calm.wn_move rfl (by rfl) (Or.inl rfl) ?_; simp only [Act.put, Act.eval, Array.getD_eq_getD_getElem?, List.getElem?_toArray, List.getElem?_cons_zero, List.getElem?_cons_succ, Option.getD_some, List.setIfInBounds_toArray, List.set_cons_zero, List.set_cons_succ]) | (refine Calm.wn_move rfl (by rfl) (Or.inr rfl) ?_; simp only [Act.put, Act.eval, Array.getD_eq_getD_getElem?, List.getElem?_toArray, List.getElem?_cons_zero, List.getElem?_cons_succ, Option.getD_some, List.setIfInBounds_toArray, List.set_cons_zero, List.set_cons_succ]) | (refine Calm.gn_load (ty := 24) rfl ?_; refine Calm.wn_load (ty := 24) S rfl (by rfl) rfl rfl (by (repeat (first | exact List.Mem.head _ | apply List.Mem.tail))) aggFe (by simp only [List.size_toArray, List.length_cons, List.length_nil, feC_size]) ?_; simp only [Act.put, Act.eval, Array.getD_eq_getD_getElem?, List.getElem?_toArray, List.getElem?_cons_zero, List.getElem?_cons_succ, Option.getD_some, List.setIfInBounds_toArray, List.set_cons_zero, List.set_cons_succ]) | (refine Calm.gn_load (ty := 22) rfl ?_; refine Calm.wn_loadE (ty := 22) S rfl (by rfl) rfl rfl (by (repeat (first | exact List.Mem.head _ | apply List.Mem.tail))) (by rfl) one64 ?_; simp only [Act.put, Act.eval, Array.getD_eq_getD_getElem?, List.getElem?_toArray, List.getElem?_cons_zero, List.getElem?_cons_succ, Option.getD_some, List.setIfInBounds_toArray, List.set_cons_zero, List.set_cons_succ]) | (apply Calm.wn_val rfl (by rfl); (intro w; go_simp; rfl); simp only [Act.put, Act.eval, Array.getD_eq_getD_getElem?, List.getElem?_toArray, List.getElem?_cons_zero, List.getElem?_cons_succ, Option.getD_some, List.setIfInBounds_toArray, List.set_cons_zero, List.set_cons_succ]))
          (refine Calm.wn_nil ?_; clear S; intro W S; simp only [Act.put, List.setIfInBounds_toArray, List.set_cons_zero, List.set_cons_succ, List.drop_succ_cons, List.drop_zero, List.drop_nil])
          try rw [e0]
          try rw [e1]
          try rw [e2]
          go_wp2_with (first | (refine Calm.g_store (ty := 5) rfl ?_; refine Calm.wl_storeE (ty := 5) (b := b) (cs := arr .u8 64 (gset g p (t % 256))) S rfl rfl rfl rfl (arr_set _ _ _ _ _) (by (repeat (first | exact Calm.foc_hd | apply Calm.foc_tl))) oU8 (by rw [Go.Arr.arr_size]; omega) rfl ?_; clear S; intro W S))
          go_roundw
          case rel =>
            have hp := Hp.out
            subst hp
            exact ⟨k + 1, _, _, by omega, by go_num, rfl, hR.step (by omega) hk4 (by omega) (by omega) (by omega) (by omega) HS.out, S⟩
          case measure => simp [intOf]; omega
        · have hk' : k = 32 := by omega
          subst hk'
          obtain ⟨p, hp⟩ : ∃ p : Nat, p = i + 32 := ⟨_, rfl⟩
          have g1 : IntKind.i64.wrap ((i : Int) + 32) = (p : Int) := by rw [wrap_small _ (by omega) (by omega)]; omega
          have g2 : (p : Int) < 64 := by omega
          have hc0 := hR.c0
          have hc1 := hR.c1
          have e4 : IntKind.u8.wrap c = c := by rw [IntKind.wrap_u8]; omega
          have Hp := hide hp
          clear hp
          go_wp2_with (first | (refine Calm.g_store (ty := 5) rfl ?_; refine Calm.wl_storeE (ty := 5) (b := b) (cs := arr .u8 64 (gset g p c)) S rfl rfl rfl rfl (arr_set _ _ _ _ _) (by (repeat (first | exact Calm.foc_hd | apply Calm.foc_tl))) oU8 (by rw [Go.Arr.arr_size]; omega) rfl ?_; clear S; intro W S))
          go_roundw
          case rel =>
            have hp := Hp.out
            subst hp
            obtain ⟨q1, q2, q3⟩ := hR.close (by omega) HV.out
            exact ⟨i + 1, _, by omega, by go_num, q1, q2, q3, S⟩
          case measure => simp [intOf]; omega
    · have hk' : i = 32 := by omega
      subst hk'
      go_wp2_with fail
      refine (Rest_c h 64 (by omega) (fun j _ => hh j) b 64 (arr .u8 64 h) 37 _ (S.has ⟨b, arr .u8 64 h, 37⟩ (by repeat (first | exact List.Mem.head _ | apply List.Mem.tail))) (fun j hj => arr_at .u8 64 _ j hj)).mono ?_
      rintro e W1 ⟨he, hb⟩
      rw [times_end A B h hA hB hv] at he
      subst he
      have S := S.call hb
      clear hb
      go_wp2_with (first | (refine Calm.wl_box S rfl rfl rfl ?_; clear S; intro b W S) | (refine Calm.wl_new (ty := 36) S rfl rfl zeroSc ?_; clear S; intro b W S) | (refine Calm.g_load (ty := 36) rfl ?_; refine Calm.wl_load (ty := 36) S rfl rfl rfl (by (repeat (first | exact List.Mem.head _ | apply List.Mem.tail))) aggSc (by first | exact (Go.Arr.arr_size _ _ _).symm | rfl) ?_) | (refine Calm.g_store (ty := 36) rfl ?_; refine Calm.wl_store (ty := 36) S rfl rfl rfl rfl (by (repeat (first | exact Calm.foc_hd | apply Calm.foc_tl))) aggSc (by first | exact (Go.Arr.arr_size _ _ _).symm | rfl) (by first | exact (Go.Arr.arr_size _ _ _).symm | rfl) (by first | exact Go.Arr.arr_one _ _ _ | rfl | simp [Value.oneCell']) ?_; clear S; intro W S))
      refine Calm.ret_cell S (by rfl) (by rfl) (by repeat (first | exact List.Mem.head _ | apply List.Mem.tail)) aggSc (arr_size _ _ _).symm (by rfl) ?_
      exact ⟨rfl, S.below⟩
end Go.Proofs.Ytgjicjmihlcgkaa
