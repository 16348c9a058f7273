import Derived.Test.YtgjicjmihlcgkaaRfRest
set_option linter.unusedSimpArgs false
namespace Go.Proofs.Ytgjicjmihlcgkaa
open Go.RowKit Go.Arr
theorem aggB64 : Calm.AggT Try.prog 37 64 := ⟨⟨_, Try.underlying37, rfl⟩, by kernel_rfl⟩
theorem zeroB64 : (Try.prog.info? 37).bind (·.zero) = some (.agg (arr .u8 64 fun _ => 0)) := by kernel_rfl
theorem aggB33 : Calm.AggT Try.prog 66 33 := ⟨⟨_, Try.underlying66, rfl⟩, by kernel_rfl⟩
theorem zeroB33 : (Try.prog.info? 66).bind (·.zero) = some (.agg (arr .u8 33 fun _ => 0)) := by kernel_rfl
theorem mixK_set (kd : IntKind) (n : Nat) (h g : Nat → Int) (k : Nat) (s : Int) : arr kd n (mixG h (gset g k s) (k + 1)) = (arr kd n (mixG h g k)).setIfInBounds k (.int kd s) := by
  rw [← arr_set]
  refine arr_ext fun j _ => ?_
  by_cases e : j = k
  · subst e; rw [gset_eq]; unfold mixG; rw [if_pos (by omega), gset_eq]
  · rw [gset_ne _ _ _ e]
    unfold mixG
    by_cases hl : j < k
    · rw [if_pos hl, if_pos (by omega), gset_ne _ _ _ e]
    · rw [if_neg hl, if_neg (by omega)]
theorem mixK_0 (kd : IntKind) (n : Nat) (h g : Nat → Int) : arr kd n (mixG h g 0) = arr kd n h := arr_ext fun j _ => by unfold mixG; rw [if_neg (by omega)]
set_option maxHeartbeats 1000000 in
theorem RWide_c (N : Int) (hN : 0 ≤ N ∧ N < 256 ^ 64) (w : World) : Calls Try.prog 19 #[.agg (arr .u8 64 (dig 256 N))] w fun e w' => e = .returned (.agg (arr .u8 32 (dig 256 (N % el)))) ∧ Below w.heap.size w w' := by
  have S := Calm.St.start w
  go_enter Try.func19, Try.ntmps19
  go_wp2_with (first | (refine Calm.wl_box S rfl rfl rfl ?_; clear S; intro b W S) | (refine Calm.wl_new (ty := 36) S rfl rfl zeroSc ?_; clear S; intro b W S) | (refine Calm.g_load (ty := 36) rfl ?_; refine Calm.wl_load (ty := 36) S rfl rfl rfl (by (repeat (first | exact List.Mem.head _ | apply List.Mem.tail))) aggSc (by first | exact (Go.Arr.arr_size _ _ _).symm | rfl) ?_) | (refine Calm.g_store (ty := 36) rfl ?_; refine Calm.wl_store (ty := 36) S rfl rfl rfl rfl (by (repeat (first | exact Calm.foc_hd | apply Calm.foc_tl))) aggSc (by first | exact (Go.Arr.arr_size _ _ _).symm | rfl) (by first | exact (Go.Arr.arr_size _ _ _).symm | rfl) (by first | exact Go.Arr.arr_one _ _ _ | rfl | simp [Value.oneCell']) ?_; clear S; intro W S))
  rename_i bN _ _ _ _ _
  refine (Rest_c (dig 256 N) 64 (by omega) (fun j _ => dig_bd b_pos N j) bN 64 (arr .u8 64 (dig 256 N)) 37 _ (S.has ⟨bN, arr .u8 64 (dig 256 N), 37⟩ (by repeat (first | exact List.Mem.head _ | apply List.Mem.tail))) (fun j hj => arr_at .u8 64 _ j hj)).mono ?_
  rintro e W1 ⟨he, hb⟩
  rw [dig_v b_pos N 64 hN.1 hN.2] at he
  subst he
  have S := S.call hb
  clear hb
  go_wp2_with (first | (refine Calm.wl_box S rfl rfl rfl ?_; clear S; intro b W S) | (refine Calm.wl_new (ty := 36) S rfl rfl zeroSc ?_; clear S; intro b W S) | (refine Calm.g_load (ty := 36) rfl ?_; refine Calm.wl_load (ty := 36) S rfl rfl rfl (by (repeat (first | exact List.Mem.head _ | apply List.Mem.tail))) aggSc (by first | exact (Go.Arr.arr_size _ _ _).symm | rfl) ?_) | (refine Calm.g_store (ty := 36) rfl ?_; refine Calm.wl_store (ty := 36) S rfl rfl rfl rfl (by (repeat (first | exact Calm.foc_hd | apply Calm.foc_tl))) aggSc (by first | exact (Go.Arr.arr_size _ _ _).symm | rfl) (by first | exact (Go.Arr.arr_size _ _ _).symm | rfl) (by first | exact Go.Arr.arr_one _ _ _ | rfl | simp [Value.oneCell']) ?_; clear S; intro W S))
  refine Calm.ret_cell S (by rfl) (by rfl) (by repeat (first | exact List.Mem.head _ | apply List.Mem.tail)) aggSc (arr_size _ _ _).symm (by rfl) ?_
  exact ⟨rfl, S.below⟩
theorem plus_end (A B : Int) (g : Nat → Int) (c : Int) (hA : Ok8 A) (hB : Ok8 B) (H : Cy 256 (dig 256 A) (dig 256 B) g c 32) : vB 256 (gset (mixG (fun _ => 0) g 32) 32 c) 33 = A + B := by
  have he := H.eq
  rw [by_v A hA, by_v B hB] at he
  show vB 256 (gset (mixG (fun _ => 0) g 32) 32 c) 32 + gset (mixG (fun _ => 0) g 32) 32 c 32 * 256 ^ 32 = A + B
  rw [show vB 256 (gset (mixG (fun _ => 0) g 32) 32 c) 32 = vB 256 g 32 from (vB_low _ 32 c).trans (vB_ext 32 fun j hj => by unfold mixG; rw [if_pos hj]), gset_eq]
  exact he
theorem plus_bd (A B : Int) (g : Nat → Int) (c : Int) (H : Cy 256 (dig 256 A) (dig 256 B) g c 32) : ∀ j, j < 33 → 0 ≤ gset (mixG (fun _ => 0) g 32) 32 c j ∧ gset (mixG (fun _ => 0) g 32) 32 c j < 256 := by
  intro j hj
  have h0 := H.c0
  have h1 := H.c1
  by_cases e : j = 32
  · subst e; rw [gset_eq]; omega
  · rw [gset_ne _ _ _ e]
    unfold mixG
    rw [if_pos (by omega)]
    exact H.lo j (by omega)
set_option maxHeartbeats 1000000 in
theorem RPlus_c (A B : Int) (hA : Ok8 A) (hB : Ok8 B) (w : World) : Calls Try.prog 22 #[.agg (arr .u8 32 (dig 256 A)), .agg (arr .u8 32 (dig 256 B))] w fun e w' => e = .returned (.agg (arr .u8 32 (dig 256 ((A + B) % el)))) ∧ Below w.heap.size w w' := by
  have S := Calm.St.start w
  go_enter Try.func22, Try.ntmps22
  go_wp2_with (first | (refine Calm.wl_box S rfl rfl rfl ?_; clear S; intro b W S) | (refine Calm.wl_new (ty := 36) S rfl rfl zeroSc ?_; clear S; intro b W S) | (refine Calm.g_load (ty := 36) rfl ?_; refine Calm.wl_load (ty := 36) S rfl rfl rfl (by (repeat (first | exact List.Mem.head _ | apply List.Mem.tail))) aggSc (by first | exact (Go.Arr.arr_size _ _ _).symm | rfl) ?_) | (refine Calm.g_store (ty := 36) rfl ?_; refine Calm.wl_store (ty := 36) S rfl rfl rfl rfl (by (repeat (first | exact Calm.foc_hd | apply Calm.foc_tl))) aggSc (by first | exact (Go.Arr.arr_size _ _ _).symm | rfl) (by first | exact (Go.Arr.arr_size _ _ _).symm | rfl) (by first | exact Go.Arr.arr_one _ _ _ | rfl | simp [Value.oneCell']) ?_; clear S; intro W S) | (refine Calm.wl_new (ty := 66) S rfl rfl zeroB33 ?_; clear S; intro b W S) | (refine Calm.g_load (ty := 66) rfl ?_; refine Calm.wl_load (ty := 66) S rfl rfl rfl (by (repeat (first | exact List.Mem.head _ | apply List.Mem.tail))) aggB33 (by first | exact (Go.Arr.arr_size _ _ _).symm | rfl) ?_) | (refine Calm.g_store (ty := 66) rfl ?_; refine Calm.wl_store (ty := 66) S rfl rfl rfl rfl (by (repeat (first | exact Calm.foc_hd | apply Calm.foc_tl))) aggB33 (by first | exact (Go.Arr.arr_size _ _ _).symm | rfl) (by first | exact (Go.Arr.arr_size _ _ _).symm | rfl) (by first | exact Go.Arr.arr_one _ _ _ | rfl | simp [Value.oneCell']) ?_; clear S; intro W S))
  rename_i bA _ bB _ bR _ K hK
  go_loopw [6, 7] (fun cc kk Wr => ∃ (k : Nat) (g : Nat → Int) (c : Int), k ≤ 32 ∧ kk = .int .i64 (k : Int) ∧ cc = .int .i64 c ∧ Cy 256 (dig 256 A) (dig 256 B) g c k ∧ Calm.St w Wr [⟨b, arr .u8 33 (mixG (fun _ => 0) g k), 66⟩, ⟨bR, arr .u8 32 (fun _ => 0), 36⟩, ⟨bB, arr .u8 32 (dig 256 B), 36⟩, ⟨bA, arr .u8 32 (dig 256 A), 36⟩]) (fun _ kk _ => 32 - (intOf kk).toNat)
  case atStart => exact ⟨0, fun _ => 0, 0, by omega, rfl, rfl, ⟨fun j h => by omega, by omega, by omega, by simp [vB]⟩, by rw [mixK_0]; exact S⟩
  case round =>
    clear S
    obtain ⟨k, g, c, hk, rfl, rfl, hC, S⟩ := hrel
    by_cases hlt : k < 32
    · have g5 : (k : Int) < 32 := by omega
      have g6 : (k : Int) < 33 := by omega
      have ba := dig_bd b_pos A k
      have bb := dig_bd b_pos B k
      have Ha := hide (arr_at .u8 32 (dig 256 A) k hlt)
      have Hb := hide (arr_at .u8 32 (dig 256 B) k hlt)
      have hc0 := hC.c0
      have hc1 := hC.c1
      obtain ⟨t, ht⟩ : ∃ t : Int, t = c + dig 256 A k + dig 256 B k := ⟨_, rfl⟩
      have w1 : IntKind.i64.wrap (dig 256 A k) = dig 256 A k := by rw [IntKind.wrap_i64]; omega
      have w2 : IntKind.i64.wrap (dig 256 B k) = dig 256 B k := by rw [IntKind.wrap_i64]; omega
      have e1 : IntKind.i64.wrap (c + dig 256 A k) = c + dig 256 A k := by rw [IntKind.wrap_i64]; omega
      have e2 : IntKind.i64.wrap (c + dig 256 A k + dig 256 B k) = t := by rw [IntKind.wrap_i64]; omega
      have ht0 : 0 ≤ t := by omega
      have ht1 : t < 512 := by omega
      have e3 : t.tmod 256 = t % 256 := Int.tmod_eq_emod_of_nonneg ht0
      have e4 : IntKind.u8.wrap (t % 256) = t % 256 := by rw [IntKind.wrap_u8]; omega
      have e5 : IntKind.i64.wrap (t / 256) = t / 256 := by rw [IntKind.wrap_i64]; omega
      have e6 : t.tdiv 256 = t / 256 := Int.tdiv_eq_ediv_of_nonneg ht0
      have Hst := hide (hC.step (s := t % 256) (o := t / 256) (by omega) (by omega) (by omega) (by omega) (by omega))
      clear ht
      go_wp2_with fail
      refine Calm.region0 S 11 (by kernel_rfl) (by kernel_rfl) (fun S => ?_)
      iterate 3 (first | (refine Calm.wn_skip rfl ?_) | (refine Calm.wn_move rfl (by rfl) (Or.inl rfl) ?_; simp only [Act.put, Act.eval, Array.getD_eq_getD_getElem?, List.getElem?_toArray, List.getElem?_cons_zero, List.getElem?_cons_succ, Option.getD_some, List.setIfInBounds_toArray, List.set_cons_zero, List.set_cons_succ]) | (refine Calm.wn_move rfl (by rfl) (Or.inr rfl) ?_; simp only [Act.put, Act.eval, Array.getD_eq_getD_getElem?, List.getElem?_toArray, List.getElem?_cons_zero, List.getElem?_cons_succ, Option.getD_some, List.setIfInBounds_toArray, List.set_cons_zero, List.set_cons_succ]) | (refine Calm.gn_load (ty := 24) rfl ?_; refine Calm.wn_load (ty := 24) S rfl (by rfl) rfl rfl (by (repeat (first | exact List.Mem.head _ | apply List.Mem.tail))) aggFe (by simp only [List.size_toArray, List.length_cons, List.length_nil, feC_size]) ?_; simp only [Act.put, Act.eval, Array.getD_eq_getD_getElem?, List.getElem?_toArray, List.getElem?_cons_zero, List.getElem?_cons_succ, Option.getD_some, List.setIfInBounds_toArray, List.set_cons_zero, List.set_cons_succ]) | (refine Calm.gn_load (ty := 22) rfl ?_; refine Calm.wn_loadE (ty := 22) S rfl (by rfl) rfl rfl (by (repeat (first | exact List.Mem.head _ | apply List.Mem.tail))) (by rfl) one64 ?_; simp only [Act.put, Act.eval, Array.getD_eq_getD_getElem?, List.getElem?_toArray, List.getElem?_cons_zero, List.getElem?_cons_succ, Option.getD_some, List.setIfInBounds_toArray, List.set_cons_zero, List.set_cons_succ]) | (apply Calm.wn_val rfl (by rfl); (intro w; go_simp; rfl); simp only [Act.put, Act.eval, Array.getD_eq_getD_getElem?, List.getElem?_toArray, List.getElem?_cons_zero, List.getElem?_cons_succ, Option.getD_some, List.setIfInBounds_toArray, List.set_cons_zero, List.set_cons_succ]))
      (refine Calm.gn_load (ty := 5) rfl ?_; refine Calm.wn_loadE (ty := 5) (b := bA) (v := .int .u8 (dig 256 A k)) S rfl (by rfl) rfl rfl (by (repeat (first | exact List.Mem.head _ | apply List.Mem.tail))) Ha.out oU8 ?_; simp only [Act.put, Act.eval, Array.getD_eq_getD_getElem?, List.getElem?_toArray, List.getElem?_cons_zero, List.getElem?_cons_succ, Option.getD_some, List.setIfInBounds_toArray, List.set_cons_zero, List.set_cons_succ])
      iterate 4 (first | (refine Calm.wn_skip rfl ?_) | (refine Calm.wn_move rfl (by rfl) (Or.inl rfl) ?_; simp only [Act.put, Act.eval, Array.getD_eq_getD_getElem?, List.getElem?_toArray, List.getElem?_cons_zero, List.getElem?_cons_succ, Option.getD_some, List.setIfInBounds_toArray, List.set_cons_zero, List.set_cons_succ]) | (refine Calm.wn_move rfl (by rfl) (Or.inr rfl) ?_; simp only [Act.put, Act.eval, Array.getD_eq_getD_getElem?, List.getElem?_toArray, List.getElem?_cons_zero, List.getElem?_cons_succ, Option.getD_some, List.setIfInBounds_toArray, List.set_cons_zero, List.set_cons_succ]) | (refine Calm.gn_load (ty := 24) rfl ?_; refine Calm.wn_load (ty := 24) S rfl (by rfl) rfl rfl (by (repeat (first | exact List.Mem.head _ | apply List.Mem.tail))) aggFe (by simp only [List.size_toArray, List.length_cons, List.length_nil, feC_size]) ?_; simp only [Act.put, Act.eval, Array.getD_eq_getD_getElem?, List.getElem?_toArray, List.getElem?_cons_zero, List.getElem?_cons_succ, Option.getD_some, List.setIfInBounds_toArray, List.set_cons_zero, List.set_cons_succ]) | (refine Calm.gn_load (ty := 22) rfl ?_; refine Calm.wn_loadE (ty := 22) S rfl (by rfl) rfl rfl (by (repeat (first | exact List.Mem.head _ | apply List.Mem.tail))) (by rfl) one64 ?_; simp only [Act.put, Act.eval, Array.getD_eq_getD_getElem?, List.getElem?_toArray, List.getElem?_cons_zero, List.getElem?_cons_succ, Option.getD_some, List.setIfInBounds_toArray, List.set_cons_zero, List.set_cons_succ]) | (apply Calm.wn_val rfl (by rfl); (intro w; go_simp; rfl); simp only [Act.put, Act.eval, Array.getD_eq_getD_getElem?, List.getElem?_toArray, List.getElem?_cons_zero, List.getElem?_cons_succ, Option.getD_some, List.setIfInBounds_toArray, List.set_cons_zero, List.set_cons_succ]))
      (refine Calm.gn_load (ty := 5) rfl ?_; refine Calm.wn_loadE (ty := 5) (b := bB) (v := .int .u8 (dig 256 B k)) S rfl (by rfl) rfl rfl (by (repeat (first | exact List.Mem.head _ | apply List.Mem.tail))) Hb.out oU8 ?_; simp only [Act.put, Act.eval, Array.getD_eq_getD_getElem?, List.getElem?_toArray, List.getElem?_cons_zero, List.getElem?_cons_succ, Option.getD_some, List.setIfInBounds_toArray, List.set_cons_zero, List.set_cons_succ])
      repeat (first | (refine Calm.wn_skip rfl ?_) | (refine Calm.wn_move rfl (by rfl) (Or.inl rfl) ?_; simp only [Act.put, Act.eval, Array.getD_eq_getD_getElem?, List.getElem?_toArray, List.getElem?_cons_zero, List.getElem?_cons_succ, Option.getD_some, List.setIfInBounds_toArray, List.set_cons_zero, List.set_cons_succ]) | (refine Calm.wn_move rfl (by rfl) (Or.inr rfl) ?_; simp only [Act.put, Act.eval, Array.getD_eq_getD_getElem?, List.getElem?_toArray, List.getElem?_cons_zero, List.getElem?_cons_succ, Option.getD_some, List.setIfInBounds_toArray, List.set_cons_zero, List.set_cons_succ]) | (refine Calm.gn_load (ty := 24) rfl ?_; refine Calm.wn_load (ty := 24) S rfl (by rfl) rfl rfl (by (repeat (first | exact List.Mem.head _ | apply List.Mem.tail))) aggFe (by simp only [List.size_toArray, List.length_cons, List.length_nil, feC_size]) ?_; simp only [Act.put, Act.eval, Array.getD_eq_getD_getElem?, List.getElem?_toArray, List.getElem?_cons_zero, List.getElem?_cons_succ, Option.getD_some, List.setIfInBounds_toArray, List.set_cons_zero, List.set_cons_succ]) | (refine Calm.gn_load (ty := 22) rfl ?_; refine Calm.wn_loadE (ty := 22) S rfl (by rfl) rfl rfl (by (repeat (first | exact List.Mem.head _ | apply List.Mem.tail))) (by rfl) one64 ?_; simp only [Act.put, Act.eval, Array.getD_eq_getD_getElem?, List.getElem?_toArray, List.getElem?_cons_zero, List.getElem?_cons_succ, Option.getD_some, List.setIfInBounds_toArray, List.set_cons_zero, List.set_cons_succ]) | (apply Calm.wn_val rfl (by rfl); (intro w; go_simp; rfl); simp only [Act.put, Act.eval, Array.getD_eq_getD_getElem?, List.getElem?_toArray, List.getElem?_cons_zero, List.getElem?_cons_succ, Option.getD_some, List.setIfInBounds_toArray, List.set_cons_zero, List.set_cons_succ]))
      (refine Calm.wn_nil ?_; clear S; intro W S; simp only [Act.put, List.setIfInBounds_toArray, List.set_cons_zero, List.set_cons_succ, List.drop_succ_cons, List.drop_zero, List.drop_nil])
      try rw [e1]
      try rw [e2]
      go_wp2_with (first | (refine Calm.g_store (ty := 5) rfl ?_; refine Calm.wl_storeE (ty := 5) (b := b) (cs := arr .u8 33 (mixG (fun _ => 0) (gset g k (t % 256)) (k + 1))) S rfl rfl rfl rfl (mixK_set _ _ _ _ _ _) (by (repeat (first | exact Calm.foc_hd | apply Calm.foc_tl))) oU8 (by rw [Go.Arr.arr_size]; omega) rfl ?_; clear S; intro W S))
      go_roundw
      case rel => exact ⟨k + 1, _, _, by omega, by go_num, rfl, Hst.out, S⟩
      case measure => simp [intOf]; omega
    · have hk' : k = 32 := by omega
      subst hk'
      have hc0 := hC.c0
      have hc1 := hC.c1
      have e4 : IntKind.u8.wrap c = c := by rw [IntKind.wrap_u8]; omega
      go_wp2_with (first | (refine Calm.g_store (ty := 5) rfl ?_; refine Calm.wl_storeE (ty := 5) (b := b) (cs := arr .u8 33 (gset (mixG (fun _ => 0) g 32) 32 c)) S rfl rfl rfl rfl (arr_set _ _ _ _ _) (by (repeat (first | exact Calm.foc_hd | apply Calm.foc_tl))) oU8 (by rw [Go.Arr.arr_size]; omega) rfl ?_; clear S; intro W S))
      refine (Rest_c (gset (mixG (fun _ => 0) g 32) 32 c) 33 (by omega) (plus_bd A B g c hC) b 33 (arr .u8 33 (gset (mixG (fun _ => 0) g 32) 32 c)) 66 _ (S.has ⟨b, _, 66⟩ (by repeat (first | exact List.Mem.head _ | apply List.Mem.tail))) (fun j hj => arr_at .u8 33 _ j hj)).mono ?_
      rintro e W1 ⟨he, hb⟩
      rw [plus_end A B g c hA hB hC] at he
      subst he
      have S := S.call hb
      clear hb
      go_wp2_with (first | (refine Calm.wl_box S rfl rfl rfl ?_; clear S; intro b W S) | (refine Calm.wl_new (ty := 36) S rfl rfl zeroSc ?_; clear S; intro b W S) | (refine Calm.g_load (ty := 36) rfl ?_; refine Calm.wl_load (ty := 36) S rfl rfl rfl (by (repeat (first | exact List.Mem.head _ | apply List.Mem.tail))) aggSc (by first | exact (Go.Arr.arr_size _ _ _).symm | rfl) ?_) | (refine Calm.g_store (ty := 36) rfl ?_; refine Calm.wl_store (ty := 36) S rfl rfl rfl rfl (by (repeat (first | exact Calm.foc_hd | apply Calm.foc_tl))) aggSc (by first | exact (Go.Arr.arr_size _ _ _).symm | rfl) (by first | exact (Go.Arr.arr_size _ _ _).symm | rfl) (by first | exact Go.Arr.arr_one _ _ _ | rfl | simp [Value.oneCell']) ?_; clear S; intro W S))
      refine Calm.ret_cell S (by rfl) (by rfl) (by repeat (first | exact List.Mem.head _ | apply List.Mem.tail)) aggSc (arr_size _ _ _).symm (by rfl) ?_
      exact ⟨rfl, S.below⟩
end Go.Proofs.Ytgjicjmihlcgkaa
