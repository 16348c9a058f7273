import Derived.Test.YtgjicjmihlcgkaaRef1
set_option linter.unusedSimpArgs false
namespace Go.Proofs.Ytgjicjmihlcgkaa
open Go.RowKit
theorem val_add (f h : Nat → Int) : ∀ k, val (fun j => f j + h j) k = val f k + val h k
  | 0 => rfl
  | k + 1 => by
    simp only [val]
    rw [val_add f h k, Int.add_mul]
    omega
/-- A borrow has gone through k digits of h less p, written into g. -/
structure Bo2 (p h g : Nat → Int) (c : Int) (k : Nat) : Prop where
  lo : ∀ j, j < k → 0 ≤ g j ∧ g j < 4294967296
  c0 : 0 ≤ c
  c1 : c ≤ 1
  eq : val g k - c * 4294967296 ^ k = val h k - val p k
theorem Bo2.step {p h g : Nat → Int} {c : Int} {k : Nat} (H : Bo2 p h g c k) (hh : 0 ≤ h k ∧ h k < 4294967296) (hp : 0 ≤ p k ∧ p k < 4294967296) : Bo2 p h (upd g k ((4294967296 + h k - p k - c) % 4294967296)) (1 - (4294967296 + h k - p k - c) / 4294967296) (k + 1) := by
  have hc0 := H.c0
  have hc1 := H.c1
  refine ⟨fun j hj => ?_, by omega, by omega, ?_⟩
  · by_cases e : j = k
    · subst e; rw [upd_eq]; omega
    · rw [upd_ne _ _ _ e]; exact H.lo j (by omega)
  · have he := H.eq
    simp only [val]
    rw [upd_eq, val_upd, Int.pow_succ]
    have hd := Int.emod_add_mul_ediv (4294967296 + h k - p k - c) 4294967296
    generalize (4294967296 + h k - p k - c) % 4294967296 = r at *
    generalize (4294967296 + h k - p k - c) / 4294967296 = q at *
    have e1 : h k = r + 4294967296 * q - 4294967296 + p k + c := by omega
    rw [e1]
    have e2 : val h k = val g k - c * 4294967296 ^ k + val p k := by omega
    rw [e2]
    grind
set_option maxHeartbeats 1000000 in
theorem RNeg_c (A : Int) (hA : 0 ≤ A ∧ A < pr) (w : World) : Calls Try.prog 72 #[.agg (nuC A)] w fun e w' => e = .returned (.agg (nuC (-A % pr))) ∧ Below w.heap.size w w' := by
  have S := Calm.St.start w
  go_enter Try.func72, Try.ntmps72
  go_wp2_with (first | (refine Calm.wl_box S rfl rfl rfl ?_; clear S; intro b W S) | (refine Calm.wl_new (ty := 24) S rfl rfl zeroFe ?_; clear S; intro b W S) | (refine Calm.g_load (ty := 24) rfl ?_; refine Calm.wl_load (ty := 24) S rfl rfl rfl (by (repeat (first | exact List.Mem.head _ | apply List.Mem.tail))) aggFe (by simp only [List.size_toArray, List.length_cons, List.length_nil, feC_size]) ?_) | (refine Calm.g_store (ty := 24) rfl ?_; refine Calm.wl_store (ty := 24) S rfl rfl rfl rfl (by (repeat (first | exact Calm.foc_hd | apply Calm.foc_tl))) aggFe rfl (by simp only [List.size_toArray, List.length_cons, List.length_nil, feC_size]) (w4_one _ _ _ _) ?_; clear S; intro W S) | (refine Calm.g_load (ty := 22) rfl ?_; refine Calm.wl_loadE (ty := 22) S rfl rfl rfl (by (repeat (first | exact List.Mem.head _ | apply List.Mem.tail))) (by rfl) one64 ?_) | (refine Calm.g_store (ty := 22) rfl ?_; refine Calm.wl_storeE (ty := 22) S rfl rfl rfl rfl (by rfl) (by (repeat (first | exact Calm.foc_hd | apply Calm.foc_tl))) one64 (by simp) rfl ?_; clear S; intro W S; simp only [Act.eval, Array.getD_eq_getD_getElem?, List.getElem?_toArray, List.getElem?_cons_zero, List.getElem?_cons_succ, Option.getD_some, List.setIfInBounds_toArray, List.set_cons_zero, List.set_cons_succ] at S) | (refine Calm.wl_new (ty := 28) S rfl rfl zeroNu ?_; clear S; intro b W S))
  rename_i bA _ bR _ K hK
  go_loopw [4, 5] (fun cc i Wr => ∃ (k : Nat) (g : Nat → Int) (c : Int), k ≤ 8 ∧ i = .int .i64 (k : Int) ∧ cc = .int .u64 c ∧ Bo2 (nuG A) pd g c k ∧ Calm.St w Wr [⟨b, nuF g, 28⟩, ⟨bR, nuF (fun _ => 0), 28⟩, ⟨bA, nuC A, 28⟩]) (fun _ i _ => 8 - (intOf i).toNat)
  case atStart => exact ⟨0, _, 0, by omega, rfl, rfl, ⟨fun j h => by omega, by omega, by omega, by simp [val]⟩, S⟩
  case round =>
    clear S
    obtain ⟨k, g, c, hk, rfl, rfl, hC, S⟩ := hrel
    by_cases hlt : k < 8
    · have g5 : (k : Int) < 8 := by omega
      have Hx : Hid ((nuC A)[k]? = some (.int .u64 (nuG A k))) := nuF_at (nuG A) k hlt
      have Hp := hide (fun w => prime_c k hlt w)
      have hbA := nuG_bd A k
      have hpd := pd_bd k
      have hc0 := hC.c0
      have hc1 := hC.c1
      go_wp2_with (first | (refine Calm.wl_box S rfl rfl rfl ?_; clear S; intro b W S) | (refine Calm.wl_new (ty := 24) S rfl rfl zeroFe ?_; clear S; intro b W S) | (refine Calm.g_load (ty := 24) rfl ?_; refine Calm.wl_load (ty := 24) S rfl rfl rfl (by (repeat (first | exact List.Mem.head _ | apply List.Mem.tail))) aggFe (by simp only [List.size_toArray, List.length_cons, List.length_nil, feC_size]) ?_) | (refine Calm.g_store (ty := 24) rfl ?_; refine Calm.wl_store (ty := 24) S rfl rfl rfl rfl (by (repeat (first | exact Calm.foc_hd | apply Calm.foc_tl))) aggFe rfl (by simp only [List.size_toArray, List.length_cons, List.length_nil, feC_size]) (w4_one _ _ _ _) ?_; clear S; intro W S) | (refine Calm.g_load (ty := 22) rfl ?_; refine Calm.wl_loadE (ty := 22) S rfl rfl rfl (by (repeat (first | exact List.Mem.head _ | apply List.Mem.tail))) (by rfl) one64 ?_) | (refine Calm.g_store (ty := 22) rfl ?_; refine Calm.wl_storeE (ty := 22) S rfl rfl rfl rfl (by rfl) (by (repeat (first | exact Calm.foc_hd | apply Calm.foc_tl))) one64 (by simp) rfl ?_; clear S; intro W S; simp only [Act.eval, Array.getD_eq_getD_getElem?, List.getElem?_toArray, List.getElem?_cons_zero, List.getElem?_cons_succ, Option.getD_some, List.setIfInBounds_toArray, List.set_cons_zero, List.set_cons_succ] at S))
      refine Calm.region0 S 9 (by kernel_rfl) (by kernel_rfl) (fun S => ?_)
      iterate 5 (first | (refine Calm.wn_skip rfl ?_) | (refine Calm.wn_move rfl (by rfl) (Or.inl rfl) ?_; simp only [Act.put, Act.eval, Array.getD_eq_getD_getElem?, List.getElem?_toArray, List.getElem?_cons_zero, List.getElem?_cons_succ, Option.getD_some, List.setIfInBounds_toArray, List.set_cons_zero, List.set_cons_succ]) | (refine Calm.wn_move rfl (by rfl) (Or.inr rfl) ?_; simp only [Act.put, Act.eval, Array.getD_eq_getD_getElem?, List.getElem?_toArray, List.getElem?_cons_zero, List.getElem?_cons_succ, Option.getD_some, List.setIfInBounds_toArray, List.set_cons_zero, List.set_cons_succ]) | (refine Calm.gn_load (ty := 24) rfl ?_; refine Calm.wn_load (ty := 24) S rfl (by rfl) rfl rfl (by (repeat (first | exact List.Mem.head _ | apply List.Mem.tail))) aggFe (by simp only [List.size_toArray, List.length_cons, List.length_nil, feC_size]) ?_; simp only [Act.put, Act.eval, Array.getD_eq_getD_getElem?, List.getElem?_toArray, List.getElem?_cons_zero, List.getElem?_cons_succ, Option.getD_some, List.setIfInBounds_toArray, List.set_cons_zero, List.set_cons_succ]) | (refine Calm.gn_load (ty := 22) rfl ?_; refine Calm.wn_loadE (ty := 22) S rfl (by rfl) rfl rfl (by (repeat (first | exact List.Mem.head _ | apply List.Mem.tail))) (by rfl) one64 ?_; simp only [Act.put, Act.eval, Array.getD_eq_getD_getElem?, List.getElem?_toArray, List.getElem?_cons_zero, List.getElem?_cons_succ, Option.getD_some, List.setIfInBounds_toArray, List.set_cons_zero, List.set_cons_succ]) | (apply Calm.wn_call (f := 70) rfl (by rfl) rfl; (intro w; go_simp; rfl); (intro w; exact Hp.out w); simp only [Act.put, Act.eval, Array.getD_eq_getD_getElem?, List.getElem?_toArray, List.getElem?_cons_zero, List.getElem?_cons_succ, Option.getD_some, List.setIfInBounds_toArray, List.set_cons_zero, List.set_cons_succ]) | (apply Calm.wn_val rfl (by rfl); (intro w; go_simp; rfl); simp only [Act.put, Act.eval, Array.getD_eq_getD_getElem?, List.getElem?_toArray, List.getElem?_cons_zero, List.getElem?_cons_succ, Option.getD_some, List.setIfInBounds_toArray, List.set_cons_zero, List.set_cons_succ]))
      refine Calm.gn_load (ty := 22) rfl ?_
      refine Calm.wn_loadE (ty := 22) (b := bA) S rfl (by rfl) rfl rfl (by repeat (first | exact List.Mem.head _ | apply List.Mem.tail)) Hx.out one64 ?_
      simp only [Act.put, Act.eval, Array.getD_eq_getD_getElem?, List.getElem?_toArray, List.getElem?_cons_zero, List.getElem?_cons_succ, Option.getD_some, List.setIfInBounds_toArray, List.set_cons_zero, List.set_cons_succ]
      repeat (first | (refine Calm.wn_skip rfl ?_) | (refine Calm.wn_move rfl (by rfl) (Or.inl rfl) ?_; simp only [Act.put, Act.eval, Array.getD_eq_getD_getElem?, List.getElem?_toArray, List.getElem?_cons_zero, List.getElem?_cons_succ, Option.getD_some, List.setIfInBounds_toArray, List.set_cons_zero, List.set_cons_succ]) | (refine Calm.wn_move rfl (by rfl) (Or.inr rfl) ?_; simp only [Act.put, Act.eval, Array.getD_eq_getD_getElem?, List.getElem?_toArray, List.getElem?_cons_zero, List.getElem?_cons_succ, Option.getD_some, List.setIfInBounds_toArray, List.set_cons_zero, List.set_cons_succ]) | (refine Calm.gn_load (ty := 24) rfl ?_; refine Calm.wn_load (ty := 24) S rfl (by rfl) rfl rfl (by (repeat (first | exact List.Mem.head _ | apply List.Mem.tail))) aggFe (by simp only [List.size_toArray, List.length_cons, List.length_nil, feC_size]) ?_; simp only [Act.put, Act.eval, Array.getD_eq_getD_getElem?, List.getElem?_toArray, List.getElem?_cons_zero, List.getElem?_cons_succ, Option.getD_some, List.setIfInBounds_toArray, List.set_cons_zero, List.set_cons_succ]) | (refine Calm.gn_load (ty := 22) rfl ?_; refine Calm.wn_loadE (ty := 22) S rfl (by rfl) rfl rfl (by (repeat (first | exact List.Mem.head _ | apply List.Mem.tail))) (by rfl) one64 ?_; simp only [Act.put, Act.eval, Array.getD_eq_getD_getElem?, List.getElem?_toArray, List.getElem?_cons_zero, List.getElem?_cons_succ, Option.getD_some, List.setIfInBounds_toArray, List.set_cons_zero, List.set_cons_succ]) | (apply Calm.wn_val rfl (by rfl); (intro w; go_simp; rfl); simp only [Act.put, Act.eval, Array.getD_eq_getD_getElem?, List.getElem?_toArray, List.getElem?_cons_zero, List.getElem?_cons_succ, Option.getD_some, List.setIfInBounds_toArray, List.set_cons_zero, List.set_cons_succ]))
      (refine Calm.wn_nil ?_; clear S; intro W S; simp only [Act.put, List.setIfInBounds_toArray, List.set_cons_zero, List.set_cons_succ, List.drop_succ_cons, List.drop_zero, List.drop_nil])
      go_wp2_with (first | (refine Calm.g_store (ty := 22) rfl ?_; refine Calm.wl_storeE (ty := 22) (b := b) (cs := nuF (upd g k ((4294967296 + pd k - nuG A k - c) % 4294967296))) S rfl rfl rfl rfl (nuF_set _ _ _) (by (repeat (first | exact Calm.foc_hd | apply Calm.foc_tl))) one64 (by rw [nuF_size]; omega) rfl ?_; clear S; intro W S))
      go_roundw
      case rel => exact ⟨k + 1, _, _, by omega, by go_num, rfl, hC.step hpd hbA, S⟩
      case measure => simp [intOf]; omega
    · have hk' : k = 8 := by omega
      subst hk'
      have HR : Hid (∀ w, Calls Try.prog 58 #[.agg (nuF g)] w fun e w' => e = .returned (.agg (nuC (-A % pr))) ∧ Below w.heap.size w w') := by
        intro w
        have h := Reduce_c g (fun j hj => by have := hC.lo j hj; omega) w
        have h1 := val_bd g 8 hC.lo
        have h2 := hC.eq
        have h3 := hC.c0
        have h4 := hC.c1
        rw [val_pd, val_nu A (by unfold Ok; unfold pr at hA; omega)] at h2
        rw [b8] at h1 h2
        have h5 : val g 8 = pr - A := by
          have : c = 0 ∨ c = 1 := by omega
          rcases this with rfl | rfl <;> omega
        rw [h5, show (pr - A) % pr = -A % pr by unfold pr; omega] at h
        exact h
      go_wp2_with (first | (refine Calm.wl_box S rfl rfl rfl ?_; clear S; intro b W S) | (refine Calm.wl_new (ty := 24) S rfl rfl zeroFe ?_; clear S; intro b W S) | (refine Calm.g_load (ty := 24) rfl ?_; refine Calm.wl_load (ty := 24) S rfl rfl rfl (by (repeat (first | exact List.Mem.head _ | apply List.Mem.tail))) aggFe (by simp only [List.size_toArray, List.length_cons, List.length_nil, feC_size]) ?_) | (refine Calm.g_store (ty := 24) rfl ?_; refine Calm.wl_store (ty := 24) S rfl rfl rfl rfl (by (repeat (first | exact Calm.foc_hd | apply Calm.foc_tl))) aggFe rfl (by simp only [List.size_toArray, List.length_cons, List.length_nil, feC_size]) (w4_one _ _ _ _) ?_; clear S; intro W S) | (refine Calm.g_load (ty := 22) rfl ?_; refine Calm.wl_loadE (ty := 22) S rfl rfl rfl (by (repeat (first | exact List.Mem.head _ | apply List.Mem.tail))) (by rfl) one64 ?_) | (refine Calm.g_store (ty := 22) rfl ?_; refine Calm.wl_storeE (ty := 22) S rfl rfl rfl rfl (by rfl) (by (repeat (first | exact Calm.foc_hd | apply Calm.foc_tl))) one64 (by simp) rfl ?_; clear S; intro W S; simp only [Act.eval, Array.getD_eq_getD_getElem?, List.getElem?_toArray, List.getElem?_cons_zero, List.getElem?_cons_succ, Option.getD_some, List.setIfInBounds_toArray, List.set_cons_zero, List.set_cons_succ] at S) | (refine Calm.g_load (ty := 28) rfl ?_; refine Calm.wl_load (ty := 28) S rfl rfl rfl (by repeat (first | exact List.Mem.head _ | apply List.Mem.tail)) aggNu (by rw [nuF_size]) ?_))
      refine (HR.out _).mono ?_
      rintro e W1 ⟨rfl, hb⟩
      have S := S.call hb
      clear hb
      go_wp2_with (first | (refine Calm.g_store (ty := 28) rfl ?_; refine Calm.wl_store (ty := 28) S rfl rfl rfl rfl (by (repeat (first | exact Calm.foc_hd | apply Calm.foc_tl))) aggNu (by unfold nuC; rw [nuF_size]) (by rw [nuF_size]) (nuF_one _) ?_; clear S; intro W S))
      refine Calm.ret_cell S (by rfl) (by rfl) (by repeat (first | exact List.Mem.head _ | apply List.Mem.tail)) aggNu (by unfold nuC; rw [nuF_size]) (by rfl) ?_
      exact ⟨rfl, S.below⟩
theorem nuC_size (n : Int) : (nuC n).size = 8 := nuF_size _
end Go.Proofs.Ytgjicjmihlcgkaa
