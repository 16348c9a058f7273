import Derived.Test.YtgjicjmihlcgkaaRef4
set_option linter.unusedSimpArgs false
namespace Go.Proofs.Ytgjicjmihlcgkaa
open Go.RowKit
/-- Sixteen digits. -/
def nxF (g : Nat → Int) : Array Value := ((List.range 16).map fun j => Value.int .u64 (g j)).toArray
theorem nxF_size (g : Nat → Int) : (nxF g).size = 16 := by simp [nxF]
theorem nxF_at (g : Nat → Int) (k : Nat) (hk : k < 16) : (nxF g)[k]? = some (.int .u64 (g k)) := by simp [nxF, hk]
theorem nxF_set (g : Nat → Int) (k : Nat) (v : Int) : nxF (upd g k v) = (nxF g).setIfInBounds k (.int .u64 v) := by
  unfold nxF
  apply Array.ext
  · simp
  · intro i h1 h2
    rw [Array.getElem_setIfInBounds (by simpa using h1)]
    simp only [List.getElem_toArray, List.getElem_map, List.getElem_range]
    by_cases h : k = i
    · subst h; simp [upd]
    · rw [if_neg h, upd_ne _ _ _ (fun e => h e.symm)]
theorem zeroNx : (Try.prog.info? 74).bind (·.zero) = some (.agg (nxF fun _ => 0)) := by kernel_rfl
theorem val_updG (h : Nat → Int) (j : Nat) (v : Int) : ∀ n, j < n → val (upd h j v) n = val h n + (v - h j) * 4294967296 ^ j
  | 0, hj => by omega
  | n + 1, hj => by
    simp only [val]
    by_cases e : j = n
    · subst e; rw [val_upd, upd_eq, Int.sub_mul]; omega
    · rw [val_updG h j v n (by omega), upd_ne _ _ _ (fun h => e h.symm)]; omega
theorem val_split (h : Nat → Int) : ∀ m, val h (8 + m) = val h 8 + 4294967296 ^ 8 * val (fun j => h (j + 8)) m
  | 0 => by simp [val]
  | m + 1 => by
    rw [show 8 + (m + 1) = (8 + m) + 1 from rfl]
    simp only [val]
    have ih := val_split h m
    simp only [val] at ih
    rw [ih, Int.pow_add, show 8 + m = m + 8 by omega]
    grind
theorem val_zero (n : Nat) : val (fun _ => 0) n = 0 := by
  induction n with
  | zero => rfl
  | succ n ih => simp [val, ih]
theorem val_fold (h : Nat → Int) : val (fun j => h j + 38 * h (j + 8)) 8 % pr = val h 16 % pr := by
  have e : val (fun j => h j + 38 * h (j + 8)) 8 = val h 8 + 38 * val (fun j => h (j + 8)) 8 := by
    have e1 : val (fun j => 38 * h (j + 8)) 8 = 38 * val (fun j => h (j + 8)) 8 := by rw [val8, val8]; omega
    rw [val_add h (fun j => 38 * h (j + 8)), e1]
  rw [e, show val h 16 = val h (8 + 8) from rfl, val_split h 8, b8]
  unfold pr
  omega
/-- Behind k digits of the i-th row. -/
structure Row (a b h g : Nat → Int) (i : Nat) (c : Int) (k : Nat) : Prop where
  bd : ∀ j, 0 ≤ g j ∧ g j < 4294967296
  hi : ∀ j, i + 8 ≤ j → g j = 0
  c0 : 0 ≤ c
  c1 : c < 4294967296
  eq : val g 16 + c * 4294967296 ^ (i + k) = val h 16 + a i * 4294967296 ^ i * val b k
theorem Row.step {a b h g : Nat → Int} {i : Nat} {c : Int} {k : Nat} (R : Row a b h g i c k) (hi : i < 8) (hk : k < 8) (t : Int) (ht : t = c + g (i + k) + a i * b k) (h0 : 0 ≤ t) (h1 : t < 18446744073709551616) : Row a b h (upd g (i + k) (t % 4294967296)) i (t / 4294967296) (k + 1) := by
  refine ⟨fun j => ?_, fun j hj => ?_, by omega, by omega, ?_⟩
  · by_cases e : j = i + k
    · subst e; rw [upd_eq]; omega
    · rw [upd_ne _ _ _ e]; exact R.bd j
  · rw [upd_ne _ _ _ (by omega)]; exact R.hi j hj
  · have he := R.eq
    rw [val_updG _ _ _ 16 (by omega), show val b (k + 1) = val b k + b k * 4294967296 ^ k from rfl]
    have hd := Int.emod_add_mul_ediv t 4294967296
    generalize t % 4294967296 = r at *
    generalize t / 4294967296 = q at *
    rw [show i + (k + 1) = i + k + 1 from rfl, Int.pow_succ]
    have e1 : val g 16 = val h 16 + a i * 4294967296 ^ i * val b k - c * 4294967296 ^ (i + k) := by omega
    have e2 : r = c + g (i + k) + a i * b k - 4294967296 * q := by omega
    rw [e1, e2, Int.pow_add]
    grind
theorem prod_bd (x y : Int) (hx : 0 ≤ x ∧ x < 4294967296) (hy : 0 ≤ y ∧ y < 4294967296) : 0 ≤ x * y ∧ x * y ≤ 18446744065119617025 := by
  refine ⟨Int.mul_nonneg hx.1 hy.1, ?_⟩
  have := Int.mul_le_mul (show x ≤ 4294967295 by omega) (show y ≤ 4294967295 by omega) hy.1 (by omega)
  omega
set_option maxHeartbeats 2000000 in
theorem RMul_c (A B : Int) (hA : Ok A) (hB : Ok B) (w : World) : Calls Try.prog 36 #[.agg (nuC A), .agg (nuC B)] w fun e w' => e = .returned (.agg (nuC (A * B % pr))) ∧ Below w.heap.size w w' := by
  have S := Calm.St.start w
  go_enter Try.func36, Try.ntmps36
  go_wp2_with (first | (refine Calm.wl_box S rfl rfl rfl ?_; clear S; intro b W S) | (refine Calm.wl_new (ty := 24) S rfl rfl zeroFe ?_; clear S; intro b W S) | (refine Calm.g_load (ty := 24) rfl ?_; refine Calm.wl_load (ty := 24) S rfl rfl rfl (by (repeat (first | exact List.Mem.head _ | apply List.Mem.tail))) aggFe (by simp only [List.size_toArray, List.length_cons, List.length_nil, feC_size]) ?_) | (refine Calm.g_store (ty := 24) rfl ?_; refine Calm.wl_store (ty := 24) S rfl rfl rfl rfl (by (repeat (first | exact Calm.foc_hd | apply Calm.foc_tl))) aggFe rfl (by simp only [List.size_toArray, List.length_cons, List.length_nil, feC_size]) (w4_one _ _ _ _) ?_; clear S; intro W S) | (refine Calm.g_load (ty := 22) rfl ?_; refine Calm.wl_loadE (ty := 22) S rfl rfl rfl (by (repeat (first | exact List.Mem.head _ | apply List.Mem.tail))) (by rfl) one64 ?_) | (refine Calm.g_store (ty := 22) rfl ?_; refine Calm.wl_storeE (ty := 22) S rfl rfl rfl rfl (by rfl) (by (repeat (first | exact Calm.foc_hd | apply Calm.foc_tl))) one64 (by simp) rfl ?_; clear S; intro W S; simp only [Act.eval, Array.getD_eq_getD_getElem?, List.getElem?_toArray, List.getElem?_cons_zero, List.getElem?_cons_succ, Option.getD_some, List.setIfInBounds_toArray, List.set_cons_zero, List.set_cons_succ] at S) | (refine Calm.wl_new (ty := 28) S rfl rfl zeroNu ?_; clear S; intro b W S) | (refine Calm.wl_new (ty := 74) S rfl rfl zeroNx ?_; clear S; intro b W S))
  rename_i bA _ bB _ bR _ K hK
  go_loopw [6] (fun ii Wr => ∃ (i : Nat) (h : Nat → Int), i ≤ 8 ∧ ii = .int .i64 (i : Int) ∧ (∀ j, 0 ≤ h j ∧ h j < 4294967296) ∧ (∀ j, i + 8 ≤ j → h j = 0) ∧ val h 16 = val (nuG A) i * B ∧ Calm.St w Wr [⟨b, nxF h, 74⟩, ⟨bR, nuF (fun _ => 0), 28⟩, ⟨bB, nuC B, 28⟩, ⟨bA, nuC A, 28⟩]) (fun ii _ => 8 - (intOf ii).toNat)
  case atStart => exact ⟨0, _, by omega, rfl, fun j => by omega, fun _ _ => rfl, by rw [val_zero]; simp [val], S⟩
  case round =>
    clear S
    obtain ⟨i, h, hi, rfl, hh, hz, hv, S⟩ := hrel
    by_cases hlt : i < 8
    · have hlt' : (i : Int) < 8 := by omega
      have HZ := hide hz
      have HV := hide hv
      have HH := hide hh
      clear hz hv hh
      go_wp2_with (first | (refine Calm.wl_box S rfl rfl rfl ?_; clear S; intro b W S) | (refine Calm.wl_new (ty := 24) S rfl rfl zeroFe ?_; clear S; intro b W S) | (refine Calm.g_load (ty := 24) rfl ?_; refine Calm.wl_load (ty := 24) S rfl rfl rfl (by (repeat (first | exact List.Mem.head _ | apply List.Mem.tail))) aggFe (by simp only [List.size_toArray, List.length_cons, List.length_nil, feC_size]) ?_) | (refine Calm.g_store (ty := 24) rfl ?_; refine Calm.wl_store (ty := 24) S rfl rfl rfl rfl (by (repeat (first | exact Calm.foc_hd | apply Calm.foc_tl))) aggFe rfl (by simp only [List.size_toArray, List.length_cons, List.length_nil, feC_size]) (w4_one _ _ _ _) ?_; clear S; intro W S) | (refine Calm.g_load (ty := 22) rfl ?_; refine Calm.wl_loadE (ty := 22) S rfl rfl rfl (by (repeat (first | exact List.Mem.head _ | apply List.Mem.tail))) (by rfl) one64 ?_) | (refine Calm.g_store (ty := 22) rfl ?_; refine Calm.wl_storeE (ty := 22) S rfl rfl rfl rfl (by rfl) (by (repeat (first | exact Calm.foc_hd | apply Calm.foc_tl))) one64 (by simp) rfl ?_; clear S; intro W S; simp only [Act.eval, Array.getD_eq_getD_getElem?, List.getElem?_toArray, List.getElem?_cons_zero, List.getElem?_cons_succ, Option.getD_some, List.setIfInBounds_toArray, List.set_cons_zero, List.set_cons_succ] at S))
      rename_i K2 hK2
      go_loopw [7, 8] (fun cc kk Wr => ∃ (k : Nat) (g : Nat → Int) (c : Int), k ≤ 8 ∧ kk = .int .i64 (k : Int) ∧ cc = .int .u64 c ∧ Row (nuG A) (nuG B) h g i c k ∧ Calm.St w Wr [⟨b, nxF g, 74⟩, ⟨bR, nuF (fun _ => 0), 28⟩, ⟨bB, nuC B, 28⟩, ⟨bA, nuC A, 28⟩]) (fun _ kk _ => 8 - (intOf kk).toNat)
      case atStart => exact ⟨0, h, 0, by omega, rfl, rfl, ⟨HH.out, HZ.out, by omega, by omega, by simp [val]⟩, S⟩
      case round =>
        clear S
        obtain ⟨k, g, c, hk, rfl, rfl, hR, S⟩ := hrel
        by_cases hk8 : k < 8
        · have hk8' : (k : Int) < 8 := by omega
          obtain ⟨s, hs⟩ : ∃ s : Nat, s = i + k := ⟨_, rfl⟩
          have g1 : IntKind.i64.wrap ((i : Int) + (k : Int)) = (s : Int) := by rw [wrap_small _ (by omega) (by omega)]; omega
          have g2 : (s : Int) < 16 := by omega
          have Hx := hide (nxF_at g s (by omega))
          have Ha : Hid ((nuC A)[i]? = some (.int .u64 (nuG A i))) := nuF_at (nuG A) i hlt
          have Hb : Hid ((nuC B)[k]? = some (.int .u64 (nuG B k))) := nuF_at (nuG B) k hk8
          have ba := nuG_bd A i
          have bb := nuG_bd B k
          have hp := prod_bd _ _ ba bb
          have hc0 := hR.c0
          have hc1 := hR.c1
          have hgb := hR.bd s
          have e1 : IntKind.u64.wrap (nuG A i * nuG B k) = nuG A i * nuG B k := by rw [IntKind.wrap_u64]; omega
          have e2 : IntKind.u64.wrap (c + g s) = c + g s := by rw [IntKind.wrap_u64]; omega
          have e3 : IntKind.u64.wrap (c + g s + nuG A i * nuG B k) = c + g s + nuG A i * nuG B k := by rw [IntKind.wrap_u64]; omega
          obtain ⟨t, ht⟩ : ∃ t, t = c + g s + nuG A i * nuG B k := ⟨_, rfl⟩
          have ht0 : 0 ≤ t := by omega
          have ht1 : t < 18446744073709551616 := by omega
          rw [← ht] at e3
          have Hs := hide hs
          have Ht := hide ht
          clear hs
          go_wp2_with (first | (refine Calm.wl_box S rfl rfl rfl ?_; clear S; intro b W S) | (refine Calm.wl_new (ty := 24) S rfl rfl zeroFe ?_; clear S; intro b W S) | (refine Calm.g_load (ty := 24) rfl ?_; refine Calm.wl_load (ty := 24) S rfl rfl rfl (by (repeat (first | exact List.Mem.head _ | apply List.Mem.tail))) aggFe (by simp only [List.size_toArray, List.length_cons, List.length_nil, feC_size]) ?_) | (refine Calm.g_store (ty := 24) rfl ?_; refine Calm.wl_store (ty := 24) S rfl rfl rfl rfl (by (repeat (first | exact Calm.foc_hd | apply Calm.foc_tl))) aggFe rfl (by simp only [List.size_toArray, List.length_cons, List.length_nil, feC_size]) (w4_one _ _ _ _) ?_; clear S; intro W S) | (refine Calm.g_load (ty := 22) rfl ?_; refine Calm.wl_loadE (ty := 22) S rfl rfl rfl (by (repeat (first | exact List.Mem.head _ | apply List.Mem.tail))) (by rfl) one64 ?_) | (refine Calm.g_store (ty := 22) rfl ?_; refine Calm.wl_storeE (ty := 22) S rfl rfl rfl rfl (by rfl) (by (repeat (first | exact Calm.foc_hd | apply Calm.foc_tl))) one64 (by simp) rfl ?_; clear S; intro W S; simp only [Act.eval, Array.getD_eq_getD_getElem?, List.getElem?_toArray, List.getElem?_cons_zero, List.getElem?_cons_succ, Option.getD_some, List.setIfInBounds_toArray, List.set_cons_zero, List.set_cons_succ] at S))
          refine Calm.region0 S 15 (by kernel_rfl) (by kernel_rfl) (fun S => ?_)
          iterate 5 (first | (refine Calm.wn_skip rfl ?_) | (refine Calm.wn_move rfl (by rfl) (Or.inl rfl) ?_; simp only [Act.put, Act.eval, Array.getD_eq_getD_getElem?, List.getElem?_toArray, List.getElem?_cons_zero, List.getElem?_cons_succ, Option.getD_some, List.setIfInBounds_toArray, List.set_cons_zero, List.set_cons_succ]) | (refine Calm.wn_move rfl (by rfl) (Or.inr rfl) ?_; simp only [Act.put, Act.eval, Array.getD_eq_getD_getElem?, List.getElem?_toArray, List.getElem?_cons_zero, List.getElem?_cons_succ, Option.getD_some, List.setIfInBounds_toArray, List.set_cons_zero, List.set_cons_succ]) | (refine Calm.gn_load (ty := 24) rfl ?_; refine Calm.wn_load (ty := 24) S rfl (by rfl) rfl rfl (by (repeat (first | exact List.Mem.head _ | apply List.Mem.tail))) aggFe (by simp only [List.size_toArray, List.length_cons, List.length_nil, feC_size]) ?_; simp only [Act.put, Act.eval, Array.getD_eq_getD_getElem?, List.getElem?_toArray, List.getElem?_cons_zero, List.getElem?_cons_succ, Option.getD_some, List.setIfInBounds_toArray, List.set_cons_zero, List.set_cons_succ]) | (refine Calm.gn_load (ty := 22) rfl ?_; refine Calm.wn_loadE (ty := 22) S rfl (by rfl) rfl rfl (by (repeat (first | exact List.Mem.head _ | apply List.Mem.tail))) (by rfl) one64 ?_; simp only [Act.put, Act.eval, Array.getD_eq_getD_getElem?, List.getElem?_toArray, List.getElem?_cons_zero, List.getElem?_cons_succ, Option.getD_some, List.setIfInBounds_toArray, List.set_cons_zero, List.set_cons_succ]) | (apply Calm.wn_val rfl (by rfl); (intro w; go_simp; rfl); simp only [Act.put, Act.eval, Array.getD_eq_getD_getElem?, List.getElem?_toArray, List.getElem?_cons_zero, List.getElem?_cons_succ, Option.getD_some, List.setIfInBounds_toArray, List.set_cons_zero, List.set_cons_succ]))
          refine Calm.gn_load (ty := 22) rfl ?_
          refine Calm.wn_loadE (ty := 22) (b := b) S rfl (by rfl) rfl rfl (by repeat (first | exact List.Mem.head _ | apply List.Mem.tail)) Hx.out one64 ?_
          simp only [Act.put, Act.eval, Array.getD_eq_getD_getElem?, List.getElem?_toArray, List.getElem?_cons_zero, List.getElem?_cons_succ, Option.getD_some, List.setIfInBounds_toArray, List.set_cons_zero, List.set_cons_succ]
          iterate 3 (first | (refine Calm.wn_skip rfl ?_) | (refine Calm.wn_move rfl (by rfl) (Or.inl rfl) ?_; simp only [Act.put, Act.eval, Array.getD_eq_getD_getElem?, List.getElem?_toArray, List.getElem?_cons_zero, List.getElem?_cons_succ, Option.getD_some, List.setIfInBounds_toArray, List.set_cons_zero, List.set_cons_succ]) | (refine Calm.wn_move rfl (by rfl) (Or.inr rfl) ?_; simp only [Act.put, Act.eval, Array.getD_eq_getD_getElem?, List.getElem?_toArray, List.getElem?_cons_zero, List.getElem?_cons_succ, Option.getD_some, List.setIfInBounds_toArray, List.set_cons_zero, List.set_cons_succ]) | (refine Calm.gn_load (ty := 24) rfl ?_; refine Calm.wn_load (ty := 24) S rfl (by rfl) rfl rfl (by (repeat (first | exact List.Mem.head _ | apply List.Mem.tail))) aggFe (by simp only [List.size_toArray, List.length_cons, List.length_nil, feC_size]) ?_; simp only [Act.put, Act.eval, Array.getD_eq_getD_getElem?, List.getElem?_toArray, List.getElem?_cons_zero, List.getElem?_cons_succ, Option.getD_some, List.setIfInBounds_toArray, List.set_cons_zero, List.set_cons_succ]) | (refine Calm.gn_load (ty := 22) rfl ?_; refine Calm.wn_loadE (ty := 22) S rfl (by rfl) rfl rfl (by (repeat (first | exact List.Mem.head _ | apply List.Mem.tail))) (by rfl) one64 ?_; simp only [Act.put, Act.eval, Array.getD_eq_getD_getElem?, List.getElem?_toArray, List.getElem?_cons_zero, List.getElem?_cons_succ, Option.getD_some, List.setIfInBounds_toArray, List.set_cons_zero, List.set_cons_succ]) | (apply Calm.wn_val rfl (by rfl); (intro w; go_simp; rfl); simp only [Act.put, Act.eval, Array.getD_eq_getD_getElem?, List.getElem?_toArray, List.getElem?_cons_zero, List.getElem?_cons_succ, Option.getD_some, List.setIfInBounds_toArray, List.set_cons_zero, List.set_cons_succ]))
          refine Calm.gn_load (ty := 22) rfl ?_
          refine Calm.wn_loadE (ty := 22) (b := bA) S rfl (by rfl) rfl rfl (by repeat (first | exact List.Mem.head _ | apply List.Mem.tail)) Ha.out one64 ?_
          simp only [Act.put, Act.eval, Array.getD_eq_getD_getElem?, List.getElem?_toArray, List.getElem?_cons_zero, List.getElem?_cons_succ, Option.getD_some, List.setIfInBounds_toArray, List.set_cons_zero, List.set_cons_succ]
          iterate 2 (first | (refine Calm.wn_skip rfl ?_) | (refine Calm.wn_move rfl (by rfl) (Or.inl rfl) ?_; simp only [Act.put, Act.eval, Array.getD_eq_getD_getElem?, List.getElem?_toArray, List.getElem?_cons_zero, List.getElem?_cons_succ, Option.getD_some, List.setIfInBounds_toArray, List.set_cons_zero, List.set_cons_succ]) | (refine Calm.wn_move rfl (by rfl) (Or.inr rfl) ?_; simp only [Act.put, Act.eval, Array.getD_eq_getD_getElem?, List.getElem?_toArray, List.getElem?_cons_zero, List.getElem?_cons_succ, Option.getD_some, List.setIfInBounds_toArray, List.set_cons_zero, List.set_cons_succ]) | (refine Calm.gn_load (ty := 24) rfl ?_; refine Calm.wn_load (ty := 24) S rfl (by rfl) rfl rfl (by (repeat (first | exact List.Mem.head _ | apply List.Mem.tail))) aggFe (by simp only [List.size_toArray, List.length_cons, List.length_nil, feC_size]) ?_; simp only [Act.put, Act.eval, Array.getD_eq_getD_getElem?, List.getElem?_toArray, List.getElem?_cons_zero, List.getElem?_cons_succ, Option.getD_some, List.setIfInBounds_toArray, List.set_cons_zero, List.set_cons_succ]) | (refine Calm.gn_load (ty := 22) rfl ?_; refine Calm.wn_loadE (ty := 22) S rfl (by rfl) rfl rfl (by (repeat (first | exact List.Mem.head _ | apply List.Mem.tail))) (by rfl) one64 ?_; simp only [Act.put, Act.eval, Array.getD_eq_getD_getElem?, List.getElem?_toArray, List.getElem?_cons_zero, List.getElem?_cons_succ, Option.getD_some, List.setIfInBounds_toArray, List.set_cons_zero, List.set_cons_succ]) | (apply Calm.wn_val rfl (by rfl); (intro w; go_simp; rfl); simp only [Act.put, Act.eval, Array.getD_eq_getD_getElem?, List.getElem?_toArray, List.getElem?_cons_zero, List.getElem?_cons_succ, Option.getD_some, List.setIfInBounds_toArray, List.set_cons_zero, List.set_cons_succ]))
          refine Calm.gn_load (ty := 22) rfl ?_
          refine Calm.wn_loadE (ty := 22) (b := bB) S rfl (by rfl) rfl rfl (by repeat (first | exact List.Mem.head _ | apply List.Mem.tail)) Hb.out one64 ?_
          simp only [Act.put, Act.eval, Array.getD_eq_getD_getElem?, List.getElem?_toArray, List.getElem?_cons_zero, List.getElem?_cons_succ, Option.getD_some, List.setIfInBounds_toArray, List.set_cons_zero, List.set_cons_succ]
          repeat (first | (refine Calm.wn_skip rfl ?_) | (refine Calm.wn_move rfl (by rfl) (Or.inl rfl) ?_; simp only [Act.put, Act.eval, Array.getD_eq_getD_getElem?, List.getElem?_toArray, List.getElem?_cons_zero, List.getElem?_cons_succ, Option.getD_some, List.setIfInBounds_toArray, List.set_cons_zero, List.set_cons_succ]) | (refine Calm.wn_move rfl (by rfl) (Or.inr rfl) ?_; simp only [Act.put, Act.eval, Array.getD_eq_getD_getElem?, List.getElem?_toArray, List.getElem?_cons_zero, List.getElem?_cons_succ, Option.getD_some, List.setIfInBounds_toArray, List.set_cons_zero, List.set_cons_succ]) | (refine Calm.gn_load (ty := 24) rfl ?_; refine Calm.wn_load (ty := 24) S rfl (by rfl) rfl rfl (by (repeat (first | exact List.Mem.head _ | apply List.Mem.tail))) aggFe (by simp only [List.size_toArray, List.length_cons, List.length_nil, feC_size]) ?_; simp only [Act.put, Act.eval, Array.getD_eq_getD_getElem?, List.getElem?_toArray, List.getElem?_cons_zero, List.getElem?_cons_succ, Option.getD_some, List.setIfInBounds_toArray, List.set_cons_zero, List.set_cons_succ]) | (refine Calm.gn_load (ty := 22) rfl ?_; refine Calm.wn_loadE (ty := 22) S rfl (by rfl) rfl rfl (by (repeat (first | exact List.Mem.head _ | apply List.Mem.tail))) (by rfl) one64 ?_; simp only [Act.put, Act.eval, Array.getD_eq_getD_getElem?, List.getElem?_toArray, List.getElem?_cons_zero, List.getElem?_cons_succ, Option.getD_some, List.setIfInBounds_toArray, List.set_cons_zero, List.set_cons_succ]) | (apply Calm.wn_val rfl (by rfl); (intro w; go_simp; rfl); simp only [Act.put, Act.eval, Array.getD_eq_getD_getElem?, List.getElem?_toArray, List.getElem?_cons_zero, List.getElem?_cons_succ, Option.getD_some, List.setIfInBounds_toArray, List.set_cons_zero, List.set_cons_succ]))
          (refine Calm.wn_nil ?_; clear S; intro W S; simp only [Act.put, List.setIfInBounds_toArray, List.set_cons_zero, List.set_cons_succ, List.drop_succ_cons, List.drop_zero, List.drop_nil])
          try rw [e2]
          try rw [e1]
          try rw [e3]
          try rw [← ht]
          clear ht e3
          go_wp2_with (first | (refine Calm.g_store (ty := 22) rfl ?_; refine Calm.wl_storeE (ty := 22) (b := b) (cs := nxF (upd g s (t % 4294967296))) S rfl rfl rfl rfl (nxF_set _ _ _) (by (repeat (first | exact Calm.foc_hd | apply Calm.foc_tl))) one64 (by rw [nxF_size]; omega) rfl ?_; clear S; intro W S))
          go_roundw
          case rel =>
            refine ⟨k + 1, _, _, by omega, by go_num, rfl, ?_, S⟩
            have hs := Hs.out
            rw [hs]
            exact hR.step hlt hk8 t (by rw [Ht.out, hs]) ht0 ht1
          case measure => simp [intOf]; omega
        · have hk' : k = 8 := by omega
          subst hk'
          obtain ⟨s, hs⟩ : ∃ s : Nat, s = i + 8 := ⟨_, rfl⟩
          have g1 : IntKind.i64.wrap ((i : Int) + 8) = (s : Int) := by rw [wrap_small _ (by omega) (by omega)]; omega
          have g2 : (s : Int) < 16 := by omega
          have Hs := hide hs
          clear hs
          have hs16 : s < 16 := by omega
          go_wp2_with (first | (refine Calm.g_store (ty := 22) rfl ?_; refine Calm.wl_storeE (ty := 22) (b := b) (cs := nxF (upd g s c)) S rfl rfl rfl rfl (nxF_set _ _ _) (by (repeat (first | exact Calm.foc_hd | apply Calm.foc_tl))) one64 (by rw [nxF_size]; omega) rfl ?_; clear S; intro W S))
          go_roundw
          case rel =>
            have hs := Hs.out
            have hc0 := hR.c0
            have hc1 := hR.c1
            refine ⟨i + 1, _, by omega, by go_num, fun j => ?_, fun j hj => ?_, ?_, S⟩
            · by_cases e : j = s
              · subst e; rw [upd_eq]; omega
              · rw [upd_ne _ _ _ e]; exact hR.bd j
            · rw [upd_ne _ _ _ (by omega)]; exact hR.hi j (by omega)
            · have he := hR.eq
              rw [val_updG _ _ _ 16 hs16, hR.hi s (by omega), hs, show val (nuG A) (i + 1) = val (nuG A) i + nuG A i * 4294967296 ^ i from rfl]
              rw [val_nu B hB, HV.out] at he
              rw [Int.add_mul, Int.sub_zero]
              omega
          case measure => simp [intOf]; omega
    · have hi' : i = 8 := by omega
      subst hi'
      rw [val_nu A hA] at hv
      have HR : Hid (∀ w, Calls Try.prog 58 #[.agg (nuF fun j => h j + 38 * h (j + 8))] w fun e w' => e = .returned (.agg (nuC (A * B % pr))) ∧ Below w.heap.size w w') := by
        intro w
        have := Reduce_c (fun j => h j + 38 * h (j + 8)) (fun j _ => by have := hh j; have := hh (j + 8); omega) w
        rw [val_fold, hv] at this
        exact this
      have HH := hide hh
      clear hv hz hh
      go_wp2_with (first | (refine Calm.wl_new (ty := 28) S rfl rfl zeroNu ?_; clear S; intro b5 W S))
      rename_i K2 hK2
      go_loopw [10] (fun ii Wr => ∃ (k : Nat) (g : Nat → Int), k ≤ 8 ∧ ii = .int .i64 (k : Int) ∧ (∀ j, j < k → g j = h j + 38 * h (j + 8)) ∧ Calm.St w Wr [⟨b5, nuF g, 28⟩, ⟨b, nxF h, 74⟩, ⟨bR, nuF (fun _ => 0), 28⟩, ⟨bB, nuC B, 28⟩, ⟨bA, nuC A, 28⟩]) (fun ii _ => 8 - (intOf ii).toNat)
      case atStart => exact ⟨0, _, by omega, rfl, fun j h => by omega, S⟩
      case round =>
        clear S
        obtain ⟨k, g, hk, rfl, hg, S⟩ := hrel
        by_cases hk8 : k < 8
        · have hk8' : (k : Int) < 8 := by omega
          have hk16' : (k : Int) < 16 := by omega
          obtain ⟨s, hs⟩ : ∃ s : Nat, s = k + 8 := ⟨_, rfl⟩
          have g1 : IntKind.i64.wrap ((k : Int) + 8) = (s : Int) := by rw [wrap_small _ (by omega) (by omega)]; omega
          have g2 : (s : Int) < 16 := by omega
          have Hx := hide (nxF_at h k (by omega))
          have Hy := hide (nxF_at h s (by omega))
          have b1 := HH.out k
          have b2 := HH.out s
          have e1 : IntKind.u64.wrap (38 * h s) = 38 * h s := by rw [IntKind.wrap_u64]; omega
          have e2 : IntKind.u64.wrap (h k + 38 * h s) = h k + 38 * h s := by rw [IntKind.wrap_u64]; omega
          have Hs := hide hs
          have Hg := hide hg
          clear hs hg
          go_wp2_with (first | (refine Calm.wl_box S rfl rfl rfl ?_; clear S; intro b W S) | (refine Calm.wl_new (ty := 24) S rfl rfl zeroFe ?_; clear S; intro b W S) | (refine Calm.g_load (ty := 24) rfl ?_; refine Calm.wl_load (ty := 24) S rfl rfl rfl (by (repeat (first | exact List.Mem.head _ | apply List.Mem.tail))) aggFe (by simp only [List.size_toArray, List.length_cons, List.length_nil, feC_size]) ?_) | (refine Calm.g_store (ty := 24) rfl ?_; refine Calm.wl_store (ty := 24) S rfl rfl rfl rfl (by (repeat (first | exact Calm.foc_hd | apply Calm.foc_tl))) aggFe rfl (by simp only [List.size_toArray, List.length_cons, List.length_nil, feC_size]) (w4_one _ _ _ _) ?_; clear S; intro W S) | (refine Calm.g_load (ty := 22) rfl ?_; refine Calm.wl_loadE (ty := 22) S rfl rfl rfl (by (repeat (first | exact List.Mem.head _ | apply List.Mem.tail))) (by rfl) one64 ?_) | (refine Calm.g_store (ty := 22) rfl ?_; refine Calm.wl_storeE (ty := 22) S rfl rfl rfl rfl (by rfl) (by (repeat (first | exact Calm.foc_hd | apply Calm.foc_tl))) one64 (by simp) rfl ?_; clear S; intro W S; simp only [Act.eval, Array.getD_eq_getD_getElem?, List.getElem?_toArray, List.getElem?_cons_zero, List.getElem?_cons_succ, Option.getD_some, List.setIfInBounds_toArray, List.set_cons_zero, List.set_cons_succ] at S))
          refine Calm.region0 S 11 (by kernel_rfl) (by kernel_rfl) (fun S => ?_)
          iterate 3 (first | (refine Calm.wn_skip rfl ?_) | (refine Calm.wn_move rfl (by rfl) (Or.inl rfl) ?_; simp only [Act.put, Act.eval, Array.getD_eq_getD_getElem?, List.getElem?_toArray, List.getElem?_cons_zero, List.getElem?_cons_succ, Option.getD_some, List.setIfInBounds_toArray, List.set_cons_zero, List.set_cons_succ]) | (refine Calm.wn_move rfl (by rfl) (Or.inr rfl) ?_; simp only [Act.put, Act.eval, Array.getD_eq_getD_getElem?, List.getElem?_toArray, List.getElem?_cons_zero, List.getElem?_cons_succ, Option.getD_some, List.setIfInBounds_toArray, List.set_cons_zero, List.set_cons_succ]) | (refine Calm.gn_load (ty := 24) rfl ?_; refine Calm.wn_load (ty := 24) S rfl (by rfl) rfl rfl (by (repeat (first | exact List.Mem.head _ | apply List.Mem.tail))) aggFe (by simp only [List.size_toArray, List.length_cons, List.length_nil, feC_size]) ?_; simp only [Act.put, Act.eval, Array.getD_eq_getD_getElem?, List.getElem?_toArray, List.getElem?_cons_zero, List.getElem?_cons_succ, Option.getD_some, List.setIfInBounds_toArray, List.set_cons_zero, List.set_cons_succ]) | (refine Calm.gn_load (ty := 22) rfl ?_; refine Calm.wn_loadE (ty := 22) S rfl (by rfl) rfl rfl (by (repeat (first | exact List.Mem.head _ | apply List.Mem.tail))) (by rfl) one64 ?_; simp only [Act.put, Act.eval, Array.getD_eq_getD_getElem?, List.getElem?_toArray, List.getElem?_cons_zero, List.getElem?_cons_succ, Option.getD_some, List.setIfInBounds_toArray, List.set_cons_zero, List.set_cons_succ]) | (apply Calm.wn_val rfl (by rfl); (intro w; go_simp; rfl); simp only [Act.put, Act.eval, Array.getD_eq_getD_getElem?, List.getElem?_toArray, List.getElem?_cons_zero, List.getElem?_cons_succ, Option.getD_some, List.setIfInBounds_toArray, List.set_cons_zero, List.set_cons_succ]))
          refine Calm.gn_load (ty := 22) rfl ?_
          refine Calm.wn_loadE (ty := 22) (b := b) S rfl (by rfl) rfl rfl (by repeat (first | exact List.Mem.head _ | apply List.Mem.tail)) Hx.out one64 ?_
          simp only [Act.put, Act.eval, Array.getD_eq_getD_getElem?, List.getElem?_toArray, List.getElem?_cons_zero, List.getElem?_cons_succ, Option.getD_some, List.setIfInBounds_toArray, List.set_cons_zero, List.set_cons_succ]
          iterate 3 (first | (refine Calm.wn_skip rfl ?_) | (refine Calm.wn_move rfl (by rfl) (Or.inl rfl) ?_; simp only [Act.put, Act.eval, Array.getD_eq_getD_getElem?, List.getElem?_toArray, List.getElem?_cons_zero, List.getElem?_cons_succ, Option.getD_some, List.setIfInBounds_toArray, List.set_cons_zero, List.set_cons_succ]) | (refine Calm.wn_move rfl (by rfl) (Or.inr rfl) ?_; simp only [Act.put, Act.eval, Array.getD_eq_getD_getElem?, List.getElem?_toArray, List.getElem?_cons_zero, List.getElem?_cons_succ, Option.getD_some, List.setIfInBounds_toArray, List.set_cons_zero, List.set_cons_succ]) | (refine Calm.gn_load (ty := 24) rfl ?_; refine Calm.wn_load (ty := 24) S rfl (by rfl) rfl rfl (by (repeat (first | exact List.Mem.head _ | apply List.Mem.tail))) aggFe (by simp only [List.size_toArray, List.length_cons, List.length_nil, feC_size]) ?_; simp only [Act.put, Act.eval, Array.getD_eq_getD_getElem?, List.getElem?_toArray, List.getElem?_cons_zero, List.getElem?_cons_succ, Option.getD_some, List.setIfInBounds_toArray, List.set_cons_zero, List.set_cons_succ]) | (refine Calm.gn_load (ty := 22) rfl ?_; refine Calm.wn_loadE (ty := 22) S rfl (by rfl) rfl rfl (by (repeat (first | exact List.Mem.head _ | apply List.Mem.tail))) (by rfl) one64 ?_; simp only [Act.put, Act.eval, Array.getD_eq_getD_getElem?, List.getElem?_toArray, List.getElem?_cons_zero, List.getElem?_cons_succ, Option.getD_some, List.setIfInBounds_toArray, List.set_cons_zero, List.set_cons_succ]) | (apply Calm.wn_val rfl (by rfl); (intro w; go_simp; rfl); simp only [Act.put, Act.eval, Array.getD_eq_getD_getElem?, List.getElem?_toArray, List.getElem?_cons_zero, List.getElem?_cons_succ, Option.getD_some, List.setIfInBounds_toArray, List.set_cons_zero, List.set_cons_succ]))
          refine Calm.gn_load (ty := 22) rfl ?_
          refine Calm.wn_loadE (ty := 22) (b := b) S rfl (by rfl) rfl rfl (by repeat (first | exact List.Mem.head _ | apply List.Mem.tail)) Hy.out one64 ?_
          simp only [Act.put, Act.eval, Array.getD_eq_getD_getElem?, List.getElem?_toArray, List.getElem?_cons_zero, List.getElem?_cons_succ, Option.getD_some, List.setIfInBounds_toArray, List.set_cons_zero, List.set_cons_succ]
          repeat (first | (refine Calm.wn_skip rfl ?_) | (refine Calm.wn_move rfl (by rfl) (Or.inl rfl) ?_; simp only [Act.put, Act.eval, Array.getD_eq_getD_getElem?, List.getElem?_toArray, List.getElem?_cons_zero, List.getElem?_cons_succ, Option.getD_some, List.setIfInBounds_toArray, List.set_cons_zero, List.set_cons_succ]) | (refine Calm.wn_move rfl (by rfl) (Or.inr rfl) ?_; simp only [Act.put, Act.eval, Array.getD_eq_getD_getElem?, List.getElem?_toArray, List.getElem?_cons_zero, List.getElem?_cons_succ, Option.getD_some, List.setIfInBounds_toArray, List.set_cons_zero, List.set_cons_succ]) | (refine Calm.gn_load (ty := 24) rfl ?_; refine Calm.wn_load (ty := 24) S rfl (by rfl) rfl rfl (by (repeat (first | exact List.Mem.head _ | apply List.Mem.tail))) aggFe (by simp only [List.size_toArray, List.length_cons, List.length_nil, feC_size]) ?_; simp only [Act.put, Act.eval, Array.getD_eq_getD_getElem?, List.getElem?_toArray, List.getElem?_cons_zero, List.getElem?_cons_succ, Option.getD_some, List.setIfInBounds_toArray, List.set_cons_zero, List.set_cons_succ]) | (refine Calm.gn_load (ty := 22) rfl ?_; refine Calm.wn_loadE (ty := 22) S rfl (by rfl) rfl rfl (by (repeat (first | exact List.Mem.head _ | apply List.Mem.tail))) (by rfl) one64 ?_; simp only [Act.put, Act.eval, Array.getD_eq_getD_getElem?, List.getElem?_toArray, List.getElem?_cons_zero, List.getElem?_cons_succ, Option.getD_some, List.setIfInBounds_toArray, List.set_cons_zero, List.set_cons_succ]) | (apply Calm.wn_val rfl (by rfl); (intro w; go_simp; rfl); simp only [Act.put, Act.eval, Array.getD_eq_getD_getElem?, List.getElem?_toArray, List.getElem?_cons_zero, List.getElem?_cons_succ, Option.getD_some, List.setIfInBounds_toArray, List.set_cons_zero, List.set_cons_succ]))
          (refine Calm.wn_nil ?_; clear S; intro W S; simp only [Act.put, List.setIfInBounds_toArray, List.set_cons_zero, List.set_cons_succ, List.drop_succ_cons, List.drop_zero, List.drop_nil])
          try rw [e1]
          try rw [e2]
          refine Calm.wl_storeE (ty := 22) (b := b5) (cs := nuF (upd g k (h k + 38 * h s))) S rfl rfl rfl rfl (nuF_set _ _ _) (by (repeat (first | exact Calm.foc_hd | apply Calm.foc_tl))) one64 (by rw [nuF_size]; omega) rfl ?_
          clear S
          intro W S
          go_wp2_with (first | (refine Calm.wl_box S rfl rfl rfl ?_; clear S; intro b W S) | (refine Calm.wl_new (ty := 24) S rfl rfl zeroFe ?_; clear S; intro b W S) | (refine Calm.g_load (ty := 24) rfl ?_; refine Calm.wl_load (ty := 24) S rfl rfl rfl (by (repeat (first | exact List.Mem.head _ | apply List.Mem.tail))) aggFe (by simp only [List.size_toArray, List.length_cons, List.length_nil, feC_size]) ?_) | (refine Calm.g_store (ty := 24) rfl ?_; refine Calm.wl_store (ty := 24) S rfl rfl rfl rfl (by (repeat (first | exact Calm.foc_hd | apply Calm.foc_tl))) aggFe rfl (by simp only [List.size_toArray, List.length_cons, List.length_nil, feC_size]) (w4_one _ _ _ _) ?_; clear S; intro W S) | (refine Calm.g_load (ty := 22) rfl ?_; refine Calm.wl_loadE (ty := 22) S rfl rfl rfl (by (repeat (first | exact List.Mem.head _ | apply List.Mem.tail))) (by rfl) one64 ?_) | (refine Calm.g_store (ty := 22) rfl ?_; refine Calm.wl_storeE (ty := 22) S rfl rfl rfl rfl (by rfl) (by (repeat (first | exact Calm.foc_hd | apply Calm.foc_tl))) one64 (by simp) rfl ?_; clear S; intro W S; simp only [Act.eval, Array.getD_eq_getD_getElem?, List.getElem?_toArray, List.getElem?_cons_zero, List.getElem?_cons_succ, Option.getD_some, List.setIfInBounds_toArray, List.set_cons_zero, List.set_cons_succ] at S))
          go_roundw
          case rel =>
            refine ⟨k + 1, _, by omega, by go_num, fun j hj => ?_, S⟩
            by_cases e : j = k
            · subst e; rw [upd_eq, Hs.out]
            · rw [upd_ne _ _ _ e]; exact Hg.out j (by omega)
          case measure => simp [intOf]; omega
        · have hk' : k = 8 := by omega
          subst hk'
          rw [nuF_ext g (fun j => h j + 38 * h (j + 8)) (fun j hj => hg j hj)] at S
          clear hg
          go_wp2_with (first | (refine Calm.g_load (ty := 28) rfl ?_; refine Calm.wl_load (ty := 28) S rfl rfl rfl (by repeat (first | exact List.Mem.head _ | apply List.Mem.tail)) aggNu (by rw [nuF_size]) ?_))
          refine (HR.out _).mono ?_
          rintro e W1 ⟨rfl, hb⟩
          have S := S.call hb
          clear hb
          go_wp2_with (first | (refine Calm.g_store (ty := 28) rfl ?_; refine Calm.wl_store (ty := 28) S rfl rfl rfl rfl (by (repeat (first | exact Calm.foc_hd | apply Calm.foc_tl))) aggNu (by rw [nuC_size]) (by rw [nuF_size]) (nuF_one _) ?_; clear S; intro W S))
          refine Calm.ret_cell S (by rfl) (by rfl) (by repeat (first | exact List.Mem.head _ | apply List.Mem.tail)) aggNu (by rw [nuC_size]) (by rfl) ?_
          exact ⟨rfl, S.below⟩
end Go.Proofs.Ytgjicjmihlcgkaa
