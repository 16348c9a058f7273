import Derived.Test.YtpmplilhifkeaaaBelow
set_option linter.unusedSimpArgs false
namespace Go.Proofs.Ytpmplilhifkeaaa
open Go.RowKit
/-- 2^256. -/
theorem b8 : (4294967296 : Int) ^ 8 = 115792089237316195423570985008687907853269984665640564039457584007913129639936 := rfl
/-- A carry has gone through k digits. -/
structure Car (f g : Nat → Int) (c : Int) (k : Nat) : Prop where
  lo : ∀ j, j < k → 0 ≤ g j ∧ g j < 4294967296
  hi : ∀ j, k ≤ j → j < 8 → g j = f j
  c0 : 0 ≤ c
  c1 : c ≤ 512
  eq : val g k + c * 4294967296 ^ k = val f k
theorem Car.start (f : Nat → Int) : Car f f 0 0 := ⟨fun j h => by omega, fun _ _ _ => rfl, by omega, by omega, by simp [val]⟩
theorem Car.step {f g : Nat → Int} {c : Int} {k : Nat} (h : Car f g c k) (hk : k < 8) (hf : 0 ≤ f k ∧ f k < 1099511627776) : Car f (upd g k ((c + g k) % 4294967296)) ((c + g k) / 4294967296) (k + 1) := by
  have hgk := h.hi k (by omega) hk
  have hc0 := h.c0
  have hc1 := h.c1
  refine ⟨fun j hj => ?_, fun j h1 h2 => ?_, by omega, by omega, ?_⟩
  · by_cases e : j = k
    · subst e; rw [upd_eq]; omega
    · rw [upd_ne _ _ _ e]; exact h.lo j (by omega)
  · rw [upd_ne _ _ _ (by omega)]; exact h.hi j (by omega) h2
  · have he := h.eq
    simp only [val]
    rw [upd_eq, val_upd, ← he, ← hgk, Int.pow_succ]
    have hd := Int.emod_add_mul_ediv (c + g k) 4294967296
    generalize (c + g k) % 4294967296 = r at *
    generalize (c + g k) / 4294967296 = q at *
    have : g k = r + 4294967296 * q - c := by omega
    rw [this]
    grind
/-- What the digits are behind k passes. -/
structure Pas (k : Nat) (g : Nat → Int) : Prop where
  bd : ∀ j, j < 8 → 0 ≤ g j ∧ g j < 1099511627776
  one : 1 ≤ k → ∀ j, 1 ≤ j → j < 8 → g j < 4294967296
  lo : 1 ≤ k → g 0 < 4294986752
  two : 2 ≤ k → g 0 < 4294967296
theorem val_up0 (h : Nat → Int) (v : Int) : val (upd h 0 v) 8 = val h 8 - h 0 + v := by
  rw [val8, val8, upd_eq, upd_ne _ _ _ (by omega), upd_ne _ _ _ (by omega), upd_ne _ _ _ (by omega), upd_ne _ _ _ (by omega), upd_ne _ _ _ (by omega), upd_ne _ _ _ (by omega), upd_ne _ _ _ (by omega)]
  omega
theorem val_up7 (h : Nat → Int) (v : Int) : val (upd h 7 v) 8 = val h 8 + (v - h 7) * 26959946667150639794667015087019630673637144422540572481103610249216 := by
  rw [val8, val8, upd_eq, upd_ne _ _ _ (by omega), upd_ne _ _ _ (by omega), upd_ne _ _ _ (by omega), upd_ne _ _ _ (by omega), upd_ne _ _ _ (by omega), upd_ne _ _ _ (by omega), upd_ne _ _ _ (by omega)]
  omega
theorem val_ge0 (h : Nat → Int) (hb : ∀ j, j < 8 → 0 ≤ h j ∧ h j < 4294967296) : h 0 ≤ val h 8 := by
  rw [val8]
  have b1 := hb 1 (by omega)
  have b2 := hb 2 (by omega)
  have b3 := hb 3 (by omega)
  have b4 := hb 4 (by omega)
  have b5 := hb 5 (by omega)
  have b6 := hb 6 (by omega)
  have b7 := hb 7 (by omega)
  omega
theorem val_le1 (g : Nat → Int) (x : Int) (h0 : g 0 < 4294967296 + x) (hb : ∀ j, 1 ≤ j → j < 8 → g j < 4294967296) : val g 8 < 115792089237316195423570985008687907853269984665640564039457584007913129639936 + x := by
  rw [val8]
  have b1 := hb 1 (by omega) (by omega)
  have b2 := hb 2 (by omega) (by omega)
  have b3 := hb 3 (by omega) (by omega)
  have b4 := hb 4 (by omega) (by omega)
  have b5 := hb 5 (by omega) (by omega)
  have b6 := hb 6 (by omega) (by omega)
  have b7 := hb 7 (by omega) (by omega)
  omega
theorem Pas.step {k : Nat} {g h : Nat → Int} {c : Int} (P : Pas k g) (C : Car g h c 8) : Pas (k + 1) (upd h 0 (h 0 + 38 * c)) := by
  have hc0 := C.c0
  have hc1 := C.c1
  have h0 := C.lo 0 (by omega)
  refine ⟨fun j hj => ?_, fun _ j h1 h2 => ?_, fun _ => ?_, fun h2 => ?_⟩
  · by_cases e : j = 0
    · subst e; rw [upd_eq]; omega
    · rw [upd_ne _ _ _ e]; have := C.lo j hj; omega
  · rw [upd_ne _ _ _ (by omega)]; exact (C.lo j h2).2
  · rw [upd_eq]; omega
  · rw [upd_eq]
    have e := C.eq
    rw [b8] at e
    have hv := val_bd h 8 C.lo
    rw [b8] at hv
    have hg := val_ge0 h C.lo
    have hl := val_le1 g 19456 (by have := P.lo (by omega); omega) (P.one (by omega))
    generalize val h 8 = x at *
    generalize val g 8 = y at *
    have : c = 0 ∨ c = 1 := by omega
    rcases this with rfl | rfl <;> omega
theorem pas_val {g h : Nat → Int} {c : Int} (C : Car g h c 8) : val (upd h 0 (h 0 + 38 * c)) 8 % pr = val g 8 % pr := by
  rw [val_up0, ← C.eq, b8]
  unfold pr
  omega
/-- The top bit, brought down. -/
def top (g : Nat → Int) : Nat → Int := upd (upd g 0 (g 0 + 19 * (g 7 / 2147483648))) 7 (g 7 % 2147483648)
theorem top_val (g : Nat → Int) : val (top g) 8 = val g 8 - (g 7 / 2147483648) * (57896044618658097711785492504343953926634992332820282019728792003956564819968 - 19) := by
  unfold top
  rw [val_up7, val_up0, upd_ne _ _ _ (by omega)]
  omega
theorem top_mod (g : Nat → Int) : val (top g) 8 % pr = val g 8 % pr := by
  rw [top_val]; unfold pr; omega
theorem top_bd {g : Nat → Int} (P : Pas 3 g) : ∀ j, j < 8 → 0 ≤ top g j ∧ top g j < 1099511627776 := by
  intro j hj
  unfold top
  have h7 := P.bd 7 (by omega)
  have h7' := P.one (by omega) 7 (by omega) (by omega)
  have h0 := P.bd 0 (by omega)
  have h0' := P.two (by omega)
  by_cases e : j = 7
  · subst e; rw [upd_eq]; omega
  · rw [upd_ne _ _ _ e]
    by_cases e0 : j = 0
    · subst e0; rw [upd_eq]; omega
    · rw [upd_ne _ _ _ e0]; exact P.bd j hj
theorem top_lt {g : Nat → Int} (P : Pas 3 g) : val (top g) 8 < 57896044618658097711785492504343953926634992332820282019728792003956564819968 + 19 := by
  rw [top_val, val8]
  have b1 := P.one (by omega) 1 (by omega) (by omega)
  have b2 := P.one (by omega) 2 (by omega) (by omega)
  have b3 := P.one (by omega) 3 (by omega) (by omega)
  have b4 := P.one (by omega) 4 (by omega) (by omega)
  have b5 := P.one (by omega) 5 (by omega) (by omega)
  have b6 := P.one (by omega) 6 (by omega) (by omega)
  have b7 := P.one (by omega) 7 (by omega) (by omega)
  have b0 := P.two (by omega)
  have c7 := P.bd 7 (by omega)
  have : g 7 / 2147483648 = 0 ∨ g 7 / 2147483648 = 1 := by omega
  rcases this with e | e <;> rw [e] <;> omega
/-- A borrow has gone through k digits of h less p. -/
structure Bor (p h g : Nat → Int) (c : Int) (k : Nat) : Prop where
  lo : ∀ j, j < k → 0 ≤ g j ∧ g j < 4294967296
  hi : ∀ j, k ≤ j → j < 8 → g j = h j
  c0 : 0 ≤ c
  c1 : c ≤ 1
  eq : val g k - c * 4294967296 ^ k = val h k - val p k
theorem Bor.start (p h : Nat → Int) : Bor p h h 0 0 := ⟨fun j h => by omega, fun _ _ _ => rfl, by omega, by omega, by simp [val]⟩
theorem Bor.step {p h g : Nat → Int} {c : Int} {k : Nat} (H : Bor p h g c k) (hk : k < 8) (hh : 0 ≤ h k ∧ h k < 4294967296) (hp : 0 ≤ p k ∧ p k < 4294967296) : Bor p h (upd g k ((4294967296 + g k - p k - c) % 4294967296)) (1 - (4294967296 + g k - p k - c) / 4294967296) (k + 1) := by
  have hgk := H.hi k (by omega) hk
  have hc0 := H.c0
  have hc1 := H.c1
  refine ⟨fun j hj => ?_, fun j h1 h2 => ?_, by omega, by omega, ?_⟩
  · by_cases e : j = k
    · subst e; rw [upd_eq]; omega
    · rw [upd_ne _ _ _ e]; exact H.lo j (by omega)
  · rw [upd_ne _ _ _ (by omega)]; exact H.hi j (by omega) h2
  · have he := H.eq
    simp only [val]
    rw [upd_eq, val_upd, ← hgk, Int.pow_succ]
    have hd := Int.emod_add_mul_ediv (4294967296 + g k - p k - c) 4294967296
    generalize (4294967296 + g k - p k - c) % 4294967296 = r at *
    generalize (4294967296 + g k - p k - c) / 4294967296 = q at *
    have e1 : g k = r + 4294967296 * q - 4294967296 + p k + c := by omega
    rw [e1]
    have e2 : val h k = val g k - c * 4294967296 ^ k + val p k := by omega
    rw [e2]
    grind
set_option maxHeartbeats 2000000 in
theorem Reduce_c (f : Nat → Int) (hf : ∀ j, j < 8 → 0 ≤ f j ∧ f j < 1099511627776) (w : World) : Calls Try.prog 67 #[.agg (nuF f)] w fun e w' => e = .returned (.agg (nuC (val f 8 % pr))) ∧ Below w.heap.size w w' := by
  have S := Calm.St.start w
  go_enter Try.func67, Try.ntmps67
  go_wp2_with (first | (refine Calm.wl_box S rfl rfl rfl ?_; clear S; intro b W S) | (refine Calm.wl_new (ty := 24) S rfl rfl zeroFe ?_; clear S; intro b W S) | (refine Calm.g_load (ty := 24) rfl ?_; refine Calm.wl_load (ty := 24) S rfl rfl rfl (by (repeat (first | exact List.Mem.head _ | apply List.Mem.tail))) aggFe (by simp only [List.size_toArray, List.length_cons, List.length_nil, feC_size]) ?_) | (refine Calm.g_store (ty := 24) rfl ?_; refine Calm.wl_store (ty := 24) S rfl rfl rfl rfl (by (repeat (first | exact Calm.foc_hd | apply Calm.foc_tl))) aggFe rfl (by simp only [List.size_toArray, List.length_cons, List.length_nil, feC_size]) (w4_one _ _ _ _) ?_; clear S; intro W S) | (refine Calm.g_load (ty := 22) rfl ?_; refine Calm.wl_loadE (ty := 22) S rfl rfl rfl (by (repeat (first | exact List.Mem.head _ | apply List.Mem.tail))) (by rfl) one64 ?_) | (refine Calm.g_store (ty := 22) rfl ?_; refine Calm.wl_storeE (ty := 22) S rfl rfl rfl rfl (by rfl) (by (repeat (first | exact Calm.foc_hd | apply Calm.foc_tl))) one64 (by simp) rfl ?_; clear S; intro W S; simp only [Act.eval, Array.getD_eq_getD_getElem?, List.getElem?_toArray, List.getElem?_cons_zero, List.getElem?_cons_succ, Option.getD_some, List.setIfInBounds_toArray, List.set_cons_zero, List.set_cons_succ] at S) | (refine Calm.wl_new (ty := 30) S rfl rfl zeroNu ?_; clear S; intro b W S))
  rename_i bA _ K hK
  go_loopw [3] (fun i Wr => ∃ (k : Nat) (g : Nat → Int), k ≤ 3 ∧ i = .int .i64 (k : Int) ∧ Pas k g ∧ val g 8 % pr = val f 8 % pr ∧ Calm.St w Wr [⟨b, nuF (fun _ => 0), 30⟩, ⟨bA, nuF g, 30⟩]) (fun i _ => 3 - (intOf i).toNat)
  case atStart => exact ⟨0, f, by omega, rfl, ⟨hf, fun h => by omega, fun h => by omega, fun h => by omega⟩, rfl, S⟩
  case round =>
    clear S
    obtain ⟨k, g, hk, rfl, hg, hv, S⟩ := hrel
    by_cases hlt : k < 3
    · have hlt' : (k : Int) < 3 := by omega
      go_wp2_with (first | (refine Calm.wl_box S rfl rfl rfl ?_; clear S; intro b W S) | (refine Calm.wl_new (ty := 24) S rfl rfl zeroFe ?_; clear S; intro b W S) | (refine Calm.g_load (ty := 24) rfl ?_; refine Calm.wl_load (ty := 24) S rfl rfl rfl (by (repeat (first | exact List.Mem.head _ | apply List.Mem.tail))) aggFe (by simp only [List.size_toArray, List.length_cons, List.length_nil, feC_size]) ?_) | (refine Calm.g_store (ty := 24) rfl ?_; refine Calm.wl_store (ty := 24) S rfl rfl rfl rfl (by (repeat (first | exact Calm.foc_hd | apply Calm.foc_tl))) aggFe rfl (by simp only [List.size_toArray, List.length_cons, List.length_nil, feC_size]) (w4_one _ _ _ _) ?_; clear S; intro W S) | (refine Calm.g_load (ty := 22) rfl ?_; refine Calm.wl_loadE (ty := 22) S rfl rfl rfl (by (repeat (first | exact List.Mem.head _ | apply List.Mem.tail))) (by rfl) one64 ?_) | (refine Calm.g_store (ty := 22) rfl ?_; refine Calm.wl_storeE (ty := 22) S rfl rfl rfl rfl (by rfl) (by (repeat (first | exact Calm.foc_hd | apply Calm.foc_tl))) one64 (by simp) rfl ?_; clear S; intro W S; simp only [Act.eval, Array.getD_eq_getD_getElem?, List.getElem?_toArray, List.getElem?_cons_zero, List.getElem?_cons_succ, Option.getD_some, List.setIfInBounds_toArray, List.set_cons_zero, List.set_cons_succ] at S))
      rename_i K2 hK2
      go_loopw [4, 5] (fun cc i Wr => ∃ (m : Nat) (h : Nat → Int) (c : Int), m ≤ 8 ∧ i = .int .i64 (m : Int) ∧ cc = .int .u64 c ∧ Car g h c m ∧ Calm.St w Wr [⟨b, nuF (fun _ => 0), 30⟩, ⟨bA, nuF h, 30⟩]) (fun _ i _ => 8 - (intOf i).toNat)
      case atStart => exact ⟨0, g, 0, by omega, rfl, rfl, Car.start g, S⟩
      case round =>
        clear S
        obtain ⟨m, h, c, hm, rfl, rfl, hC, S⟩ := hrel
        by_cases hm8 : m < 8
        · have hm8' : (m : Int) < 8 := by omega
          have Hx := hide (nuF_at h m hm8)
          have hc0 := hC.c0
          have hc1 := hC.c1
          have hgk := hC.hi m (by omega) hm8
          have hgb := hg.bd m hm8
          rw [← hgk] at hgb
          clear hgk
          go_wp2_with (first | (refine Calm.g_load (ty := 22) rfl ?_; refine Calm.wl_loadE (ty := 22) (b := bA) S rfl rfl rfl (by repeat (first | exact List.Mem.head _ | apply List.Mem.tail)) Hx.out one64 ?_) | (refine Calm.g_store (ty := 22) rfl ?_; refine Calm.wl_storeE (ty := 22) (b := bA) (cs := nuF (upd h m ((c + h m) % 4294967296))) S rfl rfl rfl rfl (nuF_set _ _ _) (by (repeat (first | exact Calm.foc_hd | apply Calm.foc_tl))) one64 (by rw [nuF_size]; omega) rfl ?_; clear S; intro W S))
          go_roundw
          case rel => exact ⟨m + 1, _, _, by omega, by go_num, rfl, hC.step hm8 (hg.bd m hm8), S⟩
          case measure => simp [intOf]; omega
        · have hm' : m = 8 := by omega
          subst hm'
          have hc0 := hC.c0
          have hc1 := hC.c1
          have Hx := hide (nuF_at h 0 (by omega))
          have hb0 := hC.lo 0 (by omega)
          go_wp2_with (first | (refine Calm.g_load (ty := 22) rfl ?_; refine Calm.wl_loadE (ty := 22) (b := bA) S rfl rfl rfl (by repeat (first | exact List.Mem.head _ | apply List.Mem.tail)) Hx.out one64 ?_) | (refine Calm.g_store (ty := 22) rfl ?_; refine Calm.wl_storeE (ty := 22) (b := bA) (cs := nuF (upd h 0 (h 0 + 38 * c))) S rfl rfl rfl rfl (nuF_set _ _ _) (by (repeat (first | exact Calm.foc_hd | apply Calm.foc_tl))) one64 (by rw [nuF_size]; omega) rfl ?_; clear S; intro W S))
          go_roundw
          case rel => exact ⟨k + 1, _, by omega, by go_num, hg.step hC, by rw [pas_val hC, hv], S⟩
          case measure => simp [intOf]; omega
    · have hk' : k = 3 := by omega
      subst hk'
      have Hx0 := hide (nuF_at g 0 (by omega))
      have Hx7 := hide (nuF_at g 7 (by omega))
      have Hy7 : Hid ((nuF (upd g 0 (g 0 + 19 * (g 7 / 2147483648))))[7]? = some (.int .u64 (g 7))) := by
        have := nuF_at (upd g 0 (g 0 + 19 * (g 7 / 2147483648))) 7 (by omega)
        rw [upd_ne _ _ _ (by omega)] at this
        exact this
      have h0 := hg.bd 0 (by omega)
      have h7 := hg.bd 7 (by omega)
      go_wp2_with (first | (refine Calm.g_load (ty := 22) rfl ?_; refine Calm.wl_loadE (ty := 22) (b := bA) S rfl rfl rfl (by repeat (first | exact List.Mem.head _ | apply List.Mem.tail)) (by first | exact Hx0.out | exact Hx7.out | exact Hy7.out) one64 ?_) | (refine Calm.g_store (ty := 22) rfl ?_; refine Calm.wl_storeE (ty := 22) (b := bA) (cs := nuF (upd g 0 (g 0 + 19 * (g 7 / 2147483648)))) S rfl rfl rfl rfl (nuF_set _ _ _) (by (repeat (first | exact Calm.foc_hd | apply Calm.foc_tl))) one64 (by rw [nuF_size]; omega) rfl ?_; clear S; intro W S) | (refine Calm.g_store (ty := 22) rfl ?_; refine Calm.wl_storeE (ty := 22) (b := bA) (cs := nuF (top g)) S rfl rfl rfl rfl (nuF_set _ _ _) (by (repeat (first | exact Calm.foc_hd | apply Calm.foc_tl))) one64 (by rw [nuF_size]; omega) rfl ?_; clear S; intro W S))
      rename_i K2 hK2
      have hT := top_bd hg
      have hTl := top_lt hg
      have hTm := (top_mod g).trans hv
      clear hg hv Hx0 Hx7 Hy7 h0 h7
      generalize top g = q at *
      go_loopw [6, 7] (fun cc i Wr => ∃ (m : Nat) (h : Nat → Int) (c : Int), m ≤ 8 ∧ i = .int .i64 (m : Int) ∧ cc = .int .u64 c ∧ Car q h c m ∧ Calm.St w Wr [⟨b, nuF (fun _ => 0), 30⟩, ⟨bA, nuF h, 30⟩]) (fun _ i _ => 8 - (intOf i).toNat)
      case atStart => exact ⟨0, q, 0, by omega, rfl, rfl, Car.start q, S⟩
      case round =>
        clear S
        obtain ⟨m, h, c, hm, rfl, rfl, hC, S⟩ := hrel
        by_cases hm8 : m < 8
        · have hm8' : (m : Int) < 8 := by omega
          have Hx := hide (nuF_at h m hm8)
          have hc0 := hC.c0
          have hc1 := hC.c1
          have hgk := hC.hi m (by omega) hm8
          have hgb := hT m hm8
          rw [← hgk] at hgb
          clear hgk
          go_wp2_with (first | (refine Calm.g_load (ty := 22) rfl ?_; refine Calm.wl_loadE (ty := 22) (b := bA) S rfl rfl rfl (by repeat (first | exact List.Mem.head _ | apply List.Mem.tail)) Hx.out one64 ?_) | (refine Calm.g_store (ty := 22) rfl ?_; refine Calm.wl_storeE (ty := 22) (b := bA) (cs := nuF (upd h m ((c + h m) % 4294967296))) S rfl rfl rfl rfl (nuF_set _ _ _) (by (repeat (first | exact Calm.foc_hd | apply Calm.foc_tl))) one64 (by rw [nuF_size]; omega) rfl ?_; clear S; intro W S))
          go_roundw
          case rel => exact ⟨m + 1, _, _, by omega, by go_num, rfl, hC.step hm8 (hT m hm8), S⟩
          case measure => simp [intOf]; omega
        · have hm' : m = 8 := by omega
          subst hm'
          have hlo := hC.lo
          have hbd := val_bd h 8 hlo
          have heq := hC.eq
          have hc0 := hC.c0
          rw [b8] at hbd heq
          have hcz : c = 0 := by omega
          subst hcz
          have hvh : val h 8 = val q 8 := by omega
          rw [← hvh] at hTl hTm
          clear hbd heq hc0 hC hvh
          go_wp2_with (first | (refine Calm.wl_box S rfl rfl rfl ?_; clear S; intro b W S) | (refine Calm.wl_new (ty := 24) S rfl rfl zeroFe ?_; clear S; intro b W S) | (refine Calm.g_load (ty := 24) rfl ?_; refine Calm.wl_load (ty := 24) S rfl rfl rfl (by (repeat (first | exact List.Mem.head _ | apply List.Mem.tail))) aggFe (by simp only [List.size_toArray, List.length_cons, List.length_nil, feC_size]) ?_) | (refine Calm.g_store (ty := 24) rfl ?_; refine Calm.wl_store (ty := 24) S rfl rfl rfl rfl (by (repeat (first | exact Calm.foc_hd | apply Calm.foc_tl))) aggFe rfl (by simp only [List.size_toArray, List.length_cons, List.length_nil, feC_size]) (w4_one _ _ _ _) ?_; clear S; intro W S) | (refine Calm.g_load (ty := 22) rfl ?_; refine Calm.wl_loadE (ty := 22) S rfl rfl rfl (by (repeat (first | exact List.Mem.head _ | apply List.Mem.tail))) (by rfl) one64 ?_) | (refine Calm.g_store (ty := 22) rfl ?_; refine Calm.wl_storeE (ty := 22) S rfl rfl rfl rfl (by rfl) (by (repeat (first | exact Calm.foc_hd | apply Calm.foc_tl))) one64 (by simp) rfl ?_; clear S; intro W S; simp only [Act.eval, Array.getD_eq_getD_getElem?, List.getElem?_toArray, List.getElem?_cons_zero, List.getElem?_cons_succ, Option.getD_some, List.setIfInBounds_toArray, List.set_cons_zero, List.set_cons_succ] at S) | (refine Calm.g_load (ty := 30) rfl ?_; refine Calm.wl_load (ty := 30) S rfl rfl rfl (by repeat (first | exact List.Mem.head _ | apply List.Mem.tail)) aggNu (by rw [nuF_size]) ?_))
          by_cases hlt : val h 8 < pr
          · refine (below_c h hlo _).mono ?_
            rintro e W1 ⟨he, hb⟩
            rw [decide_eq_true hlt] at he
            subst he
            have S := S.call hb
            clear hb
            have hfin : nuF h = nuC (val f 8 % pr) := by
              rw [nuC_of h hlo, ← hTm]
              congr 1
              have := val_bd h 8 hlo
              unfold pr at *
              omega
            have Hfin := hide hfin
            clear hfin
            go_wp2_with (first | (refine Calm.wl_box S rfl rfl rfl ?_; clear S; intro b W S) | (refine Calm.wl_new (ty := 24) S rfl rfl zeroFe ?_; clear S; intro b W S) | (refine Calm.g_load (ty := 24) rfl ?_; refine Calm.wl_load (ty := 24) S rfl rfl rfl (by (repeat (first | exact List.Mem.head _ | apply List.Mem.tail))) aggFe (by simp only [List.size_toArray, List.length_cons, List.length_nil, feC_size]) ?_) | (refine Calm.g_store (ty := 24) rfl ?_; refine Calm.wl_store (ty := 24) S rfl rfl rfl rfl (by (repeat (first | exact Calm.foc_hd | apply Calm.foc_tl))) aggFe rfl (by simp only [List.size_toArray, List.length_cons, List.length_nil, feC_size]) (w4_one _ _ _ _) ?_; clear S; intro W S) | (refine Calm.g_load (ty := 22) rfl ?_; refine Calm.wl_loadE (ty := 22) S rfl rfl rfl (by (repeat (first | exact List.Mem.head _ | apply List.Mem.tail))) (by rfl) one64 ?_) | (refine Calm.g_store (ty := 22) rfl ?_; refine Calm.wl_storeE (ty := 22) S rfl rfl rfl rfl (by rfl) (by (repeat (first | exact Calm.foc_hd | apply Calm.foc_tl))) one64 (by simp) rfl ?_; clear S; intro W S; simp only [Act.eval, Array.getD_eq_getD_getElem?, List.getElem?_toArray, List.getElem?_cons_zero, List.getElem?_cons_succ, Option.getD_some, List.setIfInBounds_toArray, List.set_cons_zero, List.set_cons_succ] at S) | (refine Calm.g_load (ty := 30) rfl ?_; refine Calm.wl_load (ty := 30) S rfl rfl rfl (by repeat (first | exact List.Mem.head _ | apply List.Mem.tail)) aggNu (by rw [nuF_size]) ?_) | (refine Calm.g_store (ty := 30) rfl ?_; refine Calm.wl_store (ty := 30) S rfl rfl rfl rfl (by (repeat (first | exact Calm.foc_hd | apply Calm.foc_tl))) aggNu (by rw [nuF_size]) (by rw [nuF_size]) (nuF_one _) ?_; clear S; intro W S))
            refine Calm.ret_cell S (by rfl) (by rfl) (by repeat (first | exact List.Mem.head _ | apply List.Mem.tail)) aggNu (by rw [nuF_size]) (by rfl) ?_
            exact ⟨by rw [Hfin.out], S.below⟩
          · refine (below_c h hlo _).mono ?_
            rintro e W1 ⟨he, hb⟩
            rw [decide_eq_false hlt] at he
            subst he
            have S := S.call hb
            clear hb
            go_wp2_with (first | (refine Calm.wl_box S rfl rfl rfl ?_; clear S; intro b W S) | (refine Calm.wl_new (ty := 24) S rfl rfl zeroFe ?_; clear S; intro b W S) | (refine Calm.g_load (ty := 24) rfl ?_; refine Calm.wl_load (ty := 24) S rfl rfl rfl (by (repeat (first | exact List.Mem.head _ | apply List.Mem.tail))) aggFe (by simp only [List.size_toArray, List.length_cons, List.length_nil, feC_size]) ?_) | (refine Calm.g_store (ty := 24) rfl ?_; refine Calm.wl_store (ty := 24) S rfl rfl rfl rfl (by (repeat (first | exact Calm.foc_hd | apply Calm.foc_tl))) aggFe rfl (by simp only [List.size_toArray, List.length_cons, List.length_nil, feC_size]) (w4_one _ _ _ _) ?_; clear S; intro W S) | (refine Calm.g_load (ty := 22) rfl ?_; refine Calm.wl_loadE (ty := 22) S rfl rfl rfl (by (repeat (first | exact List.Mem.head _ | apply List.Mem.tail))) (by rfl) one64 ?_) | (refine Calm.g_store (ty := 22) rfl ?_; refine Calm.wl_storeE (ty := 22) S rfl rfl rfl rfl (by rfl) (by (repeat (first | exact Calm.foc_hd | apply Calm.foc_tl))) one64 (by simp) rfl ?_; clear S; intro W S; simp only [Act.eval, Array.getD_eq_getD_getElem?, List.getElem?_toArray, List.getElem?_cons_zero, List.getElem?_cons_succ, Option.getD_some, List.setIfInBounds_toArray, List.set_cons_zero, List.set_cons_succ] at S))
            rename_i K3 hK3
            go_loopw [8, 9] (fun cc i Wr => ∃ (m : Nat) (g : Nat → Int) (c : Int), m ≤ 8 ∧ i = .int .i64 (m : Int) ∧ cc = .int .u64 c ∧ Bor pd h g c m ∧ Calm.St w Wr [⟨b, nuF (fun _ => 0), 30⟩, ⟨bA, nuF g, 30⟩]) (fun _ i _ => 8 - (intOf i).toNat)
            case atStart => exact ⟨0, h, 0, by omega, rfl, rfl, Bor.start pd h, S⟩
            case round =>
              clear S
              obtain ⟨m, g, c, hm, rfl, rfl, hC, S⟩ := hrel
              by_cases hm8 : m < 8
              · have hm8' : (m : Int) < 8 := by omega
                have Hx := hide (nuF_at g m hm8)
                have Hp := hide (fun w => prime_c m hm8 w)
                have hc0 := hC.c0
                have hc1 := hC.c1
                have hpd := pd_bd m
                have hgk := hC.hi m (by omega) hm8
                have hgb := hlo m hm8
                rw [← hgk] at hgb
                clear hgk
                go_wp2_with (first | (refine Calm.wl_box S rfl rfl rfl ?_; clear S; intro b W S) | (refine Calm.wl_new (ty := 24) S rfl rfl zeroFe ?_; clear S; intro b W S) | (refine Calm.g_load (ty := 24) rfl ?_; refine Calm.wl_load (ty := 24) S rfl rfl rfl (by (repeat (first | exact List.Mem.head _ | apply List.Mem.tail))) aggFe (by simp only [List.size_toArray, List.length_cons, List.length_nil, feC_size]) ?_) | (refine Calm.g_store (ty := 24) rfl ?_; refine Calm.wl_store (ty := 24) S rfl rfl rfl rfl (by (repeat (first | exact Calm.foc_hd | apply Calm.foc_tl))) aggFe rfl (by simp only [List.size_toArray, List.length_cons, List.length_nil, feC_size]) (w4_one _ _ _ _) ?_; clear S; intro W S) | (refine Calm.g_load (ty := 22) rfl ?_; refine Calm.wl_loadE (ty := 22) S rfl rfl rfl (by (repeat (first | exact List.Mem.head _ | apply List.Mem.tail))) (by rfl) one64 ?_) | (refine Calm.g_store (ty := 22) rfl ?_; refine Calm.wl_storeE (ty := 22) S rfl rfl rfl rfl (by rfl) (by (repeat (first | exact Calm.foc_hd | apply Calm.foc_tl))) one64 (by simp) rfl ?_; clear S; intro W S; simp only [Act.eval, Array.getD_eq_getD_getElem?, List.getElem?_toArray, List.getElem?_cons_zero, List.getElem?_cons_succ, Option.getD_some, List.setIfInBounds_toArray, List.set_cons_zero, List.set_cons_succ] at S))
                refine Calm.region0 S 9 (by kernel_rfl) (by kernel_rfl) (fun S => ?_)
                iterate 2 (first | (refine Calm.wn_skip rfl ?_) | (refine Calm.wn_move rfl (by rfl) (Or.inl rfl) ?_; simp only [Act.put, Act.eval, Array.getD_eq_getD_getElem?, List.getElem?_toArray, List.getElem?_cons_zero, List.getElem?_cons_succ, Option.getD_some, List.setIfInBounds_toArray, List.set_cons_zero, List.set_cons_succ]) | (refine Calm.wn_move rfl (by rfl) (Or.inr rfl) ?_; simp only [Act.put, Act.eval, Array.getD_eq_getD_getElem?, List.getElem?_toArray, List.getElem?_cons_zero, List.getElem?_cons_succ, Option.getD_some, List.setIfInBounds_toArray, List.set_cons_zero, List.set_cons_succ]) | (refine Calm.gn_load (ty := 24) rfl ?_; refine Calm.wn_load (ty := 24) S rfl (by rfl) rfl rfl (by (repeat (first | exact List.Mem.head _ | apply List.Mem.tail))) aggFe (by simp only [List.size_toArray, List.length_cons, List.length_nil, feC_size]) ?_; simp only [Act.put, Act.eval, Array.getD_eq_getD_getElem?, List.getElem?_toArray, List.getElem?_cons_zero, List.getElem?_cons_succ, Option.getD_some, List.setIfInBounds_toArray, List.set_cons_zero, List.set_cons_succ]) | (refine Calm.gn_load (ty := 22) rfl ?_; refine Calm.wn_loadE (ty := 22) S rfl (by rfl) rfl rfl (by (repeat (first | exact List.Mem.head _ | apply List.Mem.tail))) (by rfl) one64 ?_; simp only [Act.put, Act.eval, Array.getD_eq_getD_getElem?, List.getElem?_toArray, List.getElem?_cons_zero, List.getElem?_cons_succ, Option.getD_some, List.setIfInBounds_toArray, List.set_cons_zero, List.set_cons_succ]) | (apply Calm.wn_val rfl (by rfl); (intro w; go_simp; rfl); simp only [Act.put, Act.eval, Array.getD_eq_getD_getElem?, List.getElem?_toArray, List.getElem?_cons_zero, List.getElem?_cons_succ, Option.getD_some, List.setIfInBounds_toArray, List.set_cons_zero, List.set_cons_succ]))
                refine Calm.gn_load (ty := 22) rfl ?_
                refine Calm.wn_loadE (ty := 22) (b := bA) S rfl (by rfl) rfl rfl (by repeat (first | exact List.Mem.head _ | apply List.Mem.tail)) Hx.out one64 ?_
                simp only [Act.put, Act.eval, Array.getD_eq_getD_getElem?, List.getElem?_toArray, List.getElem?_cons_zero, List.getElem?_cons_succ, Option.getD_some, List.setIfInBounds_toArray, List.set_cons_zero, List.set_cons_succ]
                repeat (first | (refine Calm.wn_skip rfl ?_) | (refine Calm.wn_move rfl (by rfl) (Or.inl rfl) ?_; simp only [Act.put, Act.eval, Array.getD_eq_getD_getElem?, List.getElem?_toArray, List.getElem?_cons_zero, List.getElem?_cons_succ, Option.getD_some, List.setIfInBounds_toArray, List.set_cons_zero, List.set_cons_succ]) | (refine Calm.wn_move rfl (by rfl) (Or.inr rfl) ?_; simp only [Act.put, Act.eval, Array.getD_eq_getD_getElem?, List.getElem?_toArray, List.getElem?_cons_zero, List.getElem?_cons_succ, Option.getD_some, List.setIfInBounds_toArray, List.set_cons_zero, List.set_cons_succ]) | (refine Calm.gn_load (ty := 24) rfl ?_; refine Calm.wn_load (ty := 24) S rfl (by rfl) rfl rfl (by (repeat (first | exact List.Mem.head _ | apply List.Mem.tail))) aggFe (by simp only [List.size_toArray, List.length_cons, List.length_nil, feC_size]) ?_; simp only [Act.put, Act.eval, Array.getD_eq_getD_getElem?, List.getElem?_toArray, List.getElem?_cons_zero, List.getElem?_cons_succ, Option.getD_some, List.setIfInBounds_toArray, List.set_cons_zero, List.set_cons_succ]) | (refine Calm.gn_load (ty := 22) rfl ?_; refine Calm.wn_loadE (ty := 22) S rfl (by rfl) rfl rfl (by (repeat (first | exact List.Mem.head _ | apply List.Mem.tail))) (by rfl) one64 ?_; simp only [Act.put, Act.eval, Array.getD_eq_getD_getElem?, List.getElem?_toArray, List.getElem?_cons_zero, List.getElem?_cons_succ, Option.getD_some, List.setIfInBounds_toArray, List.set_cons_zero, List.set_cons_succ]) | (apply Calm.wn_call (f := 70) rfl (by rfl) rfl; (intro w; go_simp; rfl); (intro w; exact Hp.out w); simp only [Act.put, Act.eval, Array.getD_eq_getD_getElem?, List.getElem?_toArray, List.getElem?_cons_zero, List.getElem?_cons_succ, Option.getD_some, List.setIfInBounds_toArray, List.set_cons_zero, List.set_cons_succ]) | (apply Calm.wn_val rfl (by rfl); (intro w; go_simp; rfl); simp only [Act.put, Act.eval, Array.getD_eq_getD_getElem?, List.getElem?_toArray, List.getElem?_cons_zero, List.getElem?_cons_succ, Option.getD_some, List.setIfInBounds_toArray, List.set_cons_zero, List.set_cons_succ]))
                (refine Calm.wn_nil ?_; clear S; intro W S; simp only [Act.put, List.setIfInBounds_toArray, List.set_cons_zero, List.set_cons_succ, List.drop_succ_cons, List.drop_zero, List.drop_nil])
                go_wp2_with (first | (refine Calm.g_store (ty := 22) rfl ?_; refine Calm.wl_storeE (ty := 22) (b := bA) (cs := nuF (upd g m ((4294967296 + g m - pd m - c) % 4294967296))) S rfl rfl rfl rfl (nuF_set _ _ _) (by (repeat (first | exact Calm.foc_hd | apply Calm.foc_tl))) one64 (by rw [nuF_size]; omega) rfl ?_; clear S; intro W S))
                go_roundw
                case rel => exact ⟨m + 1, _, _, by omega, by go_num, rfl, hC.step hm8 (hlo m hm8) hpd, S⟩
                case measure => simp [intOf]; omega
              · have hm' : m = 8 := by omega
                subst hm'
                have hfin : nuF g = nuC (val f 8 % pr) := by
                  have h1 := val_bd g 8 hC.lo
                  have h2 := hC.eq
                  have h3 := hC.c0
                  have h4 := hC.c1
                  rw [val_pd] at h2
                  rw [b8] at h1 h2
                  rw [nuC_of g hC.lo, ← hTm]
                  congr 1
                  unfold pr at *
                  omega
                have Hfin := hide hfin
                clear hfin
                go_wp2_with (first | (refine Calm.wl_box S rfl rfl rfl ?_; clear S; intro b W S) | (refine Calm.wl_new (ty := 24) S rfl rfl zeroFe ?_; clear S; intro b W S) | (refine Calm.g_load (ty := 24) rfl ?_; refine Calm.wl_load (ty := 24) S rfl rfl rfl (by (repeat (first | exact List.Mem.head _ | apply List.Mem.tail))) aggFe (by simp only [List.size_toArray, List.length_cons, List.length_nil, feC_size]) ?_) | (refine Calm.g_store (ty := 24) rfl ?_; refine Calm.wl_store (ty := 24) S rfl rfl rfl rfl (by (repeat (first | exact Calm.foc_hd | apply Calm.foc_tl))) aggFe rfl (by simp only [List.size_toArray, List.length_cons, List.length_nil, feC_size]) (w4_one _ _ _ _) ?_; clear S; intro W S) | (refine Calm.g_load (ty := 22) rfl ?_; refine Calm.wl_loadE (ty := 22) S rfl rfl rfl (by (repeat (first | exact List.Mem.head _ | apply List.Mem.tail))) (by rfl) one64 ?_) | (refine Calm.g_store (ty := 22) rfl ?_; refine Calm.wl_storeE (ty := 22) S rfl rfl rfl rfl (by rfl) (by (repeat (first | exact Calm.foc_hd | apply Calm.foc_tl))) one64 (by simp) rfl ?_; clear S; intro W S; simp only [Act.eval, Array.getD_eq_getD_getElem?, List.getElem?_toArray, List.getElem?_cons_zero, List.getElem?_cons_succ, Option.getD_some, List.setIfInBounds_toArray, List.set_cons_zero, List.set_cons_succ] at S) | (refine Calm.g_load (ty := 30) rfl ?_; refine Calm.wl_load (ty := 30) S rfl rfl rfl (by repeat (first | exact List.Mem.head _ | apply List.Mem.tail)) aggNu (by rw [nuF_size]) ?_) | (refine Calm.g_store (ty := 30) rfl ?_; refine Calm.wl_store (ty := 30) S rfl rfl rfl rfl (by (repeat (first | exact Calm.foc_hd | apply Calm.foc_tl))) aggNu (by rw [nuF_size]) (by rw [nuF_size]) (nuF_one _) ?_; clear S; intro W S))
                refine Calm.ret_cell S (by rfl) (by rfl) (by repeat (first | exact List.Mem.head _ | apply List.Mem.tail)) aggNu (by rw [nuF_size]) (by rfl) ?_
                exact ⟨by rw [Hfin.out], S.below⟩
end Go.Proofs.Ytpmplilhifkeaaa
