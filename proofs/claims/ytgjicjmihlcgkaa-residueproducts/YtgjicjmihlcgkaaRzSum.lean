import Derived.Test.YtgjicjmihlcgkaaRzTy
import Derived.Test.YtgjicjmihlcgkaaSchedE
set_option linter.unusedSimpArgs false
namespace Go.Proofs.Ytgjicjmihlcgkaa
open Go.RowKit Go.Arr
/-- A sum of two words and a carry, under new names. -/
theorem sumE (x y c : Int) (hx : 0 ≤ x) (hx' : x < 18446744073709551616) (hy : 0 ≤ y) (hy' : y < 18446744073709551616) (hc0 : 0 ≤ c) (hc : c ≤ 1) : ∃ s o : Int, (∀ w, (callFunc 65 #[.int .u64 x, .int .u64 y, .int .u64 c]).run Try.prog w = .ok (.value (.tuple #[.int .u64 s, .int .u64 o])) w) ∧ 0 ≤ s ∧ s < 18446744073709551616 ∧ 0 ≤ o ∧ o ≤ 1 ∧ Hid (s + 18446744073709551616 * o = x + y + c) :=
  ⟨_, _, add64 x y c hx hy hc0 hc, by omega, by omega, by omega, by omega, by unfold Hid; omega⟩
theorem difE (x y b : Int) (hx : 0 ≤ x) (hx' : x < 18446744073709551616) (hy : 0 ≤ y) (hy' : y < 18446744073709551616) (hb0 : 0 ≤ b) (hb : b ≤ 1) : ∃ s o : Int, (∀ w, (callFunc 66 #[.int .u64 x, .int .u64 y, .int .u64 b]).run Try.prog w = .ok (.value (.tuple #[.int .u64 s, .int .u64 o])) w) ∧ 0 ≤ s ∧ s < 18446744073709551616 ∧ 0 ≤ o ∧ o ≤ 1 ∧ Hid (s - 18446744073709551616 * o = x - y - b) :=
  ⟨_, _, sub64 x y b hx hy hy' hb0 hb, by omega, by omega, (bor_bd _ _).1, (bor_bd _ _).2, by unfold Hid bor; split <;> omega⟩
/-- The digits while a sum is made: k digits, the carry in the fifth. -/
def sumG (g : Nat → Int) (c : Int) (k : Nat) (j : Nat) : Int := if j < k then g j else if j = 4 then c else 0
theorem sumG_4 (g : Nat → Int) (c : Int) (k : Nat) (hk : k < 4) : (arr .u64 8 (sumG g c k))[4]? = some (.int .u64 c) := by
  rw [arr_at _ _ _ 4 (by omega)]; simp [sumG]; omega
theorem sumG_set (g : Nat → Int) (c s o : Int) (k : Nat) (hk : k < 4) : arr .u64 8 (sumG (gset g k s) o (k + 1)) = ((arr .u64 8 (sumG g c k)).setIfInBounds k (.int .u64 s)).setIfInBounds 4 (.int .u64 o) := by
  rw [← arr_set, ← arr_set]
  refine arr_ext fun j _ => ?_
  by_cases e4 : j = 4
  · subst e4; rw [gset_eq]; unfold sumG; rw [if_neg (by omega), if_pos rfl]
  · rw [gset_ne _ _ _ e4]
    by_cases e : j = k
    · subst e; rw [gset_eq]; unfold sumG; rw [if_pos (by omega), gset_eq]
    · rw [gset_ne _ _ _ e]
      unfold sumG
      rw [if_neg e4, if_neg e4]
      by_cases h : j < k
      · rw [if_pos h, if_pos (by omega), gset_ne _ _ _ e]
      · rw [if_neg h, if_neg (by omega)]
theorem sumG_end (A B : Int) (g : Nat → Int) (c : Int) (hA : Ok8 A) (hB : Ok8 B) (H : Cy 18446744073709551616 (dig 18446744073709551616 A) (dig 18446744073709551616 B) g c 4) : arr .u64 8 (sumG g c 4) = arr .u64 8 (dig 18446744073709551616 (A + B)) := by
  have h0 := H.c0
  have h1 := H.c1
  have hb : ∀ j, j < 8 → 0 ≤ sumG g c 4 j ∧ sumG g c 4 j < 18446744073709551616 := by
    intro j _
    unfold sumG
    split
    · exact H.lo j (by omega)
    · split <;> omega
  rw [arr_num M_pos .u64 8 _ hb]
  have he := H.eq
  rw [dig_v M_pos A 4 hA.1 (by rw [m_4]; exact hA.2), dig_v M_pos B 4 hB.1 (by rw [m_4]; exact hB.2)] at he
  have e2 : vB 18446744073709551616 (sumG g c 4) 8 = vB 18446744073709551616 g 4 + c * 18446744073709551616 ^ 4 := by
    rw [show (8 : Nat) = 4 + 4 from rfl, vB_split]
    rw [vB_ext (h := g) 4 (fun j hj => by unfold sumG; rw [if_pos hj])]
    rw [show vB 18446744073709551616 (fun j => sumG g c 4 (j + 4)) 4 = c by simp [vB, sumG]]
    omega
  rw [e2, he]
set_option maxHeartbeats 1000000 in
theorem sum_c (A B : Int) (hA : Ok8 A) (hB : Ok8 B) (w : World) : Calls Try.prog 48 #[.agg (arr .u64 4 (dig 18446744073709551616 A)), .agg (arr .u64 4 (dig 18446744073709551616 B))] w fun e w' => e = .returned (.agg (arr .u64 8 (dig 18446744073709551616 (A + B)))) ∧ Below w.heap.size w w' := by
  have S := Calm.St.start w
  go_enter Try.func48, Try.ntmps48
  go_wp2_with (first | (refine Calm.wl_box S rfl rfl rfl ?_; clear S; intro b W S) | (refine Calm.wl_new (ty := 60) S rfl rfl zeroWi ?_; clear S; intro b W S) | (refine Calm.g_load (ty := 60) rfl ?_; refine Calm.wl_load (ty := 60) S rfl rfl rfl (by (repeat (first | exact List.Mem.head _ | apply List.Mem.tail))) aggWi (by first | exact (Go.Arr.arr_size _ _ _).symm | rfl) ?_) | (refine Calm.g_store (ty := 60) rfl ?_; refine Calm.wl_store (ty := 60) S rfl rfl rfl rfl (by (repeat (first | exact Calm.foc_hd | apply Calm.foc_tl))) aggWi (by first | exact (Go.Arr.arr_size _ _ _).symm | rfl) (by first | exact (Go.Arr.arr_size _ _ _).symm | rfl) (by first | exact Go.Arr.arr_one _ _ _ | rfl | simp [Value.oneCell']) ?_; clear S; intro W S))
  rename_i bA _ bB _ bR _ K hK
  go_loopw [7] (fun i Wr => ∃ (k : Nat) (g : Nat → Int) (c : Int), k ≤ 4 ∧ i = .int .i64 k ∧ Cy 18446744073709551616 (dig 18446744073709551616 A) (dig 18446744073709551616 B) g c k ∧ Calm.St w Wr [⟨b, arr .u64 8 (sumG g c k), 60⟩, ⟨bR, arr .u64 8 (fun _ => 0), 60⟩, ⟨bB, arr .u64 4 (dig 18446744073709551616 B), 59⟩, ⟨bA, arr .u64 4 (dig 18446744073709551616 A), 59⟩]) (fun i _ => 4 - (intOf i).toNat)
  case atStart => exact ⟨0, fun _ => 0, 0, by omega, rfl, ⟨fun j h => by omega, by omega, by omega, by simp [vB]⟩, by rw [show arr .u64 8 (sumG (fun _ => 0) 0 0) = arr .u64 8 (fun _ => 0) from arr_ext fun j _ => by simp [sumG]]; exact S⟩
  case round =>
    clear S
    obtain ⟨k, g, c, hk, rfl, hC, S⟩ := hrel
    by_cases hlt : k < 4
    · have g5 : (k : Int) < 4 := by omega
      have g6 : (k : Int) < 8 := by omega
      have ba := dig_bd M_pos A k
      have bb := dig_bd M_pos B k
      obtain ⟨s, o, hs, s0, s1, o0, o1, HS⟩ := sumE (dig 18446744073709551616 A k) (dig 18446744073709551616 B k) c ba.1 ba.2 bb.1 bb.2 hC.c0 hC.c1
      have Hs := hide hs
      have Ha := hide (arr_at .u64 4 (dig 18446744073709551616 A) k hlt)
      have Hb := hide (arr_at .u64 4 (dig 18446744073709551616 B) k hlt)
      have H4 := hide (sumG_4 g c k hlt)
      have Hst := hide (sumG_set g c s o k hlt)
      clear hs
      go_wp2_with fail
      refine Calm.region_sched S [(0, true), (1, true), (2, true), (3, true), (4, true), (5, true), (6, true), (7, true), (8, false), (9, true), (10, true), (11, true), (12, true), (13, true), (14, false), (15, true), (16, false)] [⟨bB, arr .u64 4 (dig 18446744073709551616 B), 59⟩, ⟨bA, arr .u64 4 (dig 18446744073709551616 A), 59⟩] (by kernel_rfl) (by kernel_rfl) (by simp) (by intro c a d v w h; cases d <;> exact h) (fun S => ?_)
      iterate 3 (apply Calm.wh_val rfl (by rfl); (intro w; go_simp; rfl); simp only [List.getElem_toArray, List.getElem_cons_succ, List.getElem_cons_zero, Act.put, Act.eval, Array.getD_eq_getD_getElem?, List.getElem?_toArray, List.getElem?_cons_zero, List.getElem?_cons_succ, Option.getD_some, List.setIfInBounds_toArray, List.set_cons_zero, List.set_cons_succ])
      (refine Calm.wh_loadE (ty := 22) (b := bA) (v := .int .u64 (dig 18446744073709551616 A k)) rfl (by rfl) rfl rfl (by (repeat (first | exact List.Mem.head _ | apply List.Mem.tail))) Ha.out o64 ?_; simp only [List.getElem_toArray, List.getElem_cons_succ, List.getElem_cons_zero, Act.put, Act.eval, Array.getD_eq_getD_getElem?, List.getElem?_toArray, List.getElem?_cons_zero, List.getElem?_cons_succ, Option.getD_some, List.setIfInBounds_toArray, List.set_cons_zero, List.set_cons_succ])
      iterate 2 (apply Calm.wh_val rfl (by rfl); (intro w; go_simp; rfl); simp only [List.getElem_toArray, List.getElem_cons_succ, List.getElem_cons_zero, Act.put, Act.eval, Array.getD_eq_getD_getElem?, List.getElem?_toArray, List.getElem?_cons_zero, List.getElem?_cons_succ, Option.getD_some, List.setIfInBounds_toArray, List.set_cons_zero, List.set_cons_succ])
      (refine Calm.wh_loadE (ty := 22) (b := bB) (v := .int .u64 (dig 18446744073709551616 B k)) rfl (by rfl) rfl rfl (by (repeat (first | exact List.Mem.head _ | apply List.Mem.tail))) Hb.out o64 ?_; simp only [List.getElem_toArray, List.getElem_cons_succ, List.getElem_cons_zero, Act.put, Act.eval, Array.getD_eq_getD_getElem?, List.getElem?_toArray, List.getElem?_cons_zero, List.getElem?_cons_succ, Option.getD_some, List.setIfInBounds_toArray, List.set_cons_zero, List.set_cons_succ])
      (apply Calm.wh_val rfl (by rfl); (intro w; go_simp; rfl); simp only [List.getElem_toArray, List.getElem_cons_succ, List.getElem_cons_zero, Act.put, Act.eval, Array.getD_eq_getD_getElem?, List.getElem?_toArray, List.getElem?_cons_zero, List.getElem?_cons_succ, Option.getD_some, List.setIfInBounds_toArray, List.set_cons_zero, List.set_cons_succ])
      (refine Calm.whB_loadE (ty := 22) (b := b) (v := .int .u64 c) S (by simp) rfl (by rfl) rfl rfl (by (repeat (first | exact List.Mem.head _ | apply List.Mem.tail))) H4.out o64 ?_; simp only [List.getElem_toArray, List.getElem_cons_succ, List.getElem_cons_zero, Act.put, Act.eval, Array.getD_eq_getD_getElem?, List.getElem?_toArray, List.getElem?_cons_zero, List.getElem?_cons_succ, Option.getD_some, List.setIfInBounds_toArray, List.set_cons_zero, List.set_cons_succ])
      (apply Calm.wh_val rfl (by rfl); (intro w; go_simp; exact Hs.out w); simp only [List.getElem_toArray, List.getElem_cons_succ, List.getElem_cons_zero, Act.put, Act.eval, Array.getD_eq_getD_getElem?, List.getElem?_toArray, List.getElem?_cons_zero, List.getElem?_cons_succ, Option.getD_some, List.setIfInBounds_toArray, List.set_cons_zero, List.set_cons_succ])
      iterate 4 (apply Calm.wh_val rfl (by rfl); (intro w; go_simp; rfl); simp only [List.getElem_toArray, List.getElem_cons_succ, List.getElem_cons_zero, Act.put, Act.eval, Array.getD_eq_getD_getElem?, List.getElem?_toArray, List.getElem?_cons_zero, List.getElem?_cons_succ, Option.getD_some, List.setIfInBounds_toArray, List.set_cons_zero, List.set_cons_succ])
      (refine Calm.whB_storeE (ty := 22) (b := b) (cs := (arr .u64 8 (sumG g c k)).setIfInBounds k (.int .u64 s)) S rfl (by rfl) rfl rfl rfl (rfl) (by (repeat (first | exact Calm.foc_hd | apply Calm.foc_tl))) o64 (by first | (rw [Go.Arr.arr_size]; omega) | (simp only [Array.size_setIfInBounds, Go.Arr.arr_size]; omega) | (simp only [Array.size_setIfInBounds, Go.Arr.arr_size]; decide)) rfl (by simp) ?_; clear S; intro W S; simp only [List.getElem_toArray, List.getElem_cons_succ, List.getElem_cons_zero, Act.put, Act.eval, Array.getD_eq_getD_getElem?, List.getElem?_toArray, List.getElem?_cons_zero, List.getElem?_cons_succ, Option.getD_some, List.setIfInBounds_toArray, List.set_cons_zero, List.set_cons_succ])
      (apply Calm.wh_val rfl (by rfl); (intro w; go_simp; rfl); simp only [List.getElem_toArray, List.getElem_cons_succ, List.getElem_cons_zero, Act.put, Act.eval, Array.getD_eq_getD_getElem?, List.getElem?_toArray, List.getElem?_cons_zero, List.getElem?_cons_succ, Option.getD_some, List.setIfInBounds_toArray, List.set_cons_zero, List.set_cons_succ])
      (refine Calm.whB_storeE (ty := 22) (b := b) (cs := arr .u64 8 (sumG (gset g k s) o (k + 1))) S rfl (by rfl) rfl rfl rfl (Hst.out) (by (repeat (first | exact Calm.foc_hd | apply Calm.foc_tl))) o64 (by first | (rw [Go.Arr.arr_size]; omega) | (simp only [Array.size_setIfInBounds, Go.Arr.arr_size]; omega) | (simp only [Array.size_setIfInBounds, Go.Arr.arr_size]; decide)) rfl (by simp) ?_; clear S; intro W S; simp only [List.getElem_toArray, List.getElem_cons_succ, List.getElem_cons_zero, Act.put, Act.eval, Array.getD_eq_getD_getElem?, List.getElem?_toArray, List.getElem?_cons_zero, List.getElem?_cons_succ, Option.getD_some, List.setIfInBounds_toArray, List.set_cons_zero, List.set_cons_succ])
      refine Calm.wh_nil ?_
      go_wp2_with fail
      go_roundw
      case rel => exact ⟨k + 1, _, _, by omega, by go_num, hC.step s0 s1 o0 o1 HS.out, S⟩
      case measure => simp [intOf]; omega
    · have hk' : k = 4 := by omega
      subst hk'
      rw [sumG_end A B g c hA hB hC] at S
      go_wp2_with (first | (refine Calm.wl_box S rfl rfl rfl ?_; clear S; intro b W S) | (refine Calm.wl_new (ty := 60) S rfl rfl zeroWi ?_; clear S; intro b W S) | (refine Calm.g_load (ty := 60) rfl ?_; refine Calm.wl_load (ty := 60) S rfl rfl rfl (by (repeat (first | exact List.Mem.head _ | apply List.Mem.tail))) aggWi (by first | exact (Go.Arr.arr_size _ _ _).symm | rfl) ?_) | (refine Calm.g_store (ty := 60) rfl ?_; refine Calm.wl_store (ty := 60) S rfl rfl rfl rfl (by (repeat (first | exact Calm.foc_hd | apply Calm.foc_tl))) aggWi (by first | exact (Go.Arr.arr_size _ _ _).symm | rfl) (by first | exact (Go.Arr.arr_size _ _ _).symm | rfl) (by first | exact Go.Arr.arr_one _ _ _ | rfl | simp [Value.oneCell']) ?_; clear S; intro W S))
      refine Calm.ret_cell S (by rfl) (by rfl) (by repeat (first | exact List.Mem.head _ | apply List.Mem.tail)) aggWi (arr_size _ _ _).symm (by rfl) ?_
      exact ⟨rfl, S.below⟩
end Go.Proofs.Ytgjicjmihlcgkaa
