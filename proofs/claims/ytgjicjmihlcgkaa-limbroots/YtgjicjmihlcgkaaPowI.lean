import Derived.Test.YtgjicjmihlcgkaaOnes
import Derived.Test.YtgjicjmihlcgkaaRMath
set_option linter.unusedSimpArgs false
namespace Go.Proofs.Ytgjicjmihlcgkaa
open Go.RowKit
/-- What Power asks of a slice. -/
theorem own_read {w : World} {base : Nat} {e : TypeId} {v : Value} {n : Nat} {xs : List Nat} (h : w.ownsRow base e 1 v n (xs.map fun x : Nat => Value.int .i64 (x : Int))) (hn : 0 < n) : ∃ g cap cur, v = .slice (some ⟨g, 0, none⟩) n cap ∧ w.heap[g]? = some (.cells cur e (0, 0)) ∧ ∀ j, j < n → cur[j]? = some (.int .i64 ((xs.getD j 0 : Nat) : Int)) := by
  have hl : xs.length = n := by have := h.1; simpa using this
  rcases h.2 with ⟨_, h0⟩ | ⟨g, cap, cur, h1, _, h3, _, _, _, h4⟩
  · omega
  · refine ⟨g, cap, cur, h1, h3, fun j hj => ?_⟩
    have h5 := congrArg (fun l : List Value => l[j]?) h4
    simp only [Nat.mul_one, List.getElem?_take, hj, if_true, List.getElem?_map] at h5
    rw [← Array.getElem?_toList, h5]
    simp [List.getD, hl, hj]
theorem bits_num (E : Int) (hE : Ok E) : (bitL E 256).map (Value.int .i64) = ((List.range 256).map fun j => E.toNat / 2 ^ j % 2).map (fun x : Nat => Value.int .i64 (x : Int)) := by
  unfold bitL
  rw [List.map_map, List.map_map]
  apply List.map_congr_left
  intro j _
  simp only [Function.comp]
  unfold bit
  obtain ⟨Y, rfl⟩ := Int.eq_ofNat_of_zero_le hE.1
  simp
theorem hvd_bits (X : Nat) : ∀ d, d ≤ 256 → X < 2 ^ 256 → hvd (fun j => ((List.range 256).map fun j => X / 2 ^ j % 2).getD j 0) 256 d = X / 2 ^ (256 - d)
  | 0, _, hX => by simp only [hvd, Nat.sub_zero]; exact (Nat.div_eq_of_lt hX).symm
  | d + 1, hd, hX => by
    simp only [hvd]
    rw [hvd_bits X d (by omega) hX]
    have e : (List.map (fun j => X / 2 ^ j % 2) (List.range 256)).getD (256 - 1 - d) 0 = X / 2 ^ (256 - 1 - d) % 2 := by
      rw [List.getD_eq_getElem?_getD, List.getElem?_map, List.getElem?_range (by omega)]
      rfl
    rw [e, show 256 - d = (256 - 1 - d) + 1 by omega, show 256 - (d + 1) = 256 - 1 - d by omega, Nat.pow_succ, ← Nat.div_div_eq_div_mul]
    omega
def lInv : List Nat := [1, 1, 0, 1, 0] ++ List.replicate 250 1
def lI : List Nat := [1, 1, 0, 1] ++ List.replicate 249 1
def lRoot : List Nat := [0] ++ List.replicate 251 1
theorem h_inv : hvd (fun j => lInv.getD j 0) 255 255 = eInv.toNat := by kernel_rfl
theorem h_i : hvd (fun j => lI.getD j 0) 253 253 = qN := by kernel_rfl
theorem two_q : pm 2 qN = iNum := by
  have h := pm_nat 2 qN
  rw [← fpw_eq 2 prN 256 qN (of_decide_eq_true (by kernel_rfl))] at h
  exact h.trans (by kernel_rfl)
set_option maxHeartbeats 1000000 in
theorem RI_c (w : World) : Calls Try.prog 39 #[] w fun e w' => e = .returned (.agg (nuC iNum)) ∧ Below w.heap.size w w' := by
  have S := Calm.St.start w
  go_enter Try.func39, Try.ntmps39
  go_wp2_with (first | (refine Calm.wl_new (ty := 28) S rfl rfl zeroNu ?_; clear S; intro b W S))
  refine (ROf_c 2 (by omega) (by omega) _).mono ?_
  rintro e W1 ⟨rfl, hb⟩
  have S := S.call hb
  clear hb
  go_wp2_with (first | (refine Calm.wl_new (ty := 28) S rfl rfl zeroNu ?_; clear S; intro b W S))
  refine (ones_c 253 (by omega) [1, 1, 0, 1] (by decide) (by decide) W1.heap.size 4 _ ?_).mono ?_
  · intro j u hj
    rcases j with _ | _ | _ | _ | j <;> simp at hj <;> (try subst hj) <;> simp [Addr.add]
  rintro e W2 ⟨v, rfl, hown, hb⟩
  have S := (S.new #[.int .i64 1, .int .i64 1, .int .i64 0, .int .i64 1] 3).call hb
  have el : (([1, 1, 0, 1] ++ List.replicate (253 - ([1, 1, 0, 1] : List Int).length) 1 : List Int)).map (Value.int .i64) = lI.map (fun x : Nat => Value.int .i64 (x : Int)) := by kernel_rfl
  rw [el] at hown
  obtain ⟨g, cap, cur, rfl, hg, hc⟩ := own_read hown (by omega)
  clear hown hb el
  have hp := Power_c 2 (by unfold Ok; omega) (fun j => lI.getD j 0) 253 (by omega) (fun j hj => of_decide_eq_true (p := ∀ j, j < 253 → lI.getD j 0 < 2) (by kernel_rfl) j hj) g cap cur _ W2 hg hc
  rw [h_i, two_q] at hp
  have HP := hide hp
  clear hp hg hc
  go_wp2_with (first | (refine Calm.wl_box S rfl rfl rfl ?_; clear S; intro b W S) | (refine Calm.wl_new (ty := 24) S rfl rfl zeroFe ?_; clear S; intro b W S) | (refine Calm.g_load (ty := 24) rfl ?_; refine Calm.wl_load (ty := 24) S rfl rfl rfl (by (repeat (first | exact List.Mem.head _ | apply List.Mem.tail))) aggFe (by simp only [List.size_toArray, List.length_cons, List.length_nil, feC_size]) ?_) | (refine Calm.g_store (ty := 24) rfl ?_; refine Calm.wl_store (ty := 24) S rfl rfl rfl rfl (by (repeat (first | exact Calm.foc_hd | apply Calm.foc_tl))) aggFe rfl (by simp only [List.size_toArray, List.length_cons, List.length_nil, feC_size]) (w4_one _ _ _ _) ?_; clear S; intro W S) | (refine Calm.g_load (ty := 22) rfl ?_; refine Calm.wl_loadE (ty := 22) S rfl rfl rfl (by (repeat (first | exact List.Mem.head _ | apply List.Mem.tail))) (by rfl) one64 ?_) | (refine Calm.g_store (ty := 22) rfl ?_; refine Calm.wl_storeE (ty := 22) S rfl rfl rfl rfl (by rfl) (by (repeat (first | exact Calm.foc_hd | apply Calm.foc_tl))) one64 (by simp) rfl ?_; clear S; intro W S; simp only [Act.eval, Array.getD_eq_getD_getElem?, List.getElem?_toArray, List.getElem?_cons_zero, List.getElem?_cons_succ, Option.getD_some, List.setIfInBounds_toArray, List.set_cons_zero, List.set_cons_succ] at S))
  refine HP.out.mono ?_
  rintro e W3 ⟨rfl, hb⟩
  have S := S.call hb
  clear hb
  go_wp2_with (first | (refine Calm.g_store (ty := 28) rfl ?_; refine Calm.wl_store (ty := 28) S rfl rfl rfl rfl (by (repeat (first | exact Calm.foc_hd | apply Calm.foc_tl))) aggNu (by rw [nuC_size]) (by rw [nuF_size]) (nuF_one _) ?_; clear S; intro W S))
  refine Calm.ret_cell S (by rfl) (by rfl) (by repeat (first | exact List.Mem.head _ | apply List.Mem.tail)) aggNu (by rw [nuC_size]) (by rfl) ?_
  exact ⟨rfl, S.below⟩
end Go.Proofs.Ytgjicjmihlcgkaa
