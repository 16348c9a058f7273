import Derived.Test.YtlbofcgjdbfenabNeg
import Derived.Test.YtlbofcgjdbfenabMidArr
import Derived.LoopTactic
set_option linter.unusedSimpArgs false
namespace Go.Proofs.Ytlbofcgjdbfenab
open Go.RowKit

/-- The table of powers, filled up to the k-th. -/
def pwG (A : Int) (k : Nat) : Nat → List Value := fun j => (feC (if j ≤ k then A ^ j % pr else 0)).toList
def zG : Nat → List Value := fun _ => (feC 0).toList
theorem feL_len (n : Int) : (feC n).toList.length = 4 := rfl
theorem pwG_len (A : Int) (k j : Nat) : (pwG A k j).length = 4 := rfl
theorem aggTab : Calm.AggT Try.prog 69 64 := ⟨⟨_, Try.underlying69, rfl⟩, by kernel_rfl⟩
theorem zeroTab : (Try.prog.info? 69).bind (·.zero) = some (.agg (Calm.flat zG 16).toArray) := by kernel_rfl
theorem tab_size (g : Nat → List Value) (h : ∀ j, (g j).length = 4) : (Calm.flat g 16).toArray.size = 64 := by
  have := Calm.flat_length h 16
  simpa using this
theorem tab_one (g : Nat → Int) : ((Calm.flat (fun j => (feC (g j)).toList) 16).toArray).all (·.oneCell') = true := by
  simp [Calm.flat, feC, Value.oneCell']
theorem wrap_small (n : Int) (h0 : 0 ≤ n) (h1 : n < 9223372036854775808) : IntKind.i64.wrap n = n := by
  simp only [IntKind.wrap, IntKind.signed, IntKind.bits]
  simp
  omega
theorem tab_first (A : Int) : Calm.updL zG 0 (feC 1).toList = pwG A 0 := by
  funext j
  unfold Calm.updL pwG zG
  by_cases h : j = 0
  · subst h; simp [pr]
  · rw [if_neg h, if_neg (by omega)]
theorem tab_next (A : Int) (k : Nat) (X : Int) (hX : X = A ^ (k + 1) % pr) : Calm.updL (pwG A k) (k + 1) (feC X).toList = pwG A (k + 1) := by
  funext j
  unfold Calm.updL pwG
  by_cases h : j = k + 1
  · subst h; simp [hX]
  · rw [if_neg h]
    by_cases h2 : j ≤ k
    · rw [if_pos h2, if_pos (by omega)]
    · rw [if_neg h2, if_neg (by omega)]
theorem pow_next (A : Int) (k : Nat) : A ^ k % pr * A % pr = A ^ (k + 1) % pr := by
  rw [Int.pow_succ, Int.mul_emod, Int.emod_emod_of_dvd _ (Int.dvd_refl _), ← Int.mul_emod]

set_option maxHeartbeats 1000000 in
theorem firstPowers_c (A : Int) (hA : Ok A) (w : World) : Calls Try.prog 48 #[.agg (feC A)] w fun e w' => e = .returned (.agg (Calm.flat (pwG A 15) 16).toArray) ∧ Below w.heap.size w w' := by
  have S := Calm.St.start w
  go_enter Try.func48, Try.ntmps48
  go_wp2_with (first | (refine Calm.wl_box S rfl rfl rfl ?_; clear S; intro b W S) | (refine Calm.wl_new (ty := 24) S rfl rfl zeroFe ?_; clear S; intro b W S) | (refine Calm.g_load (ty := 24) rfl ?_; refine Calm.wl_load (ty := 24) S rfl rfl rfl (by (repeat (first | exact List.Mem.head _ | apply List.Mem.tail))) aggFe (by simp only [List.size_toArray, List.length_cons, List.length_nil, feC_size]) ?_) | (refine Calm.g_store (ty := 24) rfl ?_; refine Calm.wl_store (ty := 24) S rfl rfl rfl rfl (by (repeat (first | exact Calm.foc_hd | apply Calm.foc_tl))) aggFe rfl (by simp only [List.size_toArray, List.length_cons, List.length_nil, feC_size]) (w4_one _ _ _ _) ?_; clear S; intro W S) | (refine Calm.g_load (ty := 22) rfl ?_; refine Calm.wl_loadE (ty := 22) S rfl rfl rfl (by (repeat (first | exact List.Mem.head _ | apply List.Mem.tail))) (by rfl) one64 ?_) | (refine Calm.g_store (ty := 22) rfl ?_; refine Calm.wl_storeE (ty := 22) S rfl rfl rfl rfl (by rfl) (by (repeat (first | exact Calm.foc_hd | apply Calm.foc_tl))) one64 (by simp) rfl ?_; clear S; intro W S; simp only [Act.eval, Array.getD_eq_getD_getElem?, List.getElem?_toArray, List.getElem?_cons_zero, List.getElem?_cons_succ, Option.getD_some, List.setIfInBounds_toArray, List.set_cons_zero, List.set_cons_succ] at S) | (refine Calm.wl_new (ty := 69) S rfl rfl zeroTab ?_; clear S; intro b W S))
  refine (Of_c 1 (by omega) (by omega) _).mono ?_
  rintro e W1 ⟨rfl, hb⟩
  have S := S.call hb
  clear hb
  have hs := Calm.flat_splice (g := zG) (m := 4) (i := 0) (n := 16) (fun j => rfl) (by omega) (feC 1).toList rfl
  rw [tab_first A] at hs
  have Hs := hide hs
  clear hs
  go_wp2_with (first | (refine Calm.wl_storeM (ty := 24) (b := b) (new := (Calm.flat (pwG A 0) 16).toArray) S rfl rfl rfl rfl (by (repeat (first | exact Calm.foc_hd | apply Calm.foc_tl))) aggFe rfl (by rw [tab_size _ (fun _ => rfl)]; exact (by decide : 0 + 4 ≤ 64)) (w4_one _ _ _ _) Hs.out ?_; clear S; intro W S))
  rename_i bA WA bR WR WL W2 K hK
  go_loopw [7] (fun i Wr => ∃ k : Nat, k ≤ 15 ∧ i = .int .i64 k ∧ Calm.St w Wr [⟨b, (Calm.flat (pwG A k) 16).toArray, 69⟩, ⟨bR, (Calm.flat zG 16).toArray, 69⟩, ⟨bA, feC A, 24⟩]) (fun i _ => 15 - (intOf i).toNat)
  case atStart => exact ⟨0, by omega, rfl, S⟩
  case round =>
    clear S
    obtain ⟨k, hk, rfl, S⟩ := hrel
    by_cases hlt : k < 15
    · have i1 : (k : Int) < 16 := by omega
      have i2 : (k : Int) + 1 < 16 := by omega
      have i3 : IntKind.i64.wrap ((k : Int) + 1) = (k : Int) + 1 := wrap_small _ (by omega) (by omega)
      have Ht : Hid ((Calm.flat (pwG A k) 16).toArray.extract (k * 4) (k * 4 + 4) = feC (A ^ k % pr)) := by
        have h := Calm.flat_take (g := pwG A k) (m := 4) (fun _ => rfl) (i := k) (n := 16) (by omega)
        rw [Nat.mul_comm 4 k] at h
        unfold Hid
        rw [h]
        simp [pwG]
      have Hn : Hid (Calm.splice (Calm.flat (pwG A k) 16).toArray ((k + 1) * 4) (feC (A ^ k % pr * A % pr)) = (Calm.flat (pwG A (k + 1)) 16).toArray) := by
        have h := Calm.flat_splice (g := pwG A k) (m := 4) (fun _ => rfl) (i := k + 1) (n := 16) (by omega) (feC (A ^ k % pr * A % pr)).toList rfl
        rw [Nat.mul_comm 4 (k + 1), tab_next A k _ (pow_next A k)] at h
        exact h
      go_wp2_with (first | (refine Calm.wl_box S rfl rfl rfl ?_; clear S; intro b W S) | (refine Calm.wl_new (ty := 24) S rfl rfl zeroFe ?_; clear S; intro b W S) | (refine Calm.g_load (ty := 24) rfl ?_; refine Calm.wl_load (ty := 24) S rfl rfl rfl (by (repeat (first | exact List.Mem.head _ | apply List.Mem.tail))) aggFe (by simp only [List.size_toArray, List.length_cons, List.length_nil, feC_size]) ?_) | (refine Calm.g_store (ty := 24) rfl ?_; refine Calm.wl_store (ty := 24) S rfl rfl rfl rfl (by (repeat (first | exact Calm.foc_hd | apply Calm.foc_tl))) aggFe rfl (by simp only [List.size_toArray, List.length_cons, List.length_nil, feC_size]) (w4_one _ _ _ _) ?_; clear S; intro W S) | (refine Calm.g_load (ty := 22) rfl ?_; refine Calm.wl_loadE (ty := 22) S rfl rfl rfl (by (repeat (first | exact List.Mem.head _ | apply List.Mem.tail))) (by rfl) one64 ?_) | (refine Calm.g_store (ty := 22) rfl ?_; refine Calm.wl_storeE (ty := 22) S rfl rfl rfl rfl (by rfl) (by (repeat (first | exact Calm.foc_hd | apply Calm.foc_tl))) one64 (by simp) rfl ?_; clear S; intro W S; simp only [Act.eval, Array.getD_eq_getD_getElem?, List.getElem?_toArray, List.getElem?_cons_zero, List.getElem?_cons_succ, Option.getD_some, List.setIfInBounds_toArray, List.set_cons_zero, List.set_cons_succ] at S))
      refine Calm.region0 S 8 (by kernel_rfl) (by kernel_rfl) (fun S => ?_)
      iterate 4 (first | (refine Calm.wn_skip rfl ?_) | (refine Calm.wn_move rfl (by rfl) (Or.inl rfl) ?_; simp only [Act.put, Act.eval, Array.getD_eq_getD_getElem?, List.getElem?_toArray, List.getElem?_cons_zero, List.getElem?_cons_succ, Option.getD_some, List.setIfInBounds_toArray, List.set_cons_zero, List.set_cons_succ]) | (refine Calm.wn_move rfl (by rfl) (Or.inr rfl) ?_; simp only [Act.put, Act.eval, Array.getD_eq_getD_getElem?, List.getElem?_toArray, List.getElem?_cons_zero, List.getElem?_cons_succ, Option.getD_some, List.setIfInBounds_toArray, List.set_cons_zero, List.set_cons_succ]) | (refine Calm.gn_load (ty := 24) rfl ?_; refine Calm.wn_load (ty := 24) S rfl (by rfl) rfl rfl (by (repeat (first | exact List.Mem.head _ | apply List.Mem.tail))) aggFe (by simp only [List.size_toArray, List.length_cons, List.length_nil, feC_size]) ?_; simp only [Act.put, Act.eval, Array.getD_eq_getD_getElem?, List.getElem?_toArray, List.getElem?_cons_zero, List.getElem?_cons_succ, Option.getD_some, List.setIfInBounds_toArray, List.set_cons_zero, List.set_cons_succ]) | (refine Calm.gn_load (ty := 22) rfl ?_; refine Calm.wn_loadE (ty := 22) S rfl (by rfl) rfl rfl (by (repeat (first | exact List.Mem.head _ | apply List.Mem.tail))) (by rfl) one64 ?_; simp only [Act.put, Act.eval, Array.getD_eq_getD_getElem?, List.getElem?_toArray, List.getElem?_cons_zero, List.getElem?_cons_succ, Option.getD_some, List.setIfInBounds_toArray, List.set_cons_zero, List.set_cons_succ]) | (apply Calm.wn_val rfl (by rfl); (intro w; go_simp; rfl); simp only [Act.put, Act.eval, Array.getD_eq_getD_getElem?, List.getElem?_toArray, List.getElem?_cons_zero, List.getElem?_cons_succ, Option.getD_some, List.setIfInBounds_toArray, List.set_cons_zero, List.set_cons_succ]))
      refine Calm.gn_load (ty := 24) rfl ?_
      refine Calm.wn_loadM (ty := 24) (b := b) (cs := feC (A ^ k % pr)) S rfl (by rfl) rfl rfl (by repeat (first | exact List.Mem.head _ | apply List.Mem.tail)) aggFe rfl Ht.out ?_
      simp only [Act.put, Act.eval, Array.getD_eq_getD_getElem?, List.getElem?_toArray, List.getElem?_cons_zero, List.getElem?_cons_succ, Option.getD_some, List.setIfInBounds_toArray, List.set_cons_zero, List.set_cons_succ]
      repeat (first | (refine Calm.wn_skip rfl ?_) | (refine Calm.wn_move rfl (by rfl) (Or.inl rfl) ?_; simp only [Act.put, Act.eval, Array.getD_eq_getD_getElem?, List.getElem?_toArray, List.getElem?_cons_zero, List.getElem?_cons_succ, Option.getD_some, List.setIfInBounds_toArray, List.set_cons_zero, List.set_cons_succ]) | (refine Calm.wn_move rfl (by rfl) (Or.inr rfl) ?_; simp only [Act.put, Act.eval, Array.getD_eq_getD_getElem?, List.getElem?_toArray, List.getElem?_cons_zero, List.getElem?_cons_succ, Option.getD_some, List.setIfInBounds_toArray, List.set_cons_zero, List.set_cons_succ]) | (refine Calm.gn_load (ty := 24) rfl ?_; refine Calm.wn_load (ty := 24) S rfl (by rfl) rfl rfl (by (repeat (first | exact List.Mem.head _ | apply List.Mem.tail))) aggFe (by simp only [List.size_toArray, List.length_cons, List.length_nil, feC_size]) ?_; simp only [Act.put, Act.eval, Array.getD_eq_getD_getElem?, List.getElem?_toArray, List.getElem?_cons_zero, List.getElem?_cons_succ, Option.getD_some, List.setIfInBounds_toArray, List.set_cons_zero, List.set_cons_succ]) | (refine Calm.gn_load (ty := 22) rfl ?_; refine Calm.wn_loadE (ty := 22) S rfl (by rfl) rfl rfl (by (repeat (first | exact List.Mem.head _ | apply List.Mem.tail))) (by rfl) one64 ?_; simp only [Act.put, Act.eval, Array.getD_eq_getD_getElem?, List.getElem?_toArray, List.getElem?_cons_zero, List.getElem?_cons_succ, Option.getD_some, List.setIfInBounds_toArray, List.set_cons_zero, List.set_cons_succ]) | (apply Calm.wn_call (f := 20) rfl (by rfl) rfl; (intro w; go_simp; rfl); (intro w; exact Mul_c _ _ (by first | exact ok_mod _ | assumption) (by first | exact ok_mod _ | assumption) w); simp only [Act.put, Act.eval, Array.getD_eq_getD_getElem?, List.getElem?_toArray, List.getElem?_cons_zero, List.getElem?_cons_succ, Option.getD_some, List.setIfInBounds_toArray, List.set_cons_zero, List.set_cons_succ]) | (apply Calm.wn_val rfl (by rfl); (intro w; go_simp; rfl); simp only [Act.put, Act.eval, Array.getD_eq_getD_getElem?, List.getElem?_toArray, List.getElem?_cons_zero, List.getElem?_cons_succ, Option.getD_some, List.setIfInBounds_toArray, List.set_cons_zero, List.set_cons_succ]))
      (refine Calm.wn_nil ?_; clear S; intro W S; simp only [Act.put, List.setIfInBounds_toArray, List.set_cons_zero, List.set_cons_succ, List.drop_succ_cons, List.drop_zero, List.drop_nil])
      refine Calm.wl_storeM (ty := 24) (b := b) (new := (Calm.flat (pwG A (k + 1)) 16).toArray) S rfl rfl rfl rfl (by (repeat (first | exact Calm.foc_hd | apply Calm.foc_tl))) aggFe rfl (by rw [tab_size _ (fun _ => rfl), feC_size]; omega) (w4_one _ _ _ _) Hn.out ?_
      clear S
      intro W S
      go_wp2_with (first | (refine Calm.wl_box S rfl rfl rfl ?_; clear S; intro b W S) | (refine Calm.wl_new (ty := 24) S rfl rfl zeroFe ?_; clear S; intro b W S) | (refine Calm.g_load (ty := 24) rfl ?_; refine Calm.wl_load (ty := 24) S rfl rfl rfl (by (repeat (first | exact List.Mem.head _ | apply List.Mem.tail))) aggFe (by simp only [List.size_toArray, List.length_cons, List.length_nil, feC_size]) ?_) | (refine Calm.g_store (ty := 24) rfl ?_; refine Calm.wl_store (ty := 24) S rfl rfl rfl rfl (by (repeat (first | exact Calm.foc_hd | apply Calm.foc_tl))) aggFe rfl (by simp only [List.size_toArray, List.length_cons, List.length_nil, feC_size]) (w4_one _ _ _ _) ?_; clear S; intro W S) | (refine Calm.g_load (ty := 22) rfl ?_; refine Calm.wl_loadE (ty := 22) S rfl rfl rfl (by (repeat (first | exact List.Mem.head _ | apply List.Mem.tail))) (by rfl) one64 ?_) | (refine Calm.g_store (ty := 22) rfl ?_; refine Calm.wl_storeE (ty := 22) S rfl rfl rfl rfl (by rfl) (by (repeat (first | exact Calm.foc_hd | apply Calm.foc_tl))) one64 (by simp) rfl ?_; clear S; intro W S; simp only [Act.eval, Array.getD_eq_getD_getElem?, List.getElem?_toArray, List.getElem?_cons_zero, List.getElem?_cons_succ, Option.getD_some, List.setIfInBounds_toArray, List.set_cons_zero, List.set_cons_succ] at S))
      go_roundw
      case rel => exact ⟨k + 1, by omega, by go_num, S⟩
      case measure => simp [intOf]; omega
    · have hk' : k = 15 := by omega
      subst hk'
      go_wp2_with (first | (refine Calm.wl_box S rfl rfl rfl ?_; clear S; intro b W S) | (refine Calm.wl_new (ty := 24) S rfl rfl zeroFe ?_; clear S; intro b W S) | (refine Calm.g_load (ty := 24) rfl ?_; refine Calm.wl_load (ty := 24) S rfl rfl rfl (by (repeat (first | exact List.Mem.head _ | apply List.Mem.tail))) aggFe (by simp only [List.size_toArray, List.length_cons, List.length_nil, feC_size]) ?_) | (refine Calm.g_store (ty := 24) rfl ?_; refine Calm.wl_store (ty := 24) S rfl rfl rfl rfl (by (repeat (first | exact Calm.foc_hd | apply Calm.foc_tl))) aggFe rfl (by simp only [List.size_toArray, List.length_cons, List.length_nil, feC_size]) (w4_one _ _ _ _) ?_; clear S; intro W S) | (refine Calm.g_load (ty := 22) rfl ?_; refine Calm.wl_loadE (ty := 22) S rfl rfl rfl (by (repeat (first | exact List.Mem.head _ | apply List.Mem.tail))) (by rfl) one64 ?_) | (refine Calm.g_store (ty := 22) rfl ?_; refine Calm.wl_storeE (ty := 22) S rfl rfl rfl rfl (by rfl) (by (repeat (first | exact Calm.foc_hd | apply Calm.foc_tl))) one64 (by simp) rfl ?_; clear S; intro W S; simp only [Act.eval, Array.getD_eq_getD_getElem?, List.getElem?_toArray, List.getElem?_cons_zero, List.getElem?_cons_succ, Option.getD_some, List.setIfInBounds_toArray, List.set_cons_zero, List.set_cons_succ] at S) | (refine Calm.g_load (ty := 69) rfl ?_; refine Calm.wl_load (ty := 69) S rfl rfl rfl (by repeat (first | exact List.Mem.head _ | apply List.Mem.tail)) aggTab (by rw [tab_size _ (fun _ => rfl)]) ?_) | (refine Calm.g_store (ty := 69) rfl ?_; refine Calm.wl_store (ty := 69) S rfl rfl rfl rfl (by (repeat (first | exact Calm.foc_hd | apply Calm.foc_tl))) aggTab (by rw [tab_size _ (fun _ => rfl)]) (by rw [tab_size _ (fun _ => rfl)]) (tab_one _) ?_; clear S; intro W S))
      refine Calm.ret_cell S (by rfl) (by rfl) (by repeat (first | exact List.Mem.head _ | apply List.Mem.tail)) aggTab (by rw [tab_size _ (fun _ => rfl)]) (by rfl) ?_
      exact ⟨rfl, S.below⟩
end Go.Proofs.Ytlbofcgjdbfenab
