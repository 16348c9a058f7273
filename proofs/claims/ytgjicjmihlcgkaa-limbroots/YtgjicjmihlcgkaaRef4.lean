import Derived.Test.YtgjicjmihlcgkaaRef3
import Derived.Test.YtgjicjmihlcgkaaFMath
set_option linter.unusedSimpArgs false
namespace Go.Proofs.Ytgjicjmihlcgkaa
open Go.RowKit
theorem feC_small (n : Int) (h0 : 0 ≤ n) (h1 : n < 18446744073709551616) : feC n = #[.int .u64 n, .int .u64 0, .int .u64 0, .int .u64 0] := by
  unfold feC
  rw [show n % 18446744073709551616 = n by omega, show n / 18446744073709551616 % 18446744073709551616 = 0 by omega, show n / 340282366920938463463374607431768211456 % 18446744073709551616 = 0 by omega, show n / 6277101735386680763835789423207666416102355444464034512896 % 18446744073709551616 = 0 by omega]
set_option maxHeartbeats 1000000 in
theorem ROf_c (n : Int) (h0 : 0 ≤ n) (h1 : n < 18446744073709551616) (w : World) : Calls Try.prog 62 #[.int .u64 n] w fun e w' => e = .returned (.agg (nuC n)) ∧ Below w.heap.size w w' := by
  have S := Calm.St.start w
  have HW : Hid (∀ w, Calls Try.prog 40 #[.agg #[.int .u64 n, .int .u64 0, .int .u64 0, .int .u64 0]] w fun e w' => e = .returned (.agg (nuC n)) ∧ Below w.heap.size w w') := by
    intro w
    have := Words_c n (by unfold Ok; omega) w
    rw [feC_small n h0 h1, show n % pr = n by unfold pr; omega] at this
    exact this
  go_enter Try.func62, Try.ntmps62
  go_wp2_with (first | (refine Calm.wl_box S rfl rfl rfl ?_; clear S; intro b W S) | (refine Calm.wl_new (ty := 24) S rfl rfl zeroFe ?_; clear S; intro b W S) | (refine Calm.g_load (ty := 24) rfl ?_; refine Calm.wl_load (ty := 24) S rfl rfl rfl (by (repeat (first | exact List.Mem.head _ | apply List.Mem.tail))) aggFe (by simp only [List.size_toArray, List.length_cons, List.length_nil, feC_size]) ?_) | (refine Calm.g_store (ty := 24) rfl ?_; refine Calm.wl_store (ty := 24) S rfl rfl rfl rfl (by (repeat (first | exact Calm.foc_hd | apply Calm.foc_tl))) aggFe rfl (by simp only [List.size_toArray, List.length_cons, List.length_nil, feC_size]) (w4_one _ _ _ _) ?_; clear S; intro W S) | (refine Calm.g_load (ty := 22) rfl ?_; refine Calm.wl_loadE (ty := 22) S rfl rfl rfl (by (repeat (first | exact List.Mem.head _ | apply List.Mem.tail))) (by rfl) one64 ?_) | (refine Calm.g_store (ty := 22) rfl ?_; refine Calm.wl_storeE (ty := 22) S rfl rfl rfl rfl (by rfl) (by (repeat (first | exact Calm.foc_hd | apply Calm.foc_tl))) one64 (by simp) rfl ?_; clear S; intro W S; simp only [Act.eval, Array.getD_eq_getD_getElem?, List.getElem?_toArray, List.getElem?_cons_zero, List.getElem?_cons_succ, Option.getD_some, List.setIfInBounds_toArray, List.set_cons_zero, List.set_cons_succ] at S) | (refine Calm.wl_new (ty := 28) S rfl rfl zeroNu ?_; clear S; intro b W S))
  refine (HW.out _).mono ?_
  rintro e W1 ⟨rfl, hb⟩
  have S := S.call hb
  clear hb
  go_wp2_with (first | (refine Calm.g_store (ty := 28) rfl ?_; refine Calm.wl_store (ty := 28) S rfl rfl rfl rfl (by (repeat (first | exact Calm.foc_hd | apply Calm.foc_tl))) aggNu (by rw [nuC_size]) (by rw [nuF_size]) (nuF_one _) ?_; clear S; intro W S))
  refine Calm.ret_cell S (by rfl) (by rfl) (by repeat (first | exact List.Mem.head _ | apply List.Mem.tail)) aggNu (by rw [nuC_size]) (by rfl) ?_
  exact ⟨rfl, S.below⟩
theorem arrNu : Calm.ArrT Try.prog 28 8 .u64 := ⟨⟨_, Try.underlying28, Try.underlying22, by kernel_rfl⟩, by kernel_rfl⟩
def nuL (n : Int) : List Int := (List.range 8).map (nuG n)
theorem nuC_list (n : Int) : nuC n = ((nuL n).map (Value.int .u64)).toArray := by unfold nuC nuF nuL; rw [List.map_map]; rfl
theorem nuL_len (n : Int) : (nuL n).length = 8 := by simp [nuL]
theorem nuL_inj {X Y : Int} (hX : Ok X) (hY : Ok Y) : (nuL X == nuL Y) = decide (X = Y) := by
  rw [Bool.eq_iff_iff, beq_iff_eq, decide_eq_true_iff]
  constructor
  · intro h
    rw [← val_nu X hX, ← val_nu Y hY]
    refine val_ext _ _ _ fun j hj => ?_
    have h2 := congrArg (fun l : List Int => l[j]?) h
    simpa [nuL, hj] using h2
  · intro h; rw [h]
section
variable {ops : Array Oper} {rest : List Oper} {o : Oper} {a : Act} {W : World} {Q : Exit → Act → World → Prop}
theorem wl_eqNu {X Y : Int} {x y : Operand} {u : TypeId} (ho : o.op = .binOp .eql 28 x y u) (hw : Region.wanted o (yielded ops a.tmps) = true) (hx : a.eval x = .agg (nuC X)) (hy : a.eval y = .agg (nuC Y)) (hX : Ok X) (hY : Ok Y)
    (h : wpList Try.prog ops Q rest (a.put o.dst (.bool (decide (X = Y)))) W) : wpList Try.prog ops Q (o :: rest) a W :=
  Calm.wl_val hw (fun w => by
    rw [nuC_list] at hx hy
    rw [← nuL_inj hX hY]
    exact Calm.exec_eql arrNu (nuL X) (nuL Y) (nuL_len X) (nuL_len Y) ho hx hy w) h
end
theorem nu0 (n : Int) : nuG n 0 % 2 = n % 2 := by unfold nuG; simp
set_option maxHeartbeats 1000000 in
theorem ROdd_c (n : Int) (w : World) : Calls Try.prog 71 #[.agg (nuC n)] w fun e w' => e = .returned (.bool (decide (n % 2 = 1))) ∧ Below w.heap.size w w' := by
  have S := Calm.St.start w
  rw [← nu0 n]
  have Hx : Hid ((nuC n)[0]? = some (.int .u64 (nuG n 0))) := nuF_at (nuG n) 0 (by omega)
  have hb := nuG_bd n 0
  go_enter Try.func71, Try.ntmps71
  go_wp2_with (first | (refine Calm.wl_box S rfl rfl rfl ?_; clear S; intro b W S) | (refine Calm.g_load (ty := 22) rfl ?_; refine Calm.wl_loadE (ty := 22) S rfl rfl rfl (by repeat (first | exact List.Mem.head _ | apply List.Mem.tail)) Hx.out one64 ?_))
  go_ret
  exact ⟨rfl, S.below⟩
def absR (n : Int) : Int := if n % 2 = 1 then -n % pr else n
set_option maxHeartbeats 1000000 in
theorem RAbs_c (n : Int) (hn : 0 ≤ n ∧ n < pr) (w : World) : Calls Try.prog 61 #[.agg (nuC n)] w fun e w' => e = .returned (.agg (nuC (absR n))) ∧ Below w.heap.size w w' := by
  have S := Calm.St.start w
  unfold absR
  go_enter Try.func61, Try.ntmps61
  go_wp2_with (first | (refine Calm.wl_box S rfl rfl rfl ?_; clear S; intro b W S) | (refine Calm.wl_new (ty := 28) S rfl rfl zeroNu ?_; clear S; intro b W S) | (refine Calm.g_load (ty := 28) rfl ?_; refine Calm.wl_load (ty := 28) S rfl rfl rfl (by repeat (first | exact List.Mem.head _ | apply List.Mem.tail)) aggNu (by rw [nuC_size]) ?_))
  refine (ROdd_c n _).mono ?_
  rintro e W1 ⟨he, hb⟩
  by_cases ho : n % 2 = 1
  · rw [decide_eq_true ho] at he
    subst he
    have S := S.call hb
    clear hb
    go_wp2_with (first | (refine Calm.g_load (ty := 28) rfl ?_; refine Calm.wl_load (ty := 28) S rfl rfl rfl (by repeat (first | exact List.Mem.head _ | apply List.Mem.tail)) aggNu (by rw [nuC_size]) ?_))
    refine (RNeg_c n hn _).mono ?_
    rintro e W1 ⟨rfl, hb⟩
    have S := S.call hb
    clear hb
    go_wp2_with (first | (refine Calm.g_store (ty := 28) rfl ?_; refine Calm.wl_store (ty := 28) S rfl rfl rfl rfl (by (repeat (first | exact Calm.foc_hd | apply Calm.foc_tl))) aggNu (by rw [nuC_size]) (by rw [nuF_size]) (nuF_one _) ?_; clear S; intro W S))
    refine Calm.ret_cell S (by rfl) (by rfl) (by repeat (first | exact List.Mem.head _ | apply List.Mem.tail)) aggNu (by rw [nuC_size]) (by rfl) ?_
    exact ⟨rfl, S.below⟩
  · rw [decide_eq_false ho] at he
    subst he
    have S := S.call hb
    clear hb
    go_wp2_with (first | (refine Calm.g_load (ty := 28) rfl ?_; refine Calm.wl_load (ty := 28) S rfl rfl rfl (by repeat (first | exact List.Mem.head _ | apply List.Mem.tail)) aggNu (by rw [nuC_size]) ?_) | (refine Calm.g_store (ty := 28) rfl ?_; refine Calm.wl_store (ty := 28) S rfl rfl rfl rfl (by (repeat (first | exact Calm.foc_hd | apply Calm.foc_tl))) aggNu (by rw [nuC_size]) (by rw [nuF_size]) (nuF_one _) ?_; clear S; intro W S))
    refine Calm.ret_cell S (by rfl) (by rfl) (by repeat (first | exact List.Mem.head _ | apply List.Mem.tail)) aggNu (by rw [nuC_size]) (by rfl) ?_
    exact ⟨rfl, S.below⟩
end Go.Proofs.Ytgjicjmihlcgkaa
