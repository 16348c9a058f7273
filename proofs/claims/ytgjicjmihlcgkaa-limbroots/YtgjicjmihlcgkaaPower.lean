import Derived.Test.YtgjicjmihlcgkaaBits
set_option linter.unusedSimpArgs false
namespace Go.Calm
section
variable {P : Program} {ops : Array Oper} {rest : List Oper} {o : Oper} {a : Act} {w0 W : World} {L : List Blk} {Q : Exit → Act → World → Prop}
/-- A cell of a row that was there before the call. -/
theorem wl_loadB (S : St w0 W L) {ty : TypeId} {x : Operand} {g j : Nat} {cs : Array Value} {t : TypeId} {v : Value} (hw : Region.wanted o (yielded ops a.tmps) = true) (ho : o.op = .load ty x) (hx : a.eval x = .pointer (some ⟨g, j, none⟩)) (hg : w0.heap[g]? = some (.cells cs t (0, 0))) (hv : cs[j]? = some v)
    (T : OneT P ty)
    (h : wpList P ops Q rest (a.put o.dst v) W) : wpList P ops Q (o :: rest) a W := by
  obtain ⟨d, hu, hd⟩ := T.one
  refine wpList_wanted hw fun K hK => ?_
  have hW : W.heap[g]? = some (.cells cs t (0, 0)) := (S.below.block _ (lt_of_heap hg)).trans hg
  unfold Oper.wp execOp
  simp only [ho, hx, Instr.loadAt, Instr.sureAddr, Sem.run_bind, Sem.run_pure, Result.andThen_ok, run_loadVar_one W g j t ty cs d v hW hv hu hd]
  exact hK _ _ h
end
end Go.Calm
namespace Go.Proofs.Ytgjicjmihlcgkaa
open Go.RowKit
theorem oneInt : Calm.OneT Try.prog 3 := ⟨⟨_, Try.underlying3, rfl⟩, by kernel_rfl⟩
/-- The number of the highest d bits of n. -/
def hvd (bt : Nat → Nat) (n : Nat) : Nat → Nat
  | 0 => 0
  | d + 1 => 2 * hvd bt n d + bt (n - 1 - d)
theorem pm_dbl (A : Int) (n : Nat) : pm A n * pm A n % pr = pm A (2 * n) := by rw [pm_add]; congr 1; omega
theorem pm_dbl1 (A : Int) (n : Nat) : pm A (2 * n) * A % pr = pm A (2 * n + 1) := by rw [Int.mul_comm, pm_succ]
set_option maxHeartbeats 1000000 in
theorem Power_c (A : Int) (hA : Ok A) (bt : Nat → Nat) (n : Nat) (hn : n ≤ 1000) (hb : ∀ j, j < n → bt j < 2) (g cap : Nat) (cur : Array Value) (t : TypeId) (w : World) (hg : w.heap[g]? = some (.cells cur t (0, 0))) (hc : ∀ j, j < n → cur[j]? = some (.int .i64 (bt j : Int))) :
    Calls Try.prog 59 #[.agg (nuC A), .slice (some ⟨g, 0, none⟩) n cap] w fun e w' => e = .returned (.agg (nuC (pm A (hvd bt n n)))) ∧ Below w.heap.size w w' := by
  have S := Calm.St.start w
  have HC := hide hc
  have HB := hide hb
  have HG := hide hg
  clear hc hb hg
  go_enter Try.func59, Try.ntmps59
  go_wp2_with (first | (refine Calm.wl_box S rfl rfl rfl ?_; clear S; intro b W S) | (refine Calm.wl_new (ty := 24) S rfl rfl zeroFe ?_; clear S; intro b W S) | (refine Calm.g_load (ty := 24) rfl ?_; refine Calm.wl_load (ty := 24) S rfl rfl rfl (by (repeat (first | exact List.Mem.head _ | apply List.Mem.tail))) aggFe (by simp only [List.size_toArray, List.length_cons, List.length_nil, feC_size]) ?_) | (refine Calm.g_store (ty := 24) rfl ?_; refine Calm.wl_store (ty := 24) S rfl rfl rfl rfl (by (repeat (first | exact Calm.foc_hd | apply Calm.foc_tl))) aggFe rfl (by simp only [List.size_toArray, List.length_cons, List.length_nil, feC_size]) (w4_one _ _ _ _) ?_; clear S; intro W S) | (refine Calm.g_load (ty := 22) rfl ?_; refine Calm.wl_loadE (ty := 22) S rfl rfl rfl (by (repeat (first | exact List.Mem.head _ | apply List.Mem.tail))) (by rfl) one64 ?_) | (refine Calm.g_store (ty := 22) rfl ?_; refine Calm.wl_storeE (ty := 22) S rfl rfl rfl rfl (by rfl) (by (repeat (first | exact Calm.foc_hd | apply Calm.foc_tl))) one64 (by simp) rfl ?_; clear S; intro W S; simp only [Act.eval, Array.getD_eq_getD_getElem?, List.getElem?_toArray, List.getElem?_cons_zero, List.getElem?_cons_succ, Option.getD_some, List.setIfInBounds_toArray, List.set_cons_zero, List.set_cons_succ] at S) | (refine Calm.wl_new (ty := 28) S rfl rfl zeroNu ?_; clear S; intro b W S))
  refine (ROf_c 1 (by omega) (by omega) _).mono ?_
  rintro e W1 ⟨rfl, hb⟩
  have S := S.call hb
  clear hb
  have hnn : (n : Int) ≤ 1000 := by omega
  have e0 : IntKind.i64.wrap ((n : Int) - 1) = (n : Int) - 1 := by rw [IntKind.wrap_i64]; omega
  go_wp2_with (first | (refine Calm.wl_box S rfl rfl rfl ?_; clear S; intro b W S) | (refine Calm.wl_new (ty := 24) S rfl rfl zeroFe ?_; clear S; intro b W S) | (refine Calm.g_load (ty := 24) rfl ?_; refine Calm.wl_load (ty := 24) S rfl rfl rfl (by (repeat (first | exact List.Mem.head _ | apply List.Mem.tail))) aggFe (by simp only [List.size_toArray, List.length_cons, List.length_nil, feC_size]) ?_) | (refine Calm.g_store (ty := 24) rfl ?_; refine Calm.wl_store (ty := 24) S rfl rfl rfl rfl (by (repeat (first | exact Calm.foc_hd | apply Calm.foc_tl))) aggFe rfl (by simp only [List.size_toArray, List.length_cons, List.length_nil, feC_size]) (w4_one _ _ _ _) ?_; clear S; intro W S) | (refine Calm.g_load (ty := 22) rfl ?_; refine Calm.wl_loadE (ty := 22) S rfl rfl rfl (by (repeat (first | exact List.Mem.head _ | apply List.Mem.tail))) (by rfl) one64 ?_) | (refine Calm.g_store (ty := 22) rfl ?_; refine Calm.wl_storeE (ty := 22) S rfl rfl rfl rfl (by rfl) (by (repeat (first | exact Calm.foc_hd | apply Calm.foc_tl))) one64 (by simp) rfl ?_; clear S; intro W S; simp only [Act.eval, Array.getD_eq_getD_getElem?, List.getElem?_toArray, List.getElem?_cons_zero, List.getElem?_cons_succ, Option.getD_some, List.setIfInBounds_toArray, List.set_cons_zero, List.set_cons_succ] at S) | (refine Calm.wl_new (ty := 28) S rfl rfl zeroNu ?_; clear S; intro b W S) | (refine Calm.g_store (ty := 28) rfl ?_; refine Calm.wl_store (ty := 28) S rfl rfl rfl rfl (by (repeat (first | exact Calm.foc_hd | apply Calm.foc_tl))) aggNu (by rw [nuC_size]) (by rw [nuF_size]) (nuF_one _) ?_; clear S; intro W S))
  rename_i bA _ bR _ _ _ K hK
  go_loopw [6] (fun i Wr => ∃ d : Nat, d ≤ n ∧ i = .int .i64 ((n : Int) - 1 - d) ∧ Calm.St w Wr [⟨b, nuC (pm A (hvd bt n d)), 28⟩, ⟨bR, nuF (fun _ => 0), 28⟩, ⟨bA, nuC A, 28⟩]) (fun i _ => (intOf i + 1).toNat)
  case atStart => exact ⟨0, by omega, by simp, by rw [show pm A (hvd bt n 0) = 1 from pm_0 A]; exact S⟩
  case round =>
    clear S
    obtain ⟨d, hd, rfl, S⟩ := hrel
    by_cases hlt : d < n
    · obtain ⟨m, hm⟩ : ∃ m : Nat, m = n - 1 - d := ⟨_, rfl⟩
      have em : (n : Int) - 1 - d = (m : Int) := by omega
      rw [em]
      have hmn : (m : Int) < (n : Int) := by omega
      have hmn' : m < n := by omega
      have hm1 : (m : Int) ≤ 1000 := by omega
      have Hm := hide hm
      have Hx := hide (HC.out m hmn')
      have hbm := HB.out m hmn'
      have e9 : IntKind.i64.wrap ((m : Int) - 1) = (m : Int) - 1 := by rw [IntKind.wrap_i64]; omega
      clear hm em
      go_wp2_with (first | (refine Calm.g_load (ty := 28) rfl ?_; refine Calm.wl_load (ty := 28) S rfl rfl rfl (by repeat (first | exact List.Mem.head _ | apply List.Mem.tail)) aggNu (by rw [nuC_size]) ?_))
      refine (RMul_c _ _ (ok_pm _ _) (ok_pm _ _) _).mono ?_
      rintro e W1 ⟨rfl, hb⟩
      have S := S.call hb
      clear hb
      rw [pm_dbl]
      have hbit : bt m = 0 ∨ bt m = 1 := by omega
      clear hbm
      rcases hbit with hb0 | hb1
      · have Hv : Hid (hvd bt n (d + 1) = 2 * hvd bt n d) := by unfold Hid; rw [hvd, ← Hm.out, hb0]; rfl
        rw [hb0] at Hx
        clear hb0
        go_wp2_with (first | (refine Calm.g_store (ty := 28) rfl ?_; refine Calm.wl_store (ty := 28) S rfl rfl rfl rfl (by (repeat (first | exact Calm.foc_hd | apply Calm.foc_tl))) aggNu (by rw [nuC_size]) (by rw [nuC_size]) (nuF_one _) ?_; clear S; intro W S) | (refine Calm.g_load (ty := 3) rfl ?_; refine Calm.wl_loadB (ty := 3) (g := g) (v := .int .i64 0) S rfl rfl rfl HG.out Hx.out oneInt ?_) | (refine Calm.g_load (ty := 28) rfl ?_; refine Calm.wl_load (ty := 28) S rfl rfl rfl (by repeat (first | exact List.Mem.head _ | apply List.Mem.tail)) aggNu (by rw [nuC_size]) ?_))
        go_roundw
        case rel => exact ⟨d + 1, by omega, by have := Hm.out; go_num, by rw [Hv.out]; exact S⟩
        case measure => simp [intOf]
      · have Hv : Hid (hvd bt n (d + 1) = 2 * hvd bt n d + 1) := by unfold Hid; rw [hvd, ← Hm.out, hb1]
        rw [hb1] at Hx
        clear hb1
        go_wp2_with (first | (refine Calm.g_store (ty := 28) rfl ?_; refine Calm.wl_store (ty := 28) S rfl rfl rfl rfl (by (repeat (first | exact Calm.foc_hd | apply Calm.foc_tl))) aggNu (by rw [nuC_size]) (by rw [nuC_size]) (nuF_one _) ?_; clear S; intro W S) | (refine Calm.g_load (ty := 3) rfl ?_; refine Calm.wl_loadB (ty := 3) (g := g) (v := .int .i64 1) S rfl rfl rfl HG.out Hx.out oneInt ?_) | (refine Calm.g_load (ty := 28) rfl ?_; refine Calm.wl_load (ty := 28) S rfl rfl rfl (by repeat (first | exact List.Mem.head _ | apply List.Mem.tail)) aggNu (by rw [nuC_size]) ?_))
        refine (RMul_c _ _ (ok_pm _ _) hA _).mono ?_
        rintro e W1 ⟨rfl, hb⟩
        have S := S.call hb
        clear hb
        rw [pm_dbl1]
        go_wp2_with (first | (refine Calm.g_store (ty := 28) rfl ?_; refine Calm.wl_store (ty := 28) S rfl rfl rfl rfl (by (repeat (first | exact Calm.foc_hd | apply Calm.foc_tl))) aggNu (by rw [nuC_size]) (by rw [nuC_size]) (nuF_one _) ?_; clear S; intro W S))
        go_roundw
        case rel => exact ⟨d + 1, by omega, by have := Hm.out; go_num, by rw [Hv.out]; exact S⟩
        case measure => simp [intOf]
    · have hd' : d = n := by omega
      subst hd'
      rw [show (d : Int) - 1 - d = -1 by omega]
      go_wp2_with (first | (refine Calm.g_load (ty := 28) rfl ?_; refine Calm.wl_load (ty := 28) S rfl rfl rfl (by repeat (first | exact List.Mem.head _ | apply List.Mem.tail)) aggNu (by rw [nuC_size]) ?_) | (refine Calm.g_store (ty := 28) rfl ?_; refine Calm.wl_store (ty := 28) S rfl rfl rfl rfl (by (repeat (first | exact Calm.foc_hd | apply Calm.foc_tl))) aggNu (by rw [nuC_size]) (by rw [nuF_size]) (nuF_one _) ?_; clear S; intro W S))
      refine Calm.ret_cell S (by rfl) (by rfl) (by repeat (first | exact List.Mem.head _ | apply List.Mem.tail)) aggNu (by rw [nuC_size]) (by rfl) ?_
      exact ⟨rfl, S.below⟩
end Go.Proofs.Ytgjicjmihlcgkaa
