import Derived.Test.YtgjicjmihlcgkaaPowI
import Derived.Test.YtgjicjmihlcgkaaSched
set_option linter.unusedSimpArgs false
namespace Go.Calm
section
variable {P : Program} {ops : Array Oper} {Q : Exit → Act → World → Prop} {r : List (Nat × Bool)} {i : Nat} {o : Oper} {a : Act} {W : World} {L0 : List Blk}
/-- A call whose answer hangs on the world. -/
theorem whB_callE {f : FuncId} {as' : Array Operand} {ts : Array TypeId} {args : Array Value} {Φ : Ending → World → Prop} (hi : ops[i]? = some o) (hw : Region.wanted o (yielded ops a.tmps) = true) (_ho : o.op = .call { callee := .value (.func f), args := as', argTypes := ts }) (hr : ∀ w, (execOp a.eval o).run P w = .ok (.enter f args) w)
    (hc : Calls P f args W Φ) (h : ∀ e w'', Φ e w'' → ∃ v, e = .returned v ∧ Mem0 L0 w'' ∧ walkH P ops Q (Mem0 L0) r (a.put o.dst v) w'') : walkH P ops Q (Mem0 L0) ((i, false) :: r) a W :=
  wh_only hi hw (by
    unfold Oper.wp
    rw [hr W]
    simp only [Oper.upon]
    exact hc.mono fun e w'' hΦ => by
      obtain ⟨v, rfl, hm, hk⟩ := h e w'' hΦ
      exact ⟨hm, hk⟩)
end
end Go.Calm
namespace Go.Proofs.Ytgjicjmihlcgkaa
open Go.RowKit
set_option maxHeartbeats 400000 in
theorem RInv_c (A : Int) (hA : Ok A) (w : World) : Calls Try.prog 37 #[.agg (nuC A)] w fun e w' => e = .returned (.agg (nuC (invF A))) ∧ Below w.heap.size w w' := by
  have S := Calm.St.start w
  go_enter Try.func37, Try.ntmps37
  go_wp2_with (first | (refine Calm.wl_box S rfl rfl rfl ?_; clear S; intro b W S) | (refine Calm.wl_new (ty := 24) S rfl rfl zeroFe ?_; clear S; intro b W S) | (refine Calm.g_load (ty := 24) rfl ?_; refine Calm.wl_load (ty := 24) S rfl rfl rfl (by (repeat (first | exact List.Mem.head _ | apply List.Mem.tail))) aggFe (by simp only [List.size_toArray, List.length_cons, List.length_nil, feC_size]) ?_) | (refine Calm.g_store (ty := 24) rfl ?_; refine Calm.wl_store (ty := 24) S rfl rfl rfl rfl (by (repeat (first | exact Calm.foc_hd | apply Calm.foc_tl))) aggFe rfl (by simp only [List.size_toArray, List.length_cons, List.length_nil, feC_size]) (w4_one _ _ _ _) ?_; clear S; intro W S) | (refine Calm.g_load (ty := 22) rfl ?_; refine Calm.wl_loadE (ty := 22) S rfl rfl rfl (by (repeat (first | exact List.Mem.head _ | apply List.Mem.tail))) (by rfl) one64 ?_) | (refine Calm.g_store (ty := 22) rfl ?_; refine Calm.wl_storeE (ty := 22) S rfl rfl rfl rfl (by rfl) (by (repeat (first | exact Calm.foc_hd | apply Calm.foc_tl))) one64 (by simp) rfl ?_; clear S; intro W S; simp only [Act.eval, Array.getD_eq_getD_getElem?, List.getElem?_toArray, List.getElem?_cons_zero, List.getElem?_cons_succ, Option.getD_some, List.setIfInBounds_toArray, List.set_cons_zero, List.set_cons_succ] at S) | (refine Calm.wl_new (ty := 28) S rfl rfl zeroNu ?_; clear S; intro b W S))
  rename_i bA _ _ _
  have S0 := S
  refine Calm.region_sched S [(0, true), (1, false), (2, false), (3, false), (4, false)] [⟨bA, nuC A, 28⟩] (by kernel_rfl) (by kernel_rfl) (by simp) (by intro c a d v w h; cases d <;> exact h) (fun S => ?_)
  refine Calm.wh_load (ty := 28) rfl (by rfl) rfl rfl (by repeat (first | exact List.Mem.head _ | apply List.Mem.tail)) aggNu (by simp only [nuC_size]) ?_
  simp only [List.getElem_toArray, List.getElem_cons_succ, List.getElem_cons_zero, Act.put, Act.eval, Array.getD_eq_getD_getElem?, List.getElem?_toArray, List.getElem?_cons_zero, List.getElem?_cons_succ, Option.getD_some, List.setIfInBounds_toArray, List.set_cons_zero, List.set_cons_succ]
  refine Calm.wh_only rfl (by rfl) ?_
  unfold Oper.wp
  go_simp
  have S1 := (S0.new #[.int .i64 1, .int .i64 1, .int .i64 0, .int .i64 1, .int .i64 0] 3).drew
  clear S S0
  refine ⟨S1.mem0 (by simp), ?_⟩
  apply Calm.whB_callE (f := 60) rfl (by rfl) rfl
  · intro w; go_simp; rfl
  · refine ones_c 255 (by omega) [1, 1, 0, 1, 0] (by decide) (by decide) W.heap.size 5 _ ?_
    intro j u hj
    rcases j with _ | _ | _ | _ | _ | j <;> simp at hj <;> (try subst hj) <;> simp [Addr.add]
  rintro e W2 ⟨v, rfl, hown, hb⟩
  have S := S1.call hb
  have el : (([1, 1, 0, 1, 0] ++ List.replicate (255 - ([1, 1, 0, 1, 0] : List Int).length) 1 : List Int)).map (Value.int .i64) = lInv.map (fun x : Nat => Value.int .i64 (x : Int)) := by kernel_rfl
  rw [el] at hown
  obtain ⟨g, cap, cur, rfl, hg, hc⟩ := own_read hown (by omega)
  clear hown hb el S1
  refine ⟨_, rfl, S.mem0 (by simp), ?_⟩
  have hp := Power_c A hA (fun j => lInv.getD j 0) 255 (by omega) (fun j hj => of_decide_eq_true (p := ∀ j, j < 255 → lInv.getD j 0 < 2) (by kernel_rfl) j hj) g cap cur _ W2 hg hc
  rw [h_inv] at hp
  have HP := hide hp
  clear hp hg hc
  simp only [List.getElem_toArray, List.getElem_cons_succ, List.getElem_cons_zero, Act.put, Act.eval, Array.getD_eq_getD_getElem?, List.getElem?_toArray, List.getElem?_cons_zero, List.getElem?_cons_succ, Option.getD_some, List.setIfInBounds_toArray, List.set_cons_zero, List.set_cons_succ]
  apply Calm.whB_callE (f := 59) rfl (by rfl) rfl
  · intro w; go_simp; rfl
  · exact HP.out
  rintro e W3 ⟨rfl, hb⟩
  have S := S.call hb
  clear hb
  refine ⟨_, rfl, S.mem0 (by simp), ?_⟩
  simp only [List.getElem_toArray, List.getElem_cons_succ, List.getElem_cons_zero, Act.put, Act.eval, Array.getD_eq_getD_getElem?, List.getElem?_toArray, List.getElem?_cons_zero, List.getElem?_cons_succ, Option.getD_some, List.setIfInBounds_toArray, List.set_cons_zero, List.set_cons_succ]
  refine Calm.whB_store (ty := 28) S rfl (by rfl) rfl rfl rfl (by (repeat (first | exact Calm.foc_hd | apply Calm.foc_tl))) aggNu (by rw [nuC_size]) (by rw [nuF_size]) (nuF_one _) (by simp) ?_
  clear S
  intro W S
  simp only [List.getElem_toArray, List.getElem_cons_succ, List.getElem_cons_zero, Act.put, Act.eval, Array.getD_eq_getD_getElem?, List.getElem?_toArray, List.getElem?_cons_zero, List.getElem?_cons_succ, Option.getD_some, List.setIfInBounds_toArray, List.set_cons_zero, List.set_cons_succ]
  refine Calm.wh_nil ?_
  go_wp2_with (first | (refine Calm.wl_box S rfl rfl rfl ?_; clear S; intro b W S) | (refine Calm.wl_new (ty := 24) S rfl rfl zeroFe ?_; clear S; intro b W S) | (refine Calm.g_load (ty := 24) rfl ?_; refine Calm.wl_load (ty := 24) S rfl rfl rfl (by (repeat (first | exact List.Mem.head _ | apply List.Mem.tail))) aggFe (by simp only [List.size_toArray, List.length_cons, List.length_nil, feC_size]) ?_) | (refine Calm.g_store (ty := 24) rfl ?_; refine Calm.wl_store (ty := 24) S rfl rfl rfl rfl (by (repeat (first | exact Calm.foc_hd | apply Calm.foc_tl))) aggFe rfl (by simp only [List.size_toArray, List.length_cons, List.length_nil, feC_size]) (w4_one _ _ _ _) ?_; clear S; intro W S) | (refine Calm.g_load (ty := 22) rfl ?_; refine Calm.wl_loadE (ty := 22) S rfl rfl rfl (by (repeat (first | exact List.Mem.head _ | apply List.Mem.tail))) (by rfl) one64 ?_) | (refine Calm.g_store (ty := 22) rfl ?_; refine Calm.wl_storeE (ty := 22) S rfl rfl rfl rfl (by rfl) (by (repeat (first | exact Calm.foc_hd | apply Calm.foc_tl))) one64 (by simp) rfl ?_; clear S; intro W S; simp only [Act.eval, Array.getD_eq_getD_getElem?, List.getElem?_toArray, List.getElem?_cons_zero, List.getElem?_cons_succ, Option.getD_some, List.setIfInBounds_toArray, List.set_cons_zero, List.set_cons_succ] at S))
  refine Calm.ret_cell S (by rfl) (by rfl) (by repeat (first | exact List.Mem.head _ | apply List.Mem.tail)) aggNu (by rw [nuC_size]) (by rfl) ?_
  exact ⟨rfl, S.below⟩
end Go.Proofs.Ytgjicjmihlcgkaa
