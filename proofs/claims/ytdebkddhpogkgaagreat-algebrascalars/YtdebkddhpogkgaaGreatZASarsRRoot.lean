import Derived.Test.YtdebkddhpogkgaaGreatZASarsPowAll
import Derived.Test.YtdebkddhpogkgaaGreatZASarsMthAll
import Derived.Test.YtdebkddhpogkgaaGreatZASarsSchAll
set_option linter.unusedSimpArgs false
namespace Go.Proofs.YtdebkddhpogkgaaGreat
open Go.RowKit Go.Calm
theorem nuC_0:nuC 0= #[.int .u64 0,.int .u64 0,.int .u64 0,.int .u64 0,.int .u64 0,.int .u64 0,.int .u64 0,.int .u64 0]:=by kernel_rfl
theorem eqNu_run {o:Oper} {a:Act} {X Y:Int} {x y:Operand} {u:TypeId} (hX:Ok X) (hY:Ok Y) (ho:o.op= .binOp .eql 70 x y u) (hx:a.eval x= .agg (nuC X)) (hy:a.eval y= .agg (nuC Y)) (w:World):(execOp a.eval o).run Tryz.prog w= .ok (.value (.bool (decide (X=Y)))) w:=by
  rw[nuC_list] at hx hy
  rw[← nuL_inj hX hY]
  exact Calm.exec_eql arrNu (nuL X) (nuL Y) (nuL_len X) (nuL_len Y) ho hx hy w
theorem neNu_run {o:Oper} {a:Act} {X Y:Int} {v:Bool} {x y:Operand} {u:TypeId} (hX:Ok X) (hY:Ok Y) (hv:(!decide (X=Y))=v) (ho:o.op= .binOp .neq 70 x y u) (hx:a.eval x= .agg (nuC X)) (hy:a.eval y= .agg (nuC Y)) (w:World):(execOp a.eval o).run Tryz.prog w= .ok (.value (.bool v)) w:=by
  rw[nuC_list] at hx hy
  rw[← hv,← nuL_inj hX hY]
  have:=Calm.exec_neq arrNu (nuL X) (nuL Y) (nuL_len X) (nuL_len Y) ho hx hy w
  simpa[bne] using this
set_option maxHeartbeats 1000000 in
theorem RZero_c (A:Int) (hA:Ok A) (w:World):Calls Tryz.prog 94 #[.agg (nuC A)] w fun e w'=>e= .returned (.bool (decide (A=0)))∧Below w.heap.size w w':=by
  have S:=Calm.St.start w
  have H0:=hide nuC_0
  go_enter Tryz.func94,Tryz.ntmps94
  go_wp2_with (first|(refine wl_box S rfl rfl rfl ?_;clear S;intro b W S)|(refine g_load (ty:=70) rfl ?_;refine wl_load (ty:=70) S rfl rfl rfl (by repeat constructor) aggNu (by first|rw[nuC_size]|rw[nuF_size]|rfl) ?_)|(refine wl_val rfl (eqNu_run (X:=A) (Y:=0) hA ok_0 rfl rfl (by rw[H0.out];rfl)) ?_))
  go_ret
  exact⟨rfl,S.below⟩
def rowAt (n:Nat) (xs:List Nat) (v:Value) (w:World):Prop:=∃ g cap cur,v= .slice (some ⟨g,0,none⟩) n cap∧w.heap[g]? =some (.cells cur 3 (0,0))∧∀ j,j<n→cur[j]? =some (.int .i64 ((xs.getD j 0:Nat):Int))
theorem rowAt_stable (n:Nat) (xs:List Nat) (v:Value):Calm.Stable (rowAt n xs v):=fun w w' ⟨g,cap,cur,h1,h2,h3⟩ hb=>⟨g,cap,cur,h1,by rw[hb.block _ (Calm.lt_of_heap h2)];exact h2,h3⟩
theorem row1:∀ j,j<1→(#[.int .i64 0]:Array Value)[j]? =some (.int .i64 ((([0]:List Nat).getD j 0:Nat):Int)):=by
  intro j hj
  have:j=0:=by omega
  subst this
  rfl
theorem h_root:hvd (fun j=>lRoot.getD j 0) 252 252=e38:=by kernel_rfl
theorem ok_rx0 (s:Int):Ok (rx0 s):=ok_pm _ _
theorem rx_yes {s:Int} (h:rx0 s*rx0 s%pr=s):rx s=rx0 s:=by unfold rx;rw[if_pos h]
theorem rx_no {s:Int} (h:¬ rx0 s*rx0 s%pr=s):rx s=rx0 s*iNum%pr:=by unfold rx;rw[if_neg h]
theorem rx_bd (s:Int):0≤rx s∧rx s<pr:=by
  unfold rx rx0 pm pr
  split<;>omega
theorem ok_pr {s:Int} (hs:0≤s∧s<pr):Ok s:=by unfold Ok;unfold pr at hs;omega
set_option maxHeartbeats 2000000 in
theorem Rroot_c (s : Int) (hs : 0 ≤ s ∧ s < pr) (w : World) : Calls Tryz.prog 95 #[.agg (nuC s)] w fun e w' => e = .returned (.tuple #[.agg (nuC (absR (rx s))), .bool (decide (rx s * rx s % pr = s))]) ∧ Below w.heap.size w w' := by
  have S:=Calm.St.start w
  have hs':=ok_pr hs
  have HS:=hide hs
  clear hs
  go_enter Tryz.func95,Tryz.ntmps95
  go_wp2_with (first|(refine wl_box S rfl rfl rfl ?_;clear S;intro b W S)|(refine wl_new (ty:=70) S rfl rfl zeroNu ?_;clear S;intro b W S))
  rename_i bA _ _ _
  rename Nat=>bR
  refine Calm.region_new S 4 4 [(0,true),(1,false),(2,false),(3,false)] [(5,false)] [⟨bA,nuC s,70⟩] (by kernel_rfl) (by kernel_rfl) rfl zeroNu (by simp) (by intro c a d v w h;cases d<;>exact h) ?_
  refine wa_load (ty:=70) rfl (by rfl) rfl rfl (by repeat constructor) aggNu (by simp only[nuC_size]) ?_
  simp only[List.getElem_toArray,List.getElem_cons_succ,List.getElem_cons_zero,Act.put,Act.eval,zQ]
  refine wa_op (rowAt 1 [0]) rfl (by rfl) (rowAt_stable 1 [0]) ?_ ?_
  · intro W1 S1 _
    go_simp
    exact⟨Calm.alloc_below _ _,W1.heap.size,1, #[.int .i64 0],rfl,heap_alloc_new _ _,row1⟩
  intro v6 _
  simp only[List.getElem_toArray,List.getElem_cons_succ,List.getElem_cons_zero,Act.put,Act.eval,zQ]
  refine wa_call (rowAt 252 lRoot) (f:=97) rfl (by rfl) (fun w=>by go_simp;rfl) (rowAt_stable 252 lRoot) ?_ ?_
  · rintro W1 S1 ⟨_, g, cap, cur, rfl, hg, hc⟩
    refine(ones_c 252 (by omega) [0] (by decide) (by decide) g cap W1 ?_).mono ?_
    · intro j u hj
      rcases j with _|j
      · have h0 := hc 0 (by omega)
        simp at hj
        subst hj
        rw[show Addr.add ⟨g,0,none⟩ 0=⟨g,0,none⟩ from rfl,cell_of_row W1 g 0 cur _ _ hg]
        exact h0
      · simp at hj
    rintro e W2 ⟨v,rfl,hown,hb⟩
    have el:(([0] ++ List.replicate (252 - ([0]:List Int).length) 1:List Int)).map (Value.int .i64)=lRoot.map (fun x:Nat=>Value.int .i64 (x:Int)):=by kernel_rfl
    rw[el] at hown
    obtain⟨g',cap',cur',hv,hg',hc'⟩:=own_read hown (by omega)
    exact⟨v,rfl,hb,g',cap',cur',hv,hg',hc'⟩
  intro v7 _
  simp only[List.getElem_toArray,List.getElem_cons_succ,List.getElem_cons_zero,Act.put,Act.eval,zQ]
  refine wa_call (fun v _=>v= .agg (nuC (rx0 s))) (f:=96) rfl (by rfl) (fun w=>by go_simp;rfl) (fun v w w' h _=>h) ?_ ?_
  · rintro W1 S1 ⟨_, g, cap, cur, rfl, hg, hc⟩
    have hp:=Power_c s hs' (fun j=>lRoot.getD j 0) 252 (by omega) (fun j hj=>of_decide_eq_true (p:=∀ j,j<252→lRoot.getD j 0<2) (by kernel_rfl) j hj) g cap cur _ W1 hg hc
    rw[h_root] at hp
    exact hp.mono fun e w' ⟨he,hb⟩=>⟨_,he,hb,rfl⟩
  intro v8 _
  simp only[List.getElem_toArray,List.getElem_cons_succ,List.getElem_cons_zero,Act.put,Act.eval,zQ]
  intro b W1 S1 hF
  obtain⟨_,rfl⟩:=hF
  clear S
  have S:=S1
  clear S1
  refine Calm.whB_store (ty:=70) S rfl (by rfl) rfl rfl rfl (by repeat(first|exact foc_hd|apply foc_tl)) aggNu (by rw[nuC_size]) (by rw[nuF_size]) (nuF_one _) (by simp) ?_
  clear S
  intro W S
  simp only[List.getElem_toArray,List.getElem_cons_succ,List.getElem_cons_zero,Act.put,Act.eval,zQ]
  refine wh_nil ?_
  go_wp2_with (first|(refine wl_box S rfl rfl rfl ?_;clear S;intro b W S)|(refine wl_new (ty:=70) S rfl rfl zeroNu ?_;clear S;intro b W S)|(refine g_load (ty:=70) rfl ?_;refine wl_load (ty:=70) S rfl rfl rfl (by repeat constructor) aggNu (by first|rw[nuC_size]|rw[nuF_size]|rfl) ?_)|(refine g_store (ty:=70) rfl ?_;refine wl_store (ty:=70) S rfl rfl rfl rfl (by repeat(first|exact foc_hd|apply foc_tl)) aggNu (by first|rw[nuC_size]|rw[nuF_size]|rfl) (by first|rw[nuC_size]|rw[nuF_size]|rfl) (by first|exact nuF_one _|simp[Value.oneCell']) ?_;clear S;intro W S))
  by_cases hq:rx0 s*rx0 s%pr=s
  · have HQ : Hid ((!decide (rx0 s * rx0 s % pr = s)) = false) := by unfold Hid; rw [decide_eq_true hq]; rfl
    have HR:=hide (rx_yes hq)
    clear hq
    refine Calm.region0 S 5 (by kernel_rfl) (by kernel_rfl) (fun S=> ?_)
    repeat(first|(refine Calm.gn_load (ty:=70) rfl ?_;refine wn_load (ty:=70) S rfl (by rfl) rfl rfl (by repeat constructor) aggNu (by first|rw[nuC_size]|rw[nuF_size]) ?_;simp only[Act.put,Act.eval,zQ])|(apply wn_call (f:=72) rfl (by rfl) rfl;(intro w;go_simp;rfl);(intro w;exact RMul_c _ _ (ok_rx0 s) (ok_rx0 s) w);simp only[Act.put,Act.eval,zQ])|(refine wn_val rfl (by rfl) (neNu_run (v:=false) (ok_mod _) hs' HQ.out rfl rfl rfl) ?_;simp only[Act.put,Act.eval,zQ]))
    (refine wn_nil ?_;clear S;intro W S;simp only[Act.put,List.setIfInBounds_toArray,List.set_cons_zero,List.set_cons_succ,List.drop_succ_cons,List.drop_zero,List.drop_nil])
    rw[← HR.out] at S
    clear HR HQ
    go_wp2_with (first|(refine wl_box S rfl rfl rfl ?_;clear S;intro b W S)|(refine wl_new (ty:=70) S rfl rfl zeroNu ?_;clear S;intro b W S)|(refine g_load (ty:=70) rfl ?_;refine wl_load (ty:=70) S rfl rfl rfl (by repeat constructor) aggNu (by first|rw[nuC_size]|rw[nuF_size]|rfl) ?_)|(refine g_store (ty:=70) rfl ?_;refine wl_store (ty:=70) S rfl rfl rfl rfl (by repeat(first|exact foc_hd|apply foc_tl)) aggNu (by first|rw[nuC_size]|rw[nuF_size]|rfl) (by first|rw[nuC_size]|rw[nuF_size]|rfl) (by first|exact nuF_one _|simp[Value.oneCell']) ?_;clear S;intro W S))
    refine Calm.region_sched S [(0,true),(2,true),(3,true),(5,true),(1,false),(4,false),(6,true),(7,false),(8,false)] [⟨b,nuC (rx s),70⟩,⟨bA,nuC s,70⟩] (by kernel_rfl) (by kernel_rfl) (by simp) (by intro c a d v w h;cases d<;>exact h) (fun S=> ?_)
    iterate 4 (refine wh_load (ty:=70) rfl (by rfl) rfl rfl (by repeat constructor) aggNu (by simp only[nuC_size]) ?_;simp only[List.getElem_toArray,List.getElem_cons_succ,List.getElem_cons_zero,Act.put,Act.eval,zQ])
    apply Calm.whB_call (f:=81) S (by simp) rfl (by rfl) rfl;(intro w;go_simp;rfl);(intro w;exact RAbs_c _ (rx_bd s) w);clear S;intro W S;simp only[List.getElem_toArray,List.getElem_cons_succ,List.getElem_cons_zero,Act.put,Act.eval,zQ]
    apply Calm.whB_call (f:=72) S (by simp) rfl (by rfl) rfl;(intro w;go_simp;rfl);(intro w;exact RMul_c _ _ (ok_pr (rx_bd s)) (ok_pr (rx_bd s)) w);clear S;intro W S;simp only[List.getElem_toArray,List.getElem_cons_succ,List.getElem_cons_zero,Act.put,Act.eval,zQ]
    refine wh_val rfl (by rfl) (eqNu_run (ok_mod _) hs' rfl rfl rfl) ?_
    simp only[List.getElem_toArray,List.getElem_cons_succ,List.getElem_cons_zero,Act.put,Act.eval,zQ]
    refine Calm.whB_store (ty:=70) S rfl (by rfl) rfl rfl rfl (by repeat(first|exact foc_hd|apply foc_tl)) aggNu (by rw[nuC_size]) (by rw[nuF_size]) (nuF_one _) (by simp) ?_
    clear S
    intro W S
    simp only[List.getElem_toArray,List.getElem_cons_succ,List.getElem_cons_zero,Act.put,Act.eval,zQ]
    refine Calm.whB_val (v:= .bool (decide (rx s*rx s%pr=s))) S (by simp) rfl (by rfl) (fun w=>by rfl) ?_
    simp only[List.getElem_toArray,List.getElem_cons_succ,List.getElem_cons_zero,Act.put,Act.eval,zQ]
    refine wh_nil ?_
    go_wp2_with (first|(refine wl_box S rfl rfl rfl ?_;clear S;intro b W S)|(refine wl_new (ty:=70) S rfl rfl zeroNu ?_;clear S;intro b W S)|(refine g_load (ty:=70) rfl ?_;refine wl_load (ty:=70) S rfl rfl rfl (by repeat constructor) aggNu (by first|rw[nuC_size]|rw[nuF_size]|rfl) ?_)|(refine g_store (ty:=70) rfl ?_;refine wl_store (ty:=70) S rfl rfl rfl rfl (by repeat(first|exact foc_hd|apply foc_tl)) aggNu (by first|rw[nuC_size]|rw[nuF_size]|rfl) (by first|rw[nuC_size]|rw[nuF_size]|rfl) (by first|exact nuF_one _|simp[Value.oneCell']) ?_;clear S;intro W S))
    refine ret_tuple (v:= .bool (decide (rx s*rx s%pr=s))) S (by rfl) (by rfl) (by repeat constructor) aggNu (by rw[nuC_size]) (by rfl) (by rfl) ?_
    exact⟨rfl,S.below⟩
  · have HQ : Hid ((!decide (rx0 s * rx0 s % pr = s)) = true) := by unfold Hid; rw [decide_eq_false hq]; rfl
    have HR:=hide (rx_no hq)
    clear hq
    refine Calm.region0 S 5 (by kernel_rfl) (by kernel_rfl) (fun S=> ?_)
    repeat(first|(refine Calm.gn_load (ty:=70) rfl ?_;refine wn_load (ty:=70) S rfl (by rfl) rfl rfl (by repeat constructor) aggNu (by first|rw[nuC_size]|rw[nuF_size]) ?_;simp only[Act.put,Act.eval,zQ])|(apply wn_call (f:=72) rfl (by rfl) rfl;(intro w;go_simp;rfl);(intro w;exact RMul_c _ _ (ok_rx0 s) (ok_rx0 s) w);simp only[Act.put,Act.eval,zQ])|(refine wn_val rfl (by rfl) (neNu_run (v:=true) (ok_mod _) hs' HQ.out rfl rfl rfl) ?_;simp only[Act.put,Act.eval,zQ]))
    (refine wn_nil ?_;clear S;intro W S;simp only[Act.put,List.setIfInBounds_toArray,List.set_cons_zero,List.set_cons_succ,List.drop_succ_cons,List.drop_zero,List.drop_nil])
    go_wp2_with (first|(refine wl_box S rfl rfl rfl ?_;clear S;intro b W S)|(refine wl_new (ty:=70) S rfl rfl zeroNu ?_;clear S;intro b W S)|(refine g_load (ty:=70) rfl ?_;refine wl_load (ty:=70) S rfl rfl rfl (by repeat constructor) aggNu (by first|rw[nuC_size]|rw[nuF_size]|rfl) ?_)|(refine g_store (ty:=70) rfl ?_;refine wl_store (ty:=70) S rfl rfl rfl rfl (by repeat(first|exact foc_hd|apply foc_tl)) aggNu (by first|rw[nuC_size]|rw[nuF_size]|rfl) (by first|rw[nuC_size]|rw[nuF_size]|rfl) (by first|exact nuF_one _|simp[Value.oneCell']) ?_;clear S;intro W S))
    refine Calm.region0 S 3 (by kernel_rfl) (by kernel_rfl) (fun S=> ?_)
    repeat(first|(refine Calm.gn_load (ty:=70) rfl ?_;refine wn_load (ty:=70) S rfl (by rfl) rfl rfl (by repeat constructor) aggNu (by first|rw[nuC_size]|rw[nuF_size]) ?_;simp only[Act.put,Act.eval,zQ])|(apply wn_call (f:=77) rfl (by rfl) rfl;(intro w;go_simp;rfl);(intro w;exact RI_c w);simp only[Act.put,Act.eval,zQ])|(apply wn_call (f:=72) rfl (by rfl) rfl;(intro w;go_simp;rfl);(intro w;exact RMul_c _ _ (ok_rx0 s) ok_i w);simp only[Act.put,Act.eval,zQ]))
    (refine wn_nil ?_;clear S;intro W S;simp only[Act.put,List.setIfInBounds_toArray,List.set_cons_zero,List.set_cons_succ,List.drop_succ_cons,List.drop_zero,List.drop_nil])
    go_wp2_with ((refine g_store (ty:=70) rfl ?_;refine wl_store (ty:=70) S rfl rfl rfl rfl (by repeat(first|exact foc_hd|apply foc_tl)) aggNu (by first|rw[nuC_size]|rw[nuF_size]|rfl) (by first|rw[nuC_size]|rw[nuF_size]|rfl) (by first|exact nuF_one _|simp[Value.oneCell']) ?_;clear S;intro W S))
    rw[← HR.out] at S
    clear HR HQ
    refine Calm.region_sched S [(0,true),(2,true),(3,true),(5,true),(1,false),(4,false),(6,true),(7,false),(8,false)] [⟨b,nuC (rx s),70⟩,⟨bA,nuC s,70⟩] (by kernel_rfl) (by kernel_rfl) (by simp) (by intro c a d v w h;cases d<;>exact h) (fun S=> ?_)
    iterate 4 (refine wh_load (ty:=70) rfl (by rfl) rfl rfl (by repeat constructor) aggNu (by simp only[nuC_size]) ?_;simp only[List.getElem_toArray,List.getElem_cons_succ,List.getElem_cons_zero,Act.put,Act.eval,zQ])
    apply Calm.whB_call (f:=81) S (by simp) rfl (by rfl) rfl;(intro w;go_simp;rfl);(intro w;exact RAbs_c _ (rx_bd s) w);clear S;intro W S;simp only[List.getElem_toArray,List.getElem_cons_succ,List.getElem_cons_zero,Act.put,Act.eval,zQ]
    apply Calm.whB_call (f:=72) S (by simp) rfl (by rfl) rfl;(intro w;go_simp;rfl);(intro w;exact RMul_c _ _ (ok_pr (rx_bd s)) (ok_pr (rx_bd s)) w);clear S;intro W S;simp only[List.getElem_toArray,List.getElem_cons_succ,List.getElem_cons_zero,Act.put,Act.eval,zQ]
    refine wh_val rfl (by rfl) (eqNu_run (ok_mod _) hs' rfl rfl rfl) ?_
    simp only[List.getElem_toArray,List.getElem_cons_succ,List.getElem_cons_zero,Act.put,Act.eval,zQ]
    refine Calm.whB_store (ty:=70) S rfl (by rfl) rfl rfl rfl (by repeat(first|exact foc_hd|apply foc_tl)) aggNu (by rw[nuC_size]) (by rw[nuF_size]) (nuF_one _) (by simp) ?_
    clear S
    intro W S
    simp only[List.getElem_toArray,List.getElem_cons_succ,List.getElem_cons_zero,Act.put,Act.eval,zQ]
    refine Calm.whB_val (v:= .bool (decide (rx s*rx s%pr=s))) S (by simp) rfl (by rfl) (fun w=>by rfl) ?_
    simp only[List.getElem_toArray,List.getElem_cons_succ,List.getElem_cons_zero,Act.put,Act.eval,zQ]
    refine wh_nil ?_
    go_wp2_with (first|(refine wl_box S rfl rfl rfl ?_;clear S;intro b W S)|(refine wl_new (ty:=70) S rfl rfl zeroNu ?_;clear S;intro b W S)|(refine g_load (ty:=70) rfl ?_;refine wl_load (ty:=70) S rfl rfl rfl (by repeat constructor) aggNu (by first|rw[nuC_size]|rw[nuF_size]|rfl) ?_)|(refine g_store (ty:=70) rfl ?_;refine wl_store (ty:=70) S rfl rfl rfl rfl (by repeat(first|exact foc_hd|apply foc_tl)) aggNu (by first|rw[nuC_size]|rw[nuF_size]|rfl) (by first|rw[nuC_size]|rw[nuF_size]|rfl) (by first|exact nuF_one _|simp[Value.oneCell']) ?_;clear S;intro W S))
    refine ret_tuple (v:= .bool (decide (rx s*rx s%pr=s))) S (by rfl) (by rfl) (by repeat constructor) aggNu (by rw[nuC_size]) (by rfl) (by rfl) ?_
    exact⟨rfl,S.below⟩
end Go.Proofs.YtdebkddhpogkgaaGreat
