import Derived.Test.YtdebkddhpogkgaaGreatZASarsRRoot
set_option linter.unusedSimpArgs false
namespace Go.Proofs.YtdebkddhpogkgaaGreat
open Go.RowKit Go.Calm
def rootWay (u v r:Int) (ok:Bool):Prop:=(u=0∧r=0∧ok=true)∨(¬ u=0∧v=0∧r=0∧ok=false)∨(¬ u=0∧¬ v=0∧rx (quo u v)*rx (quo u v)%pr=quo u v∧r=absR (rx (quo u v))∧ok=true)∨(¬ u=0∧¬ v=0∧¬ rx (quo u v)*rx (quo u v)%pr=quo u v∧r=absR (rx (quo u v*iNum%pr))∧ok=false)
theorem quo_bd (u v:Int):0≤quo u v∧quo u v<pr:=by unfold quo pr;omega
theorem mod_bd (n:Int):0≤n%pr∧n%pr<pr:=by unfold pr;omega
set_option maxHeartbeats 2000000 in
theorem RRoot_c (u v r:Int) (ok:Bool) (hu:0≤u∧u<pr) (hv:0≤v∧v<pr) (hc:rootWay u v r ok) (w:World):Calls Tryz.prog 75 #[.agg (nuC u),.agg (nuC v)] w fun e w'=>e= .returned (.tuple #[.agg (nuC r),.bool ok])∧Below w.heap.size w w':=by
  have S:=Calm.St.start w
  have hu':=ok_pr hu
  have hv':=ok_pr hv
  have H0:=hide nuC_0
  have HC:=hide hc
  clear hu hv hc
  go_enter Tryz.func75,Tryz.ntmps75
  go_wp2_with (first|(refine wl_box S rfl rfl rfl ?_;clear S;intro b W S)|(refine wl_new (ty:=70) S rfl rfl zeroNu ?_;clear S;intro b W S)|(refine g_load (ty:=70) rfl ?_;refine wl_load (ty:=70) S rfl rfl rfl (by repeat constructor) aggNu (by first|rw[nuC_size]|rw[nuF_size]|rfl) ?_))
  rename_i bU _ bV _ _ _ _ _
  rename Nat=>bR
  refine(RZero_c u hu' _).mono ?_
  rintro e W1 ⟨he,hb⟩
  have S:=S.call hb
  clear hb
  rcases HC.out with⟨h1,h2,h3⟩|⟨h1,h2,h3,h4⟩|⟨h1,h2,h3,h4,h5⟩|⟨h1,h2,h3,h4,h5⟩
  · rw [decide_eq_true h1] at he
    subst he h2 h3
    clear h1
    go_wp2_with ((refine g_store (ty:=70) rfl ?_;refine wl_store (ty:=70) S rfl rfl rfl rfl (by repeat(first|exact foc_hd|apply foc_tl)) aggNu (by first|rw[nuC_size]|rw[nuF_size]|rfl) (by first|rw[nuC_size]|rw[nuF_size]|rfl) (by first|exact nuF_one _|simp[Value.oneCell']) ?_;clear S;intro W S))
    rw[← H0.out] at S
    refine ret_tuple (v:= .bool true) S (by rfl) (by rfl) (by repeat constructor) aggNu (by rw[nuC_size]) (by rfl) (by rfl) ?_
    exact⟨rfl,S.below⟩
  · rw [decide_eq_false h1] at he
    subst he h3 h4
    have E2:=hide (decide_eq_true h2)
    clear h1 h2
    go_wp2_with ((refine g_load (ty:=70) rfl ?_;refine wl_load (ty:=70) S rfl rfl rfl (by repeat constructor) aggNu (by first|rw[nuC_size]|rw[nuF_size]|rfl) ?_))
    refine(RZero_c v hv' _).mono ?_
    rintro e W1 ⟨he,hb⟩
    have S:=S.call hb
    clear hb
    rw[E2.out] at he
    subst he
    go_wp2_with ((refine g_store (ty:=70) rfl ?_;refine wl_store (ty:=70) S rfl rfl rfl rfl (by repeat(first|exact foc_hd|apply foc_tl)) aggNu (by first|rw[nuC_size]|rw[nuF_size]|rfl) (by first|rw[nuC_size]|rw[nuF_size]|rfl) (by first|exact nuF_one _|simp[Value.oneCell']) ?_;clear S;intro W S))
    rw[← H0.out] at S
    refine ret_tuple (v:= .bool false) S (by rfl) (by rfl) (by repeat constructor) aggNu (by rw[nuC_size]) (by rfl) (by rfl) ?_
    exact⟨rfl,S.below⟩
  · rw [decide_eq_false h1] at he
    subst he h5
    have HR:=hide h4
    have e3:=decide_eq_true h3
    have E3:=hide e3
    have E2:=hide (decide_eq_false h2)
    clear h1 h2 h3 h4 e3
    go_wp2_with ((refine g_load (ty:=70) rfl ?_;refine wl_load (ty:=70) S rfl rfl rfl (by repeat constructor) aggNu (by first|rw[nuC_size]|rw[nuF_size]|rfl) ?_))
    refine(RZero_c v hv' _).mono ?_
    rintro e W1 ⟨he,hb⟩
    have S:=S.call hb
    clear hb
    rw[E2.out] at he
    subst he
    go_wp2_with (first|(refine wl_box S rfl rfl rfl ?_;clear S;intro b W S)|(refine wl_new (ty:=70) S rfl rfl zeroNu ?_;clear S;intro b W S)|(refine g_load (ty:=70) rfl ?_;refine wl_load (ty:=70) S rfl rfl rfl (by repeat constructor) aggNu (by first|rw[nuC_size]|rw[nuF_size]|rfl) ?_)|(refine g_store (ty:=70) rfl ?_;refine wl_store (ty:=70) S rfl rfl rfl rfl (by repeat(first|exact foc_hd|apply foc_tl)) aggNu (by first|rw[nuC_size]|rw[nuF_size]|rfl) (by first|rw[nuC_size]|rw[nuF_size]|rfl) (by first|exact nuF_one _|simp[Value.oneCell']) ?_;clear S;intro W S))
    refine Calm.region1 S 5 4 6 (nuF fun _=>0) 70 (by kernel_rfl) (by kernel_rfl) rfl rfl zeroNu (fun S=> ?_)
    repeat(first|(refine wn_skip rfl ?_)|(refine Calm.gn_load (ty:=70) rfl ?_;refine wn_load (ty:=70) S rfl (by rfl) rfl rfl (by repeat constructor) aggNu (by first|rw[nuC_size]|rw[nuF_size]) ?_;simp only[Act.put,Act.eval,zQ])|(apply wn_call (f:=83) rfl (by rfl) rfl;(intro w;go_simp;rfl);(intro w;exact RInv_c _ hv' w);simp only[Act.put,Act.eval,zQ])|(apply wn_call (f:=72) rfl (by rfl) rfl;(intro w;go_simp;rfl);(intro w;exact RMul_c _ _ hu' (ok_pm _ _) w);simp only[Act.put,Act.eval,zQ]))
    (refine wn_nil ?_;clear S;intro b W S;simp only[Act.put,List.setIfInBounds_toArray,List.set_cons_zero,List.set_cons_succ,List.drop_succ_cons,List.drop_zero,List.drop_nil])
    go_wp2_with (first|(refine g_load (ty:=70) rfl ?_;refine wl_load (ty:=70) S rfl rfl rfl (by repeat constructor) aggNu (by first|rw[nuC_size]|rw[nuF_size]|rfl) ?_)|(refine g_store (ty:=70) rfl ?_;refine wl_store (ty:=70) S rfl rfl rfl rfl (by repeat(first|exact foc_hd|apply foc_tl)) aggNu (by first|rw[nuC_size]|rw[nuF_size]|rfl) (by first|rw[nuC_size]|rw[nuF_size]|rfl) (by first|exact nuF_one _|simp[Value.oneCell']) ?_;clear S;intro W S))
    rw[show u*pm v eInv.toNat%pr=quo u v from rfl] at S
    refine(Rroot_c (quo u v) (quo_bd u v) _).mono ?_
    rintro e W1 ⟨he,hb⟩
    have S:=S.call hb
    clear hb
    rw[E3.out] at he
    subst he
    go_wp2_with (first|(refine wl_new (ty:=70) S rfl rfl zeroNu ?_;clear S;intro b W S)|(refine g_load (ty:=70) rfl ?_;refine wl_load (ty:=70) S rfl rfl rfl (by repeat constructor) aggNu (by first|rw[nuC_size]|rw[nuF_size]|rfl) ?_)|(refine g_store (ty:=70) rfl ?_;refine wl_store (ty:=70) S rfl rfl rfl rfl (by repeat(first|exact foc_hd|apply foc_tl)) aggNu (by first|rw[nuC_size]|rw[nuF_size]|rfl) (by first|rw[nuC_size]|rw[nuF_size]|rfl) (by first|exact nuF_one _|simp[Value.oneCell']) ?_;clear S;intro W S))
    refine ret_tuple (v:= .bool true) S (by rfl) (by rfl) (by repeat constructor) aggNu (by rw[nuC_size]) (by rfl) (by rfl) ?_
    exact⟨by rw[HR.out],S.below⟩
  · rw [decide_eq_false h1] at he
    subst he h5
    have HR:=hide h4
    have e3:=decide_eq_false h3
    have E3:=hide e3
    have E2:=hide (decide_eq_false h2)
    clear h1 h2 h3 h4 e3
    go_wp2_with ((refine g_load (ty:=70) rfl ?_;refine wl_load (ty:=70) S rfl rfl rfl (by repeat constructor) aggNu (by first|rw[nuC_size]|rw[nuF_size]|rfl) ?_))
    refine(RZero_c v hv' _).mono ?_
    rintro e W1 ⟨he,hb⟩
    have S:=S.call hb
    clear hb
    rw[E2.out] at he
    subst he
    go_wp2_with (first|(refine wl_box S rfl rfl rfl ?_;clear S;intro b W S)|(refine wl_new (ty:=70) S rfl rfl zeroNu ?_;clear S;intro b W S)|(refine g_load (ty:=70) rfl ?_;refine wl_load (ty:=70) S rfl rfl rfl (by repeat constructor) aggNu (by first|rw[nuC_size]|rw[nuF_size]|rfl) ?_)|(refine g_store (ty:=70) rfl ?_;refine wl_store (ty:=70) S rfl rfl rfl rfl (by repeat(first|exact foc_hd|apply foc_tl)) aggNu (by first|rw[nuC_size]|rw[nuF_size]|rfl) (by first|rw[nuC_size]|rw[nuF_size]|rfl) (by first|exact nuF_one _|simp[Value.oneCell']) ?_;clear S;intro W S))
    refine Calm.region1 S 5 4 6 (nuF fun _=>0) 70 (by kernel_rfl) (by kernel_rfl) rfl rfl zeroNu (fun S=> ?_)
    repeat(first|(refine wn_skip rfl ?_)|(refine Calm.gn_load (ty:=70) rfl ?_;refine wn_load (ty:=70) S rfl (by rfl) rfl rfl (by repeat constructor) aggNu (by first|rw[nuC_size]|rw[nuF_size]) ?_;simp only[Act.put,Act.eval,zQ])|(apply wn_call (f:=83) rfl (by rfl) rfl;(intro w;go_simp;rfl);(intro w;exact RInv_c _ hv' w);simp only[Act.put,Act.eval,zQ])|(apply wn_call (f:=72) rfl (by rfl) rfl;(intro w;go_simp;rfl);(intro w;exact RMul_c _ _ hu' (ok_pm _ _) w);simp only[Act.put,Act.eval,zQ]))
    (refine wn_nil ?_;clear S;intro b W S;simp only[Act.put,List.setIfInBounds_toArray,List.set_cons_zero,List.set_cons_succ,List.drop_succ_cons,List.drop_zero,List.drop_nil])
    go_wp2_with (first|(refine g_load (ty:=70) rfl ?_;refine wl_load (ty:=70) S rfl rfl rfl (by repeat constructor) aggNu (by first|rw[nuC_size]|rw[nuF_size]|rfl) ?_)|(refine g_store (ty:=70) rfl ?_;refine wl_store (ty:=70) S rfl rfl rfl rfl (by repeat(first|exact foc_hd|apply foc_tl)) aggNu (by first|rw[nuC_size]|rw[nuF_size]|rfl) (by first|rw[nuC_size]|rw[nuF_size]|rfl) (by first|exact nuF_one _|simp[Value.oneCell']) ?_;clear S;intro W S))
    rw[show u*pm v eInv.toNat%pr=quo u v from rfl] at S
    rename Nat=>bW
    refine(Rroot_c (quo u v) (quo_bd u v) _).mono ?_
    rintro e W1 ⟨he,hb⟩
    have S:=S.call hb
    clear hb
    rw[E3.out] at he
    subst he
    go_wp2_with (first|(refine wl_new (ty:=70) S rfl rfl zeroNu ?_;clear S;intro b W S)|(refine g_store (ty:=70) rfl ?_;refine wl_store (ty:=70) S rfl rfl rfl rfl (by repeat(first|exact foc_hd|apply foc_tl)) aggNu (by first|rw[nuC_size]|rw[nuF_size]|rfl) (by first|rw[nuC_size]|rw[nuF_size]|rfl) (by first|exact nuF_one _|simp[Value.oneCell']) ?_;clear S;intro W S))
    refine Calm.region_sched S [(0,true),(1,false),(2,false),(3,false),(4,true),(5,true),(6,true),(7,false)] [⟨bW,nuC (quo u v),70⟩] (by kernel_rfl) (by kernel_rfl) (by simp) (by intro c a d v w h;cases d<;>exact h) (fun S=> ?_)
    refine wh_load (ty:=70) rfl (by rfl) rfl rfl (by repeat constructor) aggNu (by simp only[nuC_size]) ?_
    simp only[List.getElem_toArray,List.getElem_cons_succ,List.getElem_cons_zero,Act.put,Act.eval,zQ]
    apply Calm.whB_call (f:=77) S (by simp) rfl (by rfl) rfl;(intro w;go_simp;rfl);(intro w;exact RI_c w);clear S;intro W S;simp only[List.getElem_toArray,List.getElem_cons_succ,List.getElem_cons_zero,Act.put,Act.eval,zQ]
    apply Calm.whB_call (f:=72) S (by simp) rfl (by rfl) rfl;(intro w;go_simp;rfl);(intro w;exact RMul_c _ _ (ok_pr (quo_bd u v)) ok_i w);clear S;intro W S;simp only[List.getElem_toArray,List.getElem_cons_succ,List.getElem_cons_zero,Act.put,Act.eval,zQ]
    apply Calm.whB_call (f:=95) S (by simp) rfl (by rfl) rfl;(intro w;go_simp;rfl);(intro w;exact Rroot_c _ (mod_bd _) w);clear S;intro W S;simp only[List.getElem_toArray,List.getElem_cons_succ,List.getElem_cons_zero,Act.put,Act.eval,zQ]
    iterate 3 (apply wh_val rfl (by rfl);(intro w;go_simp;rfl);simp only[List.getElem_toArray,List.getElem_cons_succ,List.getElem_cons_zero,Act.put,Act.eval,zQ])
    refine Calm.whB_store (ty:=70) S rfl (by rfl) rfl rfl rfl (by repeat(first|exact foc_hd|apply foc_tl)) aggNu (by rw[nuC_size]) (by rw[nuC_size]) (nuF_one _) (by simp) ?_
    clear S
    intro W S
    simp only[List.getElem_toArray,List.getElem_cons_succ,List.getElem_cons_zero,Act.put,Act.eval,zQ]
    refine wh_nil ?_
    go_wp2_with (first|(refine g_load (ty:=70) rfl ?_;refine wl_load (ty:=70) S rfl rfl rfl (by repeat constructor) aggNu (by first|rw[nuC_size]|rw[nuF_size]|rfl) ?_)|(refine g_store (ty:=70) rfl ?_;refine wl_store (ty:=70) S rfl rfl rfl rfl (by repeat(first|exact foc_hd|apply foc_tl)) aggNu (by first|rw[nuC_size]|rw[nuF_size]|rfl) (by first|rw[nuC_size]|rw[nuF_size]|rfl) (by first|exact nuF_one _|simp[Value.oneCell']) ?_;clear S;intro W S))
    refine ret_tuple (v:= .bool false) S (by rfl) (by rfl) (by repeat constructor) aggNu (by rw[nuC_size]) (by rfl) (by rfl) ?_
    exact⟨by rw[HR.out],S.below⟩
end Go.Proofs.YtdebkddhpogkgaaGreat
