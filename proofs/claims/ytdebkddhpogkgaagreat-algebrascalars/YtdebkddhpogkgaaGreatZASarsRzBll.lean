import Derived.Test.YtdebkddhpogkgaaGreatZASarsRzRest
import Derived.Test.YtdebkddhpogkgaaGreatZASarsRzAll
set_option linter.unusedSimpArgs false
namespace Go.Proofs.YtdebkddhpogkgaaGreat
open Go.RowKit Go.Calm Go.Arr
theorem wd_0:arr .u64 4 (dig 18446744073709551616 0)= #[.int .u64 0,.int .u64 0,.int .u64 0,.int .u64 0]:=by kernel_rfl
theorem wd_el:arr .u64 4 (dig 18446744073709551616 el)= #[.int .u64 6346243789798364141,.int .u64 1503914060200516822,.int .u64 0,.int .u64 1152921504606846976]:=by kernel_rfl
theorem ok8_0:Ok8 0:=by unfold Ok8;omega
theorem sum_ok {A B:Int} (hA:Ok8 A) (hB:Ok8 B):0≤A+B∧A+B<18446744073709551616 ^ 8:=by rw[m_8];unfold Ok8 at *; omega
theorem prod_ok {A B:Int} (hA:Ok8 A) (hB:Ok8 B):0≤A*B∧A*B<18446744073709551616 ^ 8:=by
  unfold Ok8 at*
  refine⟨Int.mul_nonneg hA.1 hB.1,?_⟩
  have h:=Int.mul_le_mul (show A≤115792089237316195423570985008687907853269984665640564039457584007913129639936 - 1 by omega) (show B≤115792089237316195423570985008687907853269984665640564039457584007913129639936 - 1 by omega) hB.1 (by omega)
  rw[m_8]
  exact Int.lt_of_le_of_lt h (by decide)
def mixG (h g:Nat→Int) (k:Nat) (j:Nat):Int:=if j<k then g j else h j
theorem mix_at (n:Nat) (h g:Nat→Int) (k:Nat) (hk:k<n):(arr .u64 n (mixG h g k))[k]? =some (.int .u64 (h k)):=by rw[arr_at _ _ _ k hk];simp[mixG]
theorem mix_set (n:Nat) (h g:Nat→Int) (k:Nat) (s:Int):arr .u64 n (mixG h (gset g k s) (k+1))=(arr .u64 n (mixG h g k)).setIfInBounds k (.int .u64 s):=by
  rw[← arr_set]
  refine arr_ext fun j _=> ?_
  by_cases e:j=k
  · subst e;rw[gset_eq];unfold mixG;rw[if_pos (by omega),gset_eq]
  · rw [gset_ne _ _ _ e]
    unfold mixG
    by_cases hl:j<k
    · rw[if_pos hl,if_pos (by omega),gset_ne _ _ _ e]
    · rw[if_neg hl,if_neg (by omega)]
theorem neg_end (R:Int) (g:Nat→Int) (c:Int) (hR:0≤R∧R<el) (H:Br 18446744073709551616 (dig 18446744073709551616 el) (dig 18446744073709551616 R) g c 4):arr .u64 4 (mixG (dig 18446744073709551616 el) g 4)=arr .u64 4 (dig 18446744073709551616 (el - R)):=by
  rw[arr_ext (g:=mixG (dig 18446744073709551616 el) g 4) (h:=g) (fun j hj=>by unfold mixG;rw[if_pos hj]),arr_num M_pos .u64 4 g H.lo]
  have he:=H.eq
  have h0:=H.c0
  have h1:=H.c1
  have hb:=vB_bd M_pos g 4 H.lo
  rw[dig_v M_pos el 4 (by unfold el;omega) (by rw[m_4];unfold el;omega),dig_v M_pos R 4 hR.1 (by rw[m_4];unfold el at hR;omega),m_4] at he
  rw[m_4] at hb
  have:c=0∨c=1:=by omega
  rcases this with rfl|rfl
  · rw[show vB 18446744073709551616 g 4=el - R by omega]
  · omega
set_option maxHeartbeats 1000000 in
theorem negative_c (A:Int) (hA:Ok8 A) (w:World):Calls Tryz.prog 36 #[.agg (arr .u64 4 (dig 18446744073709551616 A))] w fun e w'=>e= .returned (.agg (arr .u64 4 (dig 18446744073709551616 (el - A%el))))∧Below w.heap.size w w':=by
  have S:=Calm.St.start w
  have hs:=fun w=>sum_c A 0 hA ok8_0 w
  rw[wd_0,Int.add_zero] at hs
  have Hs:=hide hs
  have HW:=hide wd_el
  clear hs
  go_enter Tryz.func36,Tryz.ntmps36
  go_wp2_with (first|(refine wl_box S rfl rfl rfl ?_;clear S;intro b W S)|(refine wl_new (ty:=44) S rfl rfl zeroWd ?_;clear S;intro b W S)|(refine g_load (ty:=44) rfl ?_;refine wl_load (ty:=44) S rfl rfl rfl (by repeat constructor) aggWd (by first|exact(Go.Arr.arr_size _ _ _).symm|rfl) ?_))
  rename_i bA _ _ _ _ _
  rename Nat=>bR
  refine(Hs.out _).mono ?_
  rintro e W1 ⟨rfl,hb⟩
  have S:=S.call hb
  clear hb
  go_wp2_with (first|(refine wl_box S rfl rfl rfl ?_;clear S;intro b W S)|(refine wl_new (ty:=44) S rfl rfl zeroWd ?_;clear S;intro b W S)|(refine g_load (ty:=44) rfl ?_;refine wl_load (ty:=44) S rfl rfl rfl (by repeat constructor) aggWd (by first|exact(Go.Arr.arr_size _ _ _).symm|rfl) ?_)|(refine g_store (ty:=44) rfl ?_;refine wl_store (ty:=44) S rfl rfl rfl rfl (by repeat(first|exact foc_hd|apply foc_tl)) aggWd (by first|exact(Go.Arr.arr_size _ _ _).symm|rfl) (by first|exact(Go.Arr.arr_size _ _ _).symm|rfl) (by first|exact Go.Arr.arr_one _ _ _|rfl|simp[Value.oneCell']) ?_;clear S;intro W S))
  refine(rest_c A (by have:=sum_ok hA ok8_0;simpa using this) _).mono ?_
  rintro e W1 ⟨rfl,hb⟩
  have S:=S.call hb
  clear hb
  go_wp2_with (first|(refine wl_new (ty:=44) S rfl rfl zeroWd ?_;clear S;intro b W S)|(refine g_store (ty:=44) rfl ?_;refine wl_store (ty:=44) S rfl rfl rfl rfl (by repeat(first|exact foc_hd|apply foc_tl)) aggWd (by first|exact(Go.Arr.arr_size _ _ _).symm|rfl) (by first|exact(Go.Arr.arr_size _ _ _).symm|rfl) (by first|exact Go.Arr.arr_one _ _ _|rfl|simp[Value.oneCell']) ?_;clear S;intro W S))
  rw[← HW.out] at S
  rename_i K hK
  go_loopw [11,4] (fun v cc Wr=>∃(k:Nat) (g:Nat→Int) (c:Int),k≤4∧v= .int .i64 k∧cc= .int .u64 c∧Br 18446744073709551616 (dig 18446744073709551616 el) (dig 18446744073709551616 (A%el)) g c k∧Calm.St w Wr [⟨b,arr .u64 4 (mixG (dig 18446744073709551616 el) g k),44⟩,⟨bR,arr .u64 4 (fun _=>0),44⟩,⟨bA,arr .u64 4 (dig 18446744073709551616 (A%el)),44⟩]) (fun v _ _=>4 - (intOf v).toNat)
  case atStart=>exact⟨0,fun _=>0,0,by omega,rfl,rfl,⟨fun j h=>by omega,by omega,by omega,by simp[vB]⟩,by rw[show arr .u64 4 (mixG (dig 18446744073709551616 el) (fun _=>0) 0)=arr .u64 4 (dig 18446744073709551616 el) from arr_ext fun j _=>by simp[mixG]];exact S⟩
  case round =>
    clear S
    obtain⟨k,g,c,hk,rfl,rfl,hC,S⟩:=hrel
    by_cases hlt:k<4
    · have g5 : (k : Int) < 4 := by omega
      have ba:=dig_bd M_pos el k
      have bb:=dig_bd M_pos (A%el) k
      obtain⟨s,o,hs,s0,s1,o0,o1,HS⟩:=difE (dig 18446744073709551616 el k) (dig 18446744073709551616 (A%el) k) c ba.1 ba.2 bb.1 bb.2 hC.c0 hC.c1
      have Hs:=hide hs
      have Ha:=hide (mix_at 4 (dig 18446744073709551616 el) g k hlt)
      have Hb:=hide (arr_at .u64 4 (dig 18446744073709551616 (A%el)) k hlt)
      clear hs
      go_wp2_with fail
      refine Calm.region_sched S [(0,true),(1,true),(2,true),(4,true),(5,true),(6,true),(7,true),(3,false),(8,true),(9,true),(10,true),(11,true),(12,true),(13,false),(14,true)] [⟨bA,arr .u64 4 (dig 18446744073709551616 (A%el)),44⟩] (by kernel_rfl) (by kernel_rfl) (by simp) (by intro c a d v w h;cases d<;>exact h) (fun S=> ?_)
      iterate 5 (apply wh_val rfl (by rfl);(intro w;go_simp;rfl);simp only[List.getElem_toArray,List.getElem_cons_succ,List.getElem_cons_zero,Act.put,Act.eval,zQ])
      (refine wh_loadE (ty:=24) (b:=bA) (v:= .int .u64 (dig 18446744073709551616 (A%el) k)) rfl (by rfl) rfl rfl (by repeat constructor) Hb.out o64 ?_;simp only[List.getElem_toArray,List.getElem_cons_succ,List.getElem_cons_zero,Act.put,Act.eval,zQ])
      (apply wh_val rfl (by rfl);(intro w;go_simp;rfl);simp only[List.getElem_toArray,List.getElem_cons_succ,List.getElem_cons_zero,Act.put,Act.eval,zQ])
      (refine Calm.whB_loadE (ty:=24) (b:=b) (v:= .int .u64 (dig 18446744073709551616 el k)) S (by simp) rfl (by rfl) rfl rfl (by repeat constructor) Ha.out o64 ?_;simp only[List.getElem_toArray,List.getElem_cons_succ,List.getElem_cons_zero,Act.put,Act.eval,zQ])
      (apply wh_val rfl (by rfl);(intro w;go_simp;exact Hs.out w);simp only[List.getElem_toArray,List.getElem_cons_succ,List.getElem_cons_zero,Act.put,Act.eval,zQ])
      iterate 4 (apply wh_val rfl (by rfl);(intro w;go_simp;rfl);simp only[List.getElem_toArray,List.getElem_cons_succ,List.getElem_cons_zero,Act.put,Act.eval,zQ])
      (refine Calm.whB_storeE (ty:=24) (b:=b) (cs:=arr .u64 4 (mixG (dig 18446744073709551616 el) (gset g k s) (k+1))) S rfl (by rfl) rfl rfl rfl (mix_set _ _ _ _ _) (by repeat(first|exact foc_hd|apply foc_tl)) o64 (by(rw[Go.Arr.arr_size];omega)) rfl (by simp) ?_;clear S;intro W S;simp only[List.getElem_toArray,List.getElem_cons_succ,List.getElem_cons_zero,Act.put,Act.eval,zQ])
      (apply wh_val rfl (by rfl);(intro w;go_simp;rfl);simp only[List.getElem_toArray,List.getElem_cons_succ,List.getElem_cons_zero,Act.put,Act.eval,zQ])
      refine wh_nil ?_
      go_wp2_with fail
      go_roundw
      case rel=>exact⟨k+1,_,_,by omega,by go_num,rfl,hC.step s0 s1 o0 o1 HS.out,S⟩
      case measure=>simp[intOf];omega
    · have hk' : k = 4 := by omega
      subst hk'
      rw[neg_end (A%el) g c (by unfold el;omega) hC] at S
      go_wp2_with (first|(refine g_load (ty:=44) rfl ?_;refine wl_load (ty:=44) S rfl rfl rfl (by repeat constructor) aggWd (by first|exact(Go.Arr.arr_size _ _ _).symm|rfl) ?_)|(refine g_store (ty:=44) rfl ?_;refine wl_store (ty:=44) S rfl rfl rfl rfl (by repeat(first|exact foc_hd|apply foc_tl)) aggWd (by first|exact(Go.Arr.arr_size _ _ _).symm|rfl) (by first|exact(Go.Arr.arr_size _ _ _).symm|rfl) (by first|exact Go.Arr.arr_one _ _ _|rfl|simp[Value.oneCell']) ?_;clear S;intro W S))
      refine Calm.ret_cell S (by rfl) (by rfl) (by repeat constructor) aggWd (arr_size _ _ _).symm (by rfl) ?_
      exact⟨rfl,S.below⟩
end Go.Proofs.YtdebkddhpogkgaaGreat

set_option linter.unusedSimpArgs false
namespace Go.Proofs.YtdebkddhpogkgaaGreat
open Go.RowKit Go.Calm Go.Arr
theorem ok8_neg (A:Int):Ok8 (el - A%el):=by unfold Ok8 el;omega
theorem sub_el (A B:Int):(A+(el - B%el))%el=(A - B)%el:=by
  have h:=Int.emod_add_mul_ediv B el
  have e:A - B=A+(el - B%el)+el*(-(1+B / el)):=by
    rw[Int.mul_neg,Int.mul_add,Int.mul_one];omega
  rw[e,Int.add_mul_emod_self_left]
theorem eqS_run {o:Oper} {a:Act} {X Y:Int} {x y:Operand} {u:TypeId} (hX:Ok8 X) (hY:Ok8 Y) (ho:o.op= .binOp .eql 23 x y u) (hx:a.eval x= .agg (arr .u8 32 (dig 256 X))) (hy:a.eval y= .agg (arr .u8 32 (dig 256 Y))) (w:World):(execOp a.eval o).run Tryz.prog w= .ok (.value (.bool (decide (X=Y)))) w:=
  eq_run arrSc b_pos (by rw[b_32];exact hX) (by rw[b_32];exact hY) ho hx hy w
section
variable {ops:Array Oper} {rest:List Oper} {o:Oper} {a:Act} {W:World} {al:List (Nat×Tmp)} {R:Act→Prop} {m:Nat} {Q:Exit→Act→World→Prop}
theorem wn_eqS {X Y:Int} {x y:Operand} {u:TypeId} (hal:(al.map Prod.fst).contains m=false) (hw:Region.wanted o (yielded ops a.tmps)=true) (ho:o.op= .binOp .eql 23 x y u) (hx:a.eval x= .agg (arr .u8 32 (dig 256 X))) (hy:a.eval y= .agg (arr .u8 32 (dig 256 Y))) (hX:Ok8 X) (hY:Ok8 Y)
    (h:Calm.walkN Tryz.prog ops W al R (m+1) rest (a.put o.dst (.bool (decide (X=Y))))):Calm.walkN Tryz.prog ops W al R m (o :: rest) a:=
  wn_val hal hw (eqS_run hX hY ho hx hy) h
end
set_option maxHeartbeats 1000000 in
theorem Plus_c (A B:Int) (hA:Ok8 A) (hB:Ok8 B) (w:World):Calls Tryz.prog 16 #[.agg (arr .u8 32 (dig 256 A)),.agg (arr .u8 32 (dig 256 B))] w fun e w'=>e= .returned (.agg (arr .u8 32 (dig 256 ((A+B)%el))))∧Below w.heap.size w w':=by
  have S:=Calm.St.start w
  go_enter Tryz.func16,Tryz.ntmps16
  go_wp2_with (first|(refine wl_box S rfl rfl rfl ?_;clear S;intro b W S)|(refine wl_new (ty:=23) S rfl rfl zeroSc ?_;clear S;intro b W S))
  refine Calm.region0 S 7 (by kernel_rfl) (by kernel_rfl) (fun S=> ?_)
  repeat(first|(refine Calm.gn_load (ty:=23) rfl ?_;refine wn_load (ty:=23) S rfl (by rfl) rfl rfl (by repeat constructor) aggSc (by first|exact(Go.Arr.arr_size _ _ _).symm|rfl) ?_;simp only[Act.put,Act.eval,zQ])|(apply wn_call (f:=35) rfl (by rfl) rfl;(intro w;go_simp;rfl);(intro w;exact read_c _ (by assumption) w);simp only[Act.put,Act.eval,zQ])|(apply wn_call (f:=34) rfl (by rfl) rfl;(intro w;go_simp;rfl);(intro w;exact sum_c _ _ hA hB w);simp only[Act.put,Act.eval,zQ])|(apply wn_call (f:=33) rfl (by rfl) rfl;(intro w;go_simp;rfl);(intro w;exact rest_c _ (sum_ok hA hB) w);simp only[Act.put,Act.eval,zQ])|(apply wn_call (f:=32) rfl (by rfl) rfl;(intro w;go_simp;rfl);(intro w;exact write_c _ (ok8_mod _) w);simp only[Act.put,Act.eval,zQ]))
  (refine wn_nil ?_;clear S;intro W S;simp only[Act.put,List.setIfInBounds_toArray,List.set_cons_zero,List.set_cons_succ,List.drop_succ_cons,List.drop_zero,List.drop_nil])
  go_wp2_with ((refine g_store (ty:=23) rfl ?_;refine wl_store (ty:=23) S rfl rfl rfl rfl (by repeat(first|exact foc_hd|apply foc_tl)) aggSc (by first|exact(Go.Arr.arr_size _ _ _).symm|rfl) (by first|exact(Go.Arr.arr_size _ _ _).symm|rfl) (by first|exact Go.Arr.arr_one _ _ _|rfl|simp[Value.oneCell']) ?_;clear S;intro W S))
  refine Calm.ret_cell S (by rfl) (by rfl) (by repeat constructor) aggSc (arr_size _ _ _).symm (by rfl) ?_
  exact⟨rfl,S.below⟩
set_option maxHeartbeats 1000000 in
theorem Minus_c (A B:Int) (hA:Ok8 A) (hB:Ok8 B) (w:World):Calls Tryz.prog 17 #[.agg (arr .u8 32 (dig 256 A)),.agg (arr .u8 32 (dig 256 B))] w fun e w'=>e= .returned (.agg (arr .u8 32 (dig 256 ((A - B)%el))))∧Below w.heap.size w w':=by
  have S:=Calm.St.start w
  rw[← sub_el]
  go_enter Tryz.func17,Tryz.ntmps17
  go_wp2_with (first|(refine wl_box S rfl rfl rfl ?_;clear S;intro b W S)|(refine wl_new (ty:=23) S rfl rfl zeroSc ?_;clear S;intro b W S))
  refine Calm.region0 S 8 (by kernel_rfl) (by kernel_rfl) (fun S=> ?_)
  repeat(first|(refine Calm.gn_load (ty:=23) rfl ?_;refine wn_load (ty:=23) S rfl (by rfl) rfl rfl (by repeat constructor) aggSc (by first|exact(Go.Arr.arr_size _ _ _).symm|rfl) ?_;simp only[Act.put,Act.eval,zQ])|(apply wn_call (f:=35) rfl (by rfl) rfl;(intro w;go_simp;rfl);(intro w;exact read_c _ (by assumption) w);simp only[Act.put,Act.eval,zQ])|(apply wn_call (f:=36) rfl (by rfl) rfl;(intro w;go_simp;rfl);(intro w;exact negative_c _ hB w);simp only[Act.put,Act.eval,zQ])|(apply wn_call (f:=34) rfl (by rfl) rfl;(intro w;go_simp;rfl);(intro w;exact sum_c _ _ hA (ok8_neg B) w);simp only[Act.put,Act.eval,zQ])|(apply wn_call (f:=33) rfl (by rfl) rfl;(intro w;go_simp;rfl);(intro w;exact rest_c _ (sum_ok hA (ok8_neg B)) w);simp only[Act.put,Act.eval,zQ])|(apply wn_call (f:=32) rfl (by rfl) rfl;(intro w;go_simp;rfl);(intro w;exact write_c _ (ok8_mod _) w);simp only[Act.put,Act.eval,zQ]))
  (refine wn_nil ?_;clear S;intro W S;simp only[Act.put,List.setIfInBounds_toArray,List.set_cons_zero,List.set_cons_succ,List.drop_succ_cons,List.drop_zero,List.drop_nil])
  go_wp2_with ((refine g_store (ty:=23) rfl ?_;refine wl_store (ty:=23) S rfl rfl rfl rfl (by repeat(first|exact foc_hd|apply foc_tl)) aggSc (by first|exact(Go.Arr.arr_size _ _ _).symm|rfl) (by first|exact(Go.Arr.arr_size _ _ _).symm|rfl) (by first|exact Go.Arr.arr_one _ _ _|rfl|simp[Value.oneCell']) ?_;clear S;intro W S))
  refine Calm.ret_cell S (by rfl) (by rfl) (by repeat constructor) aggSc (arr_size _ _ _).symm (by rfl) ?_
  exact⟨rfl,S.below⟩
set_option maxHeartbeats 1000000 in
theorem Times_c (A B:Int) (hA:Ok8 A) (hB:Ok8 B) (w:World):Calls Tryz.prog 18 #[.agg (arr .u8 32 (dig 256 A)),.agg (arr .u8 32 (dig 256 B))] w fun e w'=>e= .returned (.agg (arr .u8 32 (dig 256 (A*B%el))))∧Below w.heap.size w w':=by
  have S:=Calm.St.start w
  go_enter Tryz.func18,Tryz.ntmps18
  go_wp2_with (first|(refine wl_box S rfl rfl rfl ?_;clear S;intro b W S)|(refine wl_new (ty:=23) S rfl rfl zeroSc ?_;clear S;intro b W S))
  refine Calm.region0 S 7 (by kernel_rfl) (by kernel_rfl) (fun S=> ?_)
  repeat(first|(refine Calm.gn_load (ty:=23) rfl ?_;refine wn_load (ty:=23) S rfl (by rfl) rfl rfl (by repeat constructor) aggSc (by first|exact(Go.Arr.arr_size _ _ _).symm|rfl) ?_;simp only[Act.put,Act.eval,zQ])|(apply wn_call (f:=35) rfl (by rfl) rfl;(intro w;go_simp;rfl);(intro w;exact read_c _ (by assumption) w);simp only[Act.put,Act.eval,zQ])|(apply wn_call (f:=37) rfl (by rfl) rfl;(intro w;go_simp;rfl);(intro w;exact product_c _ _ hA hB w);simp only[Act.put,Act.eval,zQ])|(apply wn_call (f:=33) rfl (by rfl) rfl;(intro w;go_simp;rfl);(intro w;exact rest_c _ (prod_ok hA hB) w);simp only[Act.put,Act.eval,zQ])|(apply wn_call (f:=32) rfl (by rfl) rfl;(intro w;go_simp;rfl);(intro w;exact write_c _ (ok8_mod _) w);simp only[Act.put,Act.eval,zQ]))
  (refine wn_nil ?_;clear S;intro W S;simp only[Act.put,List.setIfInBounds_toArray,List.set_cons_zero,List.set_cons_succ,List.drop_succ_cons,List.drop_zero,List.drop_nil])
  go_wp2_with ((refine g_store (ty:=23) rfl ?_;refine wl_store (ty:=23) S rfl rfl rfl rfl (by repeat(first|exact foc_hd|apply foc_tl)) aggSc (by first|exact(Go.Arr.arr_size _ _ _).symm|rfl) (by first|exact(Go.Arr.arr_size _ _ _).symm|rfl) (by first|exact Go.Arr.arr_one _ _ _|rfl|simp[Value.oneCell']) ?_;clear S;intro W S))
  refine Calm.ret_cell S (by rfl) (by rfl) (by repeat constructor) aggSc (arr_size _ _ _).symm (by rfl) ?_
  exact⟨rfl,S.below⟩
theorem sc_0:arr .u8 32 (dig 256 0)= #[.int .u8 0,.int .u8 0,.int .u8 0,.int .u8 0,.int .u8 0,.int .u8 0,.int .u8 0,.int .u8 0,.int .u8 0,.int .u8 0,.int .u8 0,.int .u8 0,.int .u8 0,.int .u8 0,.int .u8 0,.int .u8 0,.int .u8 0,.int .u8 0,.int .u8 0,.int .u8 0,.int .u8 0,.int .u8 0,.int .u8 0,.int .u8 0,.int .u8 0,.int .u8 0,.int .u8 0,.int .u8 0,.int .u8 0,.int .u8 0,.int .u8 0,.int .u8 0]:=by kernel_rfl
theorem may_iff (A:Int) (hA:Ok8 A):decide (A=A%el)=decide (A<el):=by
  rw[decide_eq_decide]
  unfold Ok8 at hA
  constructor
  · intro h;unfold el at *; omega
  · intro h;rw[Int.emod_eq_of_lt hA.1 h]
set_option maxHeartbeats 1000000 in
theorem May_c (A:Int) (hA:Ok8 A) (w:World):Calls Tryz.prog 38 #[.agg (arr .u8 32 (dig 256 A))] w fun e w'=>e= .returned (.bool (decide (A<el)))∧Below w.heap.size w w':=by
  have S:=Calm.St.start w
  have hp:=fun w=>Plus_c A 0 hA ok8_0 w
  rw[sc_0,Int.add_zero] at hp
  have Hp:=hide hp
  rw[← may_iff A hA]
  clear hp
  go_enter Tryz.func38,Tryz.ntmps38
  go_wp2_with ((refine wl_box S rfl rfl rfl ?_;clear S;intro b W S))
  refine Calm.region0 S 5 (by kernel_rfl) (by kernel_rfl) (fun S=> ?_)
  repeat(first|(refine Calm.gn_load (ty:=23) rfl ?_;refine wn_load (ty:=23) S rfl (by rfl) rfl rfl (by repeat constructor) aggSc (by first|exact(Go.Arr.arr_size _ _ _).symm|rfl) ?_;simp only[Act.put,Act.eval,zQ])|(apply wn_call (f:=16) rfl (by rfl) rfl;(intro w;go_simp;rfl);(intro w;exact Hp.out w);simp only[Act.put,Act.eval,zQ])|(refine wn_eqS rfl (by rfl) rfl rfl rfl hA (ok8_mod _) ?_;simp only[Act.put,Act.eval,zQ])|(apply wn_val rfl (by rfl);(intro w;go_simp;rfl);simp only[Act.put,Act.eval,zQ]))
  (refine wn_nil ?_;clear S;intro W S;simp only[Act.put,List.setIfInBounds_toArray,List.set_cons_zero,List.set_cons_succ,List.drop_succ_cons,List.drop_zero,List.drop_nil])
  go_wp2_with fail
  go_ret
  exact⟨rfl,S.below⟩
theorem wd_n (n:Int) (h0:0≤n) (h1:n<18446744073709551616):arr .u64 4 (dig 18446744073709551616 n)= #[.int .u64 n,.int .u64 0,.int .u64 0,.int .u64 0]:=dig4 n 0 0 0 n h0 h1 (by omega) (by omega) (by omega) (by omega) (by omega) (by omega) (by omega)
set_option maxHeartbeats 1000000 in
theorem SOf_c (n:Int) (h0:0≤n) (h1:n<18446744073709551616) (w:World):Calls Tryz.prog 27 #[.int .u64 n] w fun e w'=>e= .returned (.agg (arr .u8 32 (dig 256 n)))∧Below w.heap.size w w':=by
  have S:=Calm.St.start w
  have hp:=fun w=>write_c n (by unfold Ok8;omega) w
  rw[wd_n n h0 h1] at hp
  have Hp:=hide hp
  clear hp
  go_enter Tryz.func27,Tryz.ntmps27
  go_wp2_with ((refine wl_new (ty:=23) S rfl rfl zeroSc ?_;clear S;intro b W S))
  refine(Hp.out _).mono ?_
  rintro e W1 ⟨rfl,hb⟩
  have S:=S.call hb
  clear hb
  go_wp2_with ((refine g_store (ty:=23) rfl ?_;refine wl_store (ty:=23) S rfl rfl rfl rfl (by repeat(first|exact foc_hd|apply foc_tl)) aggSc (by first|exact(Go.Arr.arr_size _ _ _).symm|rfl) (by first|exact(Go.Arr.arr_size _ _ _).symm|rfl) (by first|exact Go.Arr.arr_one _ _ _|rfl|simp[Value.oneCell']) ?_;clear S;intro W S))
  refine Calm.ret_cell S (by rfl) (by rfl) (by repeat constructor) aggSc (arr_size _ _ _).symm (by rfl) ?_
  exact⟨rfl,S.below⟩
end Go.Proofs.YtdebkddhpogkgaaGreat

set_option linter.unusedSimpArgs false
namespace Go.Proofs.YtdebkddhpogkgaaGreat
open Go.RowKit Go.Calm Go.Arr
def pe (A:Int) (n:Nat):Int:=A ^ n%el
def eE:Nat:=7237005577332262213973186563042994240857116359379907606001950938285454250987
def invE (A:Int):Int:=pe A eE
theorem ok8_pe (A:Int) (n:Nat):Ok8 (pe A n):=ok8_mod _
theorem wd_e:arr .u64 4 (dig 18446744073709551616 (eE:Int))= #[.int .u64 6346243789798364139,.int .u64 1503914060200516822,.int .u64 0,.int .u64 1152921504606846976]:=by kernel_rfl
theorem wd_1:arr .u64 4 (dig 18446744073709551616 1)= #[.int .u64 1,.int .u64 0,.int .u64 0,.int .u64 0]:=by kernel_rfl
theorem lmm (X:Int):X%el%el=X%el:=Int.emod_emod_of_dvd _ (Int.dvd_refl _)
theorem lml (X Y:Int):X%el*Y%el=X*Y%el:=by rw[Int.mul_emod,lmm,← Int.mul_emod]
theorem lmr (X Y:Int):X*(Y%el)%el=X*Y%el:=by rw[Int.mul_emod,lmm,← Int.mul_emod]
theorem pe_dbl (A:Int) (n:Nat):pe A n*pe A n%el=pe A (2*n):=by
  unfold pe;rw[lml,lmr,← Int.pow_add];congr 2;omega
theorem pe_succ (A:Int) (n:Nat):pe A n*A%el=pe A (n+1):=by unfold pe;rw[lml,Int.pow_succ]
theorem pe_0 (A:Int):pe A 0=1:=by unfold pe el;simp
set_option maxHeartbeats 1000000 in
theorem Inverse_c (A : Int) (hA : Ok8 A) (w : World) : Calls Tryz.prog 20 #[.agg (arr .u8 32 (dig 256 A))] w fun e w' => e = .returned (.agg (arr .u8 32 (dig 256 (invE A)))) ∧ Below w.heap.size w w' := by
  have S:=Calm.St.start w
  have HE:=hide wd_e
  have H1:=hide wd_1
  go_enter Tryz.func20,Tryz.ntmps20
  go_wp2_with (first|(refine wl_box S rfl rfl rfl ?_;clear S;intro b W S)|(refine wl_new (ty:=23) S rfl rfl zeroSc ?_;clear S;intro b W S)|(refine g_load (ty:=23) rfl ?_;refine wl_load (ty:=23) S rfl rfl rfl (by repeat constructor) aggSc (by first|exact(Go.Arr.arr_size _ _ _).symm|rfl) ?_)|(refine wl_new (ty:=44) S rfl rfl zeroWd ?_;clear S;intro b W S)|(refine g_store (ty:=44) rfl ?_;refine wl_store (ty:=44) S rfl rfl rfl rfl (by repeat(first|exact foc_hd|apply foc_tl)) aggWd (by first|exact(Go.Arr.arr_size _ _ _).symm|rfl) (by first|exact(Go.Arr.arr_size _ _ _).symm|rfl) (by first|exact Go.Arr.arr_one _ _ _|rfl|simp[Value.oneCell']) ?_;clear S;intro W S))
  rename_i bA _ bR _ _ _ _ _ _
  rename Nat=>bE
  refine(read_c A hA _).mono ?_
  rintro e W1 ⟨rfl,hb⟩
  have S:=S.call hb
  clear hb
  go_wp2_with (first|(refine wl_new (ty:=44) S rfl rfl zeroWd ?_;clear S;intro b W S)|(refine g_store (ty:=44) rfl ?_;refine wl_store (ty:=44) S rfl rfl rfl rfl (by repeat(first|exact foc_hd|apply foc_tl)) aggWd (by first|exact(Go.Arr.arr_size _ _ _).symm|rfl) (by first|exact(Go.Arr.arr_size _ _ _).symm|rfl) (by first|exact Go.Arr.arr_one _ _ _|rfl|simp[Value.oneCell']) ?_;clear S;intro W S))
  rw[← HE.out,← H1.out] at S
  rename_i bN _ _ _ K hK
  go_loopw [12] (fun v Wr=>∃ k:Nat,k≤253∧v= .int .i64 k∧Calm.St w Wr [⟨b,arr .u64 4 (dig 18446744073709551616 (pe A (eE / 2 ^ (253 - k)))),44⟩,⟨bN,arr .u64 4 (dig 18446744073709551616 A),44⟩,⟨bE,arr .u64 4 (dig 18446744073709551616 (eE:Int)),44⟩,⟨bR,arr .u8 32 (fun _=>0),23⟩,⟨bA,arr .u8 32 (dig 256 A),23⟩]) (fun v _=>253 - (intOf v).toNat)
  case atStart=>exact⟨0,by omega,rfl,by rw[show eE / 2 ^ (253 - 0)=0 by kernel_rfl,pe_0];exact S⟩
  case round =>
    clear S
    obtain⟨k,hk,rfl,S⟩:=hrel
    by_cases hlt:k<253
    · obtain ⟨t, ht⟩ : ∃ t : Nat, t = 252 - k := ⟨_, rfl⟩
      obtain⟨q,hq⟩:∃ q:Nat,q=t / 64:=⟨_,rfl⟩
      obtain⟨r,hr⟩:∃ r:Nat,r=t%64:=⟨_,rfl⟩
      have hlt':(k:Int)<253:=by omega
      have f2:IntKind.i64.wrap (252 - (k:Int))=(t:Int):=by rw[IntKind.wrap_i64];omega
      have f3:IntKind.i64.wrap ((t:Int) / 64)=(q:Int):=by rw[wrap_small _ (by omega) (by omega)];omega
      have f4:(t:Int).tmod 64=(r:Int):=by rw[Int.tmod_eq_emod_of_nonneg (by omega)];omega
      have f5:(q:Int)<4:=by omega
      have f6:r≤64:=by omega
      obtain⟨x,hx⟩:∃ x:Int,x=dig 18446744073709551616 (eE:Int) q:=⟨_,rfl⟩
      have Hx:Hid ((arr .u64 4 (dig 18446744073709551616 (eE:Int)))[q]? =some (.int .u64 x)):=by rw[hx];exact arr_at _ _ _ q (by omega)
      have hxb:=dig_bd M_pos (eE:Int) q
      rw[← hx] at hxb
      have hxr:0≤x / 2 ^ r∧x / 2 ^ r<18446744073709551616:=shr_bd x r hxb.1 hxb.2
      have hbit:bits .and .u64 (x / 2 ^ r) 1=((eE / 2 ^ t%2:Nat):Int):=by
        rw[and_one _ hxr.1 hxr.2,hx,wd1 (eE:Int) (by omega) q r (by omega),show 64*q+r=t by omega,Int.natCast_emod,Int.natCast_ediv,Int.natCast_pow];rfl
      have hst:eE / 2 ^ (253 - (k+1))=2*(eE / 2 ^ (253 - k))+eE / 2 ^ t%2:=by
        rw[show 253 - (k+1)=t by omega,show 253 - k=t+1 by omega,Nat.pow_succ,← Nat.div_div_eq_div_mul];omega
      have Hst:=hide hst
      have Ht:=hide ht
      clear ht hq hr hx hst
      go_wp2_with ((refine g_load (ty:=44) rfl ?_;refine wl_load (ty:=44) S rfl rfl rfl (by repeat constructor) aggWd (by first|exact(Go.Arr.arr_size _ _ _).symm|rfl) ?_))
      refine(product_c _ _ (ok8_pe _ _) (ok8_pe _ _) _).mono ?_
      rintro e W1 ⟨rfl,hb⟩
      have S:=S.call hb
      clear hb
      go_wp2_with (first|(refine wl_box S rfl rfl rfl ?_;clear S;intro b W S)|(refine wl_new (ty:=44) S rfl rfl zeroWd ?_;clear S;intro b W S)|(refine g_load (ty:=44) rfl ?_;refine wl_load (ty:=44) S rfl rfl rfl (by repeat constructor) aggWd (by first|exact(Go.Arr.arr_size _ _ _).symm|rfl) ?_)|(refine g_store (ty:=44) rfl ?_;refine wl_store (ty:=44) S rfl rfl rfl rfl (by repeat(first|exact foc_hd|apply foc_tl)) aggWd (by first|exact(Go.Arr.arr_size _ _ _).symm|rfl) (by first|exact(Go.Arr.arr_size _ _ _).symm|rfl) (by first|exact Go.Arr.arr_one _ _ _|rfl|simp[Value.oneCell']) ?_;clear S;intro W S))
      refine(rest_c _ (prod_ok (ok8_pe _ _) (ok8_pe _ _)) _).mono ?_
      rintro e W1 ⟨rfl,hb⟩
      have S:=S.call hb
      clear hb
      rw[pe_dbl]
      have hb01:eE / 2 ^ t%2=0∨eE / 2 ^ t%2=1:=by omega
      rcases hb01 with hb0|hb1
      · rw [hb0] at hbit
        have hbit':bits .and .u64 (x / 2 ^ r) 1=0:=hbit
        have Hb:=hide hb0
        clear hb0 hbit
        go_wp2_with (first|(refine g_store (ty:=44) rfl ?_;refine wl_store (ty:=44) S rfl rfl rfl rfl (by repeat(first|exact foc_hd|apply foc_tl)) aggWd (by first|exact(Go.Arr.arr_size _ _ _).symm|rfl) (by first|exact(Go.Arr.arr_size _ _ _).symm|rfl) (by first|exact Go.Arr.arr_one _ _ _|rfl|simp[Value.oneCell']) ?_;clear S;intro W S)|(refine g_load (ty:=24) rfl ?_;refine wl_loadE (ty:=24) (b:=bE) (v:= .int .u64 x) S rfl rfl rfl (by repeat constructor) Hx.out o64 ?_))
        go_roundw
        case rel=>exact⟨k+1,by omega,by go_num,by rw[Hst.out,Hb.out,Nat.add_zero];exact S⟩
        case measure=>simp[intOf];omega
      · rw [hb1] at hbit
        have hbit':bits .and .u64 (x / 2 ^ r) 1=1:=hbit
        have Hb:=hide hb1
        clear hb1 hbit
        go_wp2_with (first|(refine g_load (ty:=44) rfl ?_;refine wl_load (ty:=44) S rfl rfl rfl (by repeat constructor) aggWd (by first|exact(Go.Arr.arr_size _ _ _).symm|rfl) ?_)|(refine g_store (ty:=44) rfl ?_;refine wl_store (ty:=44) S rfl rfl rfl rfl (by repeat(first|exact foc_hd|apply foc_tl)) aggWd (by first|exact(Go.Arr.arr_size _ _ _).symm|rfl) (by first|exact(Go.Arr.arr_size _ _ _).symm|rfl) (by first|exact Go.Arr.arr_one _ _ _|rfl|simp[Value.oneCell']) ?_;clear S;intro W S)|(refine g_load (ty:=24) rfl ?_;refine wl_loadE (ty:=24) (b:=bE) (v:= .int .u64 x) S rfl rfl rfl (by repeat constructor) Hx.out o64 ?_))
        refine(product_c _ _ (ok8_pe _ _) hA _).mono ?_
        rintro e W1 ⟨rfl,hb⟩
        have S:=S.call hb
        clear hb
        go_wp2_with (first|(refine wl_box S rfl rfl rfl ?_;clear S;intro b W S)|(refine wl_new (ty:=44) S rfl rfl zeroWd ?_;clear S;intro b W S)|(refine g_load (ty:=44) rfl ?_;refine wl_load (ty:=44) S rfl rfl rfl (by repeat constructor) aggWd (by first|exact(Go.Arr.arr_size _ _ _).symm|rfl) ?_)|(refine g_store (ty:=44) rfl ?_;refine wl_store (ty:=44) S rfl rfl rfl rfl (by repeat(first|exact foc_hd|apply foc_tl)) aggWd (by first|exact(Go.Arr.arr_size _ _ _).symm|rfl) (by first|exact(Go.Arr.arr_size _ _ _).symm|rfl) (by first|exact Go.Arr.arr_one _ _ _|rfl|simp[Value.oneCell']) ?_;clear S;intro W S))
        refine(rest_c _ (prod_ok (ok8_pe _ _) hA) _).mono ?_
        rintro e W1 ⟨rfl,hb⟩
        have S:=S.call hb
        clear hb
        rw[pe_succ]
        go_wp2_with ((refine g_store (ty:=44) rfl ?_;refine wl_store (ty:=44) S rfl rfl rfl rfl (by repeat(first|exact foc_hd|apply foc_tl)) aggWd (by first|exact(Go.Arr.arr_size _ _ _).symm|rfl) (by first|exact(Go.Arr.arr_size _ _ _).symm|rfl) (by first|exact Go.Arr.arr_one _ _ _|rfl|simp[Value.oneCell']) ?_;clear S;intro W S))
        go_roundw
        case rel=>exact⟨k+1,by omega,by go_num,by rw[Hst.out,Hb.out];exact S⟩
        case measure=>simp[intOf];omega
    · have hk' : k = 253 := by omega
      subst hk'
      rw[Nat.sub_self,Nat.pow_zero,Nat.div_one] at S
      go_wp2_with ((refine g_load (ty:=44) rfl ?_;refine wl_load (ty:=44) S rfl rfl rfl (by repeat constructor) aggWd (by first|exact(Go.Arr.arr_size _ _ _).symm|rfl) ?_))
      refine(write_c _ (ok8_pe _ _) _).mono ?_
      rintro e W1 ⟨rfl,hb⟩
      have S:=S.call hb
      clear hb
      go_wp2_with ((refine g_store (ty:=23) rfl ?_;refine wl_store (ty:=23) S rfl rfl rfl rfl (by repeat(first|exact foc_hd|apply foc_tl)) aggSc (by first|exact(Go.Arr.arr_size _ _ _).symm|rfl) (by first|exact(Go.Arr.arr_size _ _ _).symm|rfl) (by first|exact Go.Arr.arr_one _ _ _|rfl|simp[Value.oneCell']) ?_;clear S;intro W S))
      refine Calm.ret_cell S (by rfl) (by rfl) (by repeat constructor) aggSc (arr_size _ _ _).symm (by rfl) ?_
      exact⟨rfl,S.below⟩
end Go.Proofs.YtdebkddhpogkgaaGreat
