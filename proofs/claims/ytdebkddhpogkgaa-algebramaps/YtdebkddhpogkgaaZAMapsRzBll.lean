import Derived.Test.YtdebkddhpogkgaaZAMapsRzRest
import Derived.Test.YtdebkddhpogkgaaZAMapsRzAll
set_option linter.unusedSimpArgs false
namespace Go.Proofs.Ytdebkddhpogkgaa
open Go.RowKit Go.Arr
theorem ok8_0:Ok8 0:=by unfold Ok8;omega
theorem sum_ok {A B:Int} (hA:Ok8 A) (hB:Ok8 B):0≤A+B∧A+B<18446744073709551616 ^ 8:=by rw[m_8];unfold Ok8 at *; omega
def mixG (h g:Nat→Int) (k:Nat) (j:Nat):Int:=if j<k then g j else h j
theorem mix_at (n:Nat) (h g:Nat→Int) (k:Nat) (hk:k<n):(arr .u64 n (mixG h g k))[k]? =some (.int .u64 (h k)):=by rw[arr_at _ _ _ k hk];simp[mixG]
theorem mix_set (n:Nat) (h g:Nat→Int) (k:Nat) (s:Int):arr .u64 n (mixG h (gset g k s) (k+1))=(arr .u64 n (mixG h g k)).setIfInBounds k (.int .u64 s):=by
  rw[← arr_set]
  refine arr_ext fun j _=> ?_
  by_cases e:j=k
  · subst e;rw[gset_eq];unfold mixG;rw[if_pos (by omega),gset_eq]
  · rw [gset_ne _ _ _ e]
    unfold mixG
    by_cases hl:j<k
    · rw[if_pos hl,if_pos (by omega),gset_ne _ _ _ e]
    · rw[if_neg hl,if_neg (by omega)]
end Go.Proofs.Ytdebkddhpogkgaa

set_option linter.unusedSimpArgs false
namespace Go.Proofs.Ytdebkddhpogkgaa
open Go.RowKit Go.Calm Go.Arr
theorem eqS_run {o:Oper} {a:Act} {X Y:Int} {x y:Operand} {u:TypeId} (hX:Ok8 X) (hY:Ok8 Y) (ho:o.op= .binOp .eql 29 x y u) (hx:a.eval x= .agg (arr .u8 32 (dig 256 X))) (hy:a.eval y= .agg (arr .u8 32 (dig 256 Y))) (w:World):(execOp a.eval o).run Try.prog w= .ok (.value (.bool (decide (X=Y)))) w:=
  eq_run arrSc b_pos (by rw[b_32];exact hX) (by rw[b_32];exact hY) ho hx hy w
section
variable {ops:Array Oper} {rest:List Oper} {o:Oper} {a:Act} {W:World} {al:List (Nat×Tmp)} {R:Act→Prop} {m:Nat} {Q:Exit→Act→World→Prop}
theorem wn_eqS {X Y:Int} {x y:Operand} {u:TypeId} (hal:(al.map Prod.fst).contains m=false) (hw:Region.wanted o (yielded ops a.tmps)=true) (ho:o.op= .binOp .eql 29 x y u) (hx:a.eval x= .agg (arr .u8 32 (dig 256 X))) (hy:a.eval y= .agg (arr .u8 32 (dig 256 Y))) (hX:Ok8 X) (hY:Ok8 Y)
    (h:Calm.walkN Try.prog ops W al R (m+1) rest (a.put o.dst (.bool (decide (X=Y))))):Calm.walkN Try.prog ops W al R m (o :: rest) a:=
  wn_val hal hw (eqS_run hX hY ho hx hy) h
end
set_option maxHeartbeats 1000000 in
theorem Plus_c (A B:Int) (hA:Ok8 A) (hB:Ok8 B) (w:World):Calls Try.prog 42 #[.agg (arr .u8 32 (dig 256 A)),.agg (arr .u8 32 (dig 256 B))] w fun e w'=>e= .returned (.agg (arr .u8 32 (dig 256 ((A+B)%el))))∧Below w.heap.size w w':=by
  have S:=Calm.St.start w
  go_enter Try.func42,Try.ntmps42
  go_wp2_with (first|(refine wl_box S rfl rfl rfl ?_;clear S;intro b W S)|(refine wl_new (ty:=29) S rfl rfl zeroSc ?_;clear S;intro b W S))
  refine Calm.region0 S 7 (by kernel_rfl) (by kernel_rfl) (fun S=> ?_)
  repeat(first|(refine Calm.gn_load (ty:=29) rfl ?_;refine wn_load (ty:=29) S rfl (by rfl) rfl rfl (by repeat constructor) aggSc (by first|exact(Go.Arr.arr_size _ _ _).symm|rfl) ?_;simp only[Act.put,Act.eval,zQ])|(apply wn_call (f:=88) rfl (by rfl) rfl;(intro w;go_simp;rfl);(intro w;exact read_c _ (by assumption) w);simp only[Act.put,Act.eval,zQ])|(apply wn_call (f:=87) rfl (by rfl) rfl;(intro w;go_simp;rfl);(intro w;exact sum_c _ _ hA hB w);simp only[Act.put,Act.eval,zQ])|(apply wn_call (f:=83) rfl (by rfl) rfl;(intro w;go_simp;rfl);(intro w;exact rest_c _ (sum_ok hA hB) w);simp only[Act.put,Act.eval,zQ])|(apply wn_call (f:=82) rfl (by rfl) rfl;(intro w;go_simp;rfl);(intro w;exact write_c _ (ok8_mod _) w);simp only[Act.put,Act.eval,zQ]))
  (refine wn_nil ?_;clear S;intro W S;simp only[Act.put,List.setIfInBounds_toArray,List.set_cons_zero,List.set_cons_succ,List.drop_succ_cons,List.drop_zero,List.drop_nil])
  go_wp2_with ((refine g_store (ty:=29) rfl ?_;refine wl_store (ty:=29) S rfl rfl rfl rfl (by repeat(first|exact foc_hd|apply foc_tl)) aggSc (by first|exact(Go.Arr.arr_size _ _ _).symm|rfl) (by first|exact(Go.Arr.arr_size _ _ _).symm|rfl) (by first|exact Go.Arr.arr_one _ _ _|rfl|simp[Value.oneCell']) ?_;clear S;intro W S))
  refine Calm.ret_cell S (by rfl) (by rfl) (by repeat constructor) aggSc (arr_size _ _ _).symm (by rfl) ?_
  exact⟨rfl,S.below⟩
theorem sc_0:arr .u8 32 (dig 256 0)= #[.int .u8 0,.int .u8 0,.int .u8 0,.int .u8 0,.int .u8 0,.int .u8 0,.int .u8 0,.int .u8 0,.int .u8 0,.int .u8 0,.int .u8 0,.int .u8 0,.int .u8 0,.int .u8 0,.int .u8 0,.int .u8 0,.int .u8 0,.int .u8 0,.int .u8 0,.int .u8 0,.int .u8 0,.int .u8 0,.int .u8 0,.int .u8 0,.int .u8 0,.int .u8 0,.int .u8 0,.int .u8 0,.int .u8 0,.int .u8 0,.int .u8 0,.int .u8 0]:=by kernel_rfl
theorem may_iff (A:Int) (hA:Ok8 A):decide (A=A%el)=decide (A<el):=by
  rw[decide_eq_decide]
  unfold Ok8 at hA
  constructor
  · intro h;unfold el at *; omega
  · intro h;rw[Int.emod_eq_of_lt hA.1 h]
set_option maxHeartbeats 1000000 in
theorem May_c (A:Int) (hA:Ok8 A) (w:World):Calls Try.prog 39 #[.agg (arr .u8 32 (dig 256 A))] w fun e w'=>e= .returned (.bool (decide (A<el)))∧Below w.heap.size w w':=by
  have S:=Calm.St.start w
  have hp:=fun w=>Plus_c A 0 hA ok8_0 w
  rw[sc_0,Int.add_zero] at hp
  have Hp:=hide hp
  rw[← may_iff A hA]
  clear hp
  go_enter Try.func39,Try.ntmps39
  go_wp2_with ((refine wl_box S rfl rfl rfl ?_;clear S;intro b W S))
  refine Calm.region0 S 5 (by kernel_rfl) (by kernel_rfl) (fun S=> ?_)
  repeat(first|(refine Calm.gn_load (ty:=29) rfl ?_;refine wn_load (ty:=29) S rfl (by rfl) rfl rfl (by repeat constructor) aggSc (by first|exact(Go.Arr.arr_size _ _ _).symm|rfl) ?_;simp only[Act.put,Act.eval,zQ])|(apply wn_call (f:=42) rfl (by rfl) rfl;(intro w;go_simp;rfl);(intro w;exact Hp.out w);simp only[Act.put,Act.eval,zQ])|(refine wn_eqS rfl (by rfl) rfl rfl rfl hA (ok8_mod _) ?_;simp only[Act.put,Act.eval,zQ])|(apply wn_val rfl (by rfl);(intro w;go_simp;rfl);simp only[Act.put,Act.eval,zQ]))
  (refine wn_nil ?_;clear S;intro W S;simp only[Act.put,List.setIfInBounds_toArray,List.set_cons_zero,List.set_cons_succ,List.drop_succ_cons,List.drop_zero,List.drop_nil])
  go_wp2_with fail
  go_ret
  exact⟨rfl,S.below⟩
theorem wd_n (n:Int) (h0:0≤n) (h1:n<18446744073709551616):arr .u64 4 (dig 18446744073709551616 n)= #[.int .u64 n,.int .u64 0,.int .u64 0,.int .u64 0]:=dig4 n 0 0 0 n h0 h1 (by omega) (by omega) (by omega) (by omega) (by omega) (by omega) (by omega)
set_option maxHeartbeats 1000000 in
theorem SOf_c (n:Int) (h0:0≤n) (h1:n<18446744073709551616) (w:World):Calls Try.prog 40 #[.int .u64 n] w fun e w'=>e= .returned (.agg (arr .u8 32 (dig 256 n)))∧Below w.heap.size w w':=by
  have S:=Calm.St.start w
  have hp:=fun w=>write_c n (by unfold Ok8;omega) w
  rw[wd_n n h0 h1] at hp
  have Hp:=hide hp
  clear hp
  go_enter Try.func40,Try.ntmps40
  go_wp2_with ((refine wl_new (ty:=29) S rfl rfl zeroSc ?_;clear S;intro b W S))
  refine(Hp.out _).mono ?_
  rintro e W1 ⟨rfl,hb⟩
  have S:=S.call hb
  clear hb
  go_wp2_with ((refine g_store (ty:=29) rfl ?_;refine wl_store (ty:=29) S rfl rfl rfl rfl (by repeat(first|exact foc_hd|apply foc_tl)) aggSc (by first|exact(Go.Arr.arr_size _ _ _).symm|rfl) (by first|exact(Go.Arr.arr_size _ _ _).symm|rfl) (by first|exact Go.Arr.arr_one _ _ _|rfl|simp[Value.oneCell']) ?_;clear S;intro W S))
  refine Calm.ret_cell S (by rfl) (by rfl) (by repeat constructor) aggSc (arr_size _ _ _).symm (by rfl) ?_
  exact⟨rfl,S.below⟩
end Go.Proofs.Ytdebkddhpogkgaa

set_option linter.unusedSimpArgs false
namespace Go.Proofs.Ytdebkddhpogkgaa
open Go.RowKit Go.Arr
def pe (A:Int) (n:Nat):Int:=A ^ n%el
end Go.Proofs.Ytdebkddhpogkgaa
