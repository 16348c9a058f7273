import Derived.Test.YtdebkddhpogkgaaGreatZASarsMul
set_option linter.unusedSimpArgs false
namespace Go.Proofs.YtdebkddhpogkgaaGreat
open Go.RowKit Go.Calm

theorem sub_mod (A B:Int):(A%pr - B%pr)%pr=(A - B)%pr:=by unfold pr;omega
theorem feC_0:feC 0= #[.int .u64 0,.int .u64 0,.int .u64 0,.int .u64 0]:=by kernel_rfl
theorem ok_0:Ok 0:=by unfold Ok;omega

set_option maxHeartbeats 400000 in
theorem Neg_c (A:Int) (hA:Ok A) (w:World):Calls Tryz.prog 59 #[.agg (feC A)] w fun e w'=>e= .returned (.agg (feC (-A%pr)))∧Below w.heap.size w w':=by
  have S:=Calm.St.start w
  have hs:=fun w=>Sub_c 0 A ok_0 hA w
  rw[feC_0,sub_mod,Int.zero_sub] at hs
  have Hs:=hide hs
  clear hs
  go_enter Tryz.func59,Tryz.ntmps59
  go_wp2_with (first|(refine wl_box S rfl rfl rfl ?_;clear S;intro b W S)|(refine wl_new (ty:=58) S rfl rfl zeroFe ?_;clear S;intro b W S)|(refine g_load (ty:=58) rfl ?_;refine wl_load (ty:=58) S rfl rfl rfl (by repeat constructor) aggFe (by rfl) ?_))
  refine(Hs.out _).mono ?_
  rintro e W1 ⟨rfl,hb⟩
  have S:=S.call hb
  clear hb
  go_wp2_with ((refine g_store (ty:=58) rfl ?_;refine wl_store (ty:=58) S rfl rfl rfl rfl (by repeat(first|exact foc_hd|apply foc_tl)) aggFe rfl (by rfl) (w4_one _ _ _ _) ?_;clear S;intro W S))
  refine Calm.ret_cell S (by rfl) (by rfl) (by repeat constructor) aggFe (by rfl) (by rfl) ?_
  exact⟨rfl,S.below⟩

def absF (A:Int):Int:=if A%pr%2=1 then -A%pr else A%pr
set_option maxHeartbeats 400000 in
theorem Abs_c (A:Int) (hA:Ok A) (w:World):Calls Tryz.prog 62 #[.agg (feC A)] w fun e w'=>e= .returned (.agg (feC (absF A)))∧Below w.heap.size w w':=by
  have S:=Calm.St.start w
  by_cases h:A%pr%2=1
  · have e1 : decide (A % pr % 2 = 1) = true := by simpa using h
    have e2:Hid (absF A= -A%pr):=if_pos h
    clear h
    go_enter Tryz.func62,Tryz.ntmps62
    go_wp2_with (first|(refine wl_box S rfl rfl rfl ?_;clear S;intro b W S)|(refine wl_new (ty:=58) S rfl rfl zeroFe ?_;clear S;intro b W S)|(refine g_load (ty:=58) rfl ?_;refine wl_load (ty:=58) S rfl rfl rfl (by repeat constructor) aggFe (by rfl) ?_))
    refine(Odd_c A hA _).mono ?_
    rintro e W1 ⟨rfl,hb⟩
    have S:=S.call hb
    clear hb
    go_wp2_with ((refine g_load (ty:=58) rfl ?_;refine wl_load (ty:=58) S rfl rfl rfl (by repeat constructor) aggFe (by rfl) ?_))
    refine(Neg_c A hA _).mono ?_
    rintro e W1 ⟨rfl,hb⟩
    have S:=S.call hb
    clear hb
    go_wp2_with ((refine g_store (ty:=58) rfl ?_;refine wl_store (ty:=58) S rfl rfl rfl rfl (by repeat(first|exact foc_hd|apply foc_tl)) aggFe rfl (by rfl) (w4_one _ _ _ _) ?_;clear S;intro W S))
    refine Calm.ret_cell S (by rfl) (by rfl) (by repeat constructor) aggFe (by rfl) (by rfl) ?_
    exact⟨by rw[e2.out],S.below⟩
  · have e1 : decide (A % pr % 2 = 1) = false := by simpa using h
    have e2:Hid (absF A=A%pr):=if_neg h
    clear h
    go_enter Tryz.func62,Tryz.ntmps62
    go_wp2_with (first|(refine wl_box S rfl rfl rfl ?_;clear S;intro b W S)|(refine wl_new (ty:=58) S rfl rfl zeroFe ?_;clear S;intro b W S)|(refine g_load (ty:=58) rfl ?_;refine wl_load (ty:=58) S rfl rfl rfl (by repeat constructor) aggFe (by rfl) ?_))
    refine(Odd_c A hA _).mono ?_
    rintro e W1 ⟨rfl,hb⟩
    have S:=S.call hb
    clear hb
    go_wp2_with ((refine g_load (ty:=58) rfl ?_;refine wl_load (ty:=58) S rfl rfl rfl (by repeat constructor) aggFe (by rfl) ?_))
    refine(Canon_c A hA _).mono ?_
    rintro e W1 ⟨rfl,hb⟩
    have S:=S.call hb
    clear hb
    go_wp2_with ((refine g_store (ty:=58) rfl ?_;refine wl_store (ty:=58) S rfl rfl rfl rfl (by repeat(first|exact foc_hd|apply foc_tl)) aggFe rfl (by rfl) (w4_one _ _ _ _) ?_;clear S;intro W S))
    refine Calm.ret_cell S (by rfl) (by rfl) (by repeat constructor) aggFe (by rfl) (by rfl) ?_
    exact⟨by rw[e2.out],S.below⟩

def iNum:Int:=19681161376707505956807079304988542015446066515923890162744021073123829784752
theorem feC_i:feC iNum= #[.int .u64 14190309331451158704,.int .u64 3405592160176694392,.int .u64 3120150775007532967,.int .u64 3135389899092516619]:=by kernel_rfl
theorem ok_i:Ok iNum:=by unfold Ok iNum;omega
set_option maxHeartbeats 400000 in
theorem I_c (w:World):Calls Tryz.prog 66 #[] w fun e w'=>e= .returned (.agg (feC iNum))∧Below w.heap.size w w':=by
  have S:=Calm.St.start w
  go_enter Tryz.func66,Tryz.ntmps66
  go_wp2_with (first|(refine wl_new (ty:=58) S rfl rfl zeroFe ?_;clear S;intro b W S)|(refine g_store (ty:=58) rfl ?_;refine wl_store (ty:=58) S rfl rfl rfl rfl (by repeat(first|exact foc_hd|apply foc_tl)) aggFe rfl (by rfl) (w4_one _ _ _ _) ?_;clear S;intro W S))
  refine Calm.ret_cell S (by rfl) (by rfl) (by repeat constructor) aggFe (by rfl) (by rfl) ?_
  exact⟨by rw[feC_i],S.below⟩
end Go.Proofs.YtdebkddhpogkgaaGreat
