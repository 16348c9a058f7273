import Derived.Test.YtdebkddhpogkgaaGreatZASarsRzMath
set_option linter.unusedSimpArgs false
namespace Go.Proofs.YtdebkddhpogkgaaGreat
open Go.RowKit Go.Calm Go.Arr
theorem ord_raw:arr .u8 32 (dig 256 el)= #[.int .u8 237,.int .u8 211,.int .u8 245,.int .u8 92,.int .u8 26,.int .u8 99,.int .u8 18,.int .u8 88,.int .u8 214,.int .u8 156,.int .u8 247,.int .u8 162,.int .u8 222,.int .u8 249,.int .u8 222,.int .u8 20,.int .u8 0,.int .u8 0,.int .u8 0,.int .u8 0,.int .u8 0,.int .u8 0,.int .u8 0,.int .u8 0,.int .u8 0,.int .u8 0,.int .u8 0,.int .u8 0,.int .u8 0,.int .u8 0,.int .u8 0,.int .u8 16]:=by kernel_rfl
set_option maxHeartbeats 1000000 in
theorem Order_c (w:World):Calls Tryz.prog 39 #[] w fun e w'=>e= .returned (.agg (arr .u8 32 (dig 256 el)))∧Below w.heap.size w w':=by
  have S:=Calm.St.start w
  have HO:=hide ord_raw
  go_enter Tryz.func39,Tryz.ntmps39
  go_wp2_with (first|(refine wl_new (ty:=22) S rfl rfl zeroB32 ?_;clear S;intro b W S)|(refine g_store (ty:=22) rfl ?_;refine wl_store (ty:=22) S rfl rfl rfl rfl (by repeat(first|exact foc_hd|apply foc_tl)) aggB32 (by first|exact(Go.Arr.arr_size _ _ _).symm|rfl) (by first|exact(Go.Arr.arr_size _ _ _).symm|rfl) (by first|exact Go.Arr.arr_one _ _ _|rfl|simp[Value.oneCell']) ?_;clear S;intro W S))
  rw[← HO.out] at S
  refine Calm.ret_cell S (by rfl) (by rfl) (by repeat constructor) aggB32 (arr_size _ _ _).symm (by rfl) ?_
  exact⟨rfl,S.below⟩
theorem ok8_el:Ok8 el:=by unfold Ok8 el;omega
end Go.Proofs.YtdebkddhpogkgaaGreat
