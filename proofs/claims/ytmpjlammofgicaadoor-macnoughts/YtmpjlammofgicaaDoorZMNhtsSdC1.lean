import Derived.Test.YtmpjlammofgicaaDoorZMNhtsSdB
set_option linter.unusedSimpArgs false
set_option linter.unusedVariables false
/-! The document's SHA-2: a text filled up, its contract. -/
namespace Go.Proofs.YtmpjlammofgicaaDoor
open Go.RowKit Go.Ev
theorem np_agg (a:Array Value):np (.agg a)=true:=rfl
def ful2 (N:List Int):List Int:=N ++ [128] ++ List.replicate ((120 - (N.length+1)%64)%64) 0 ++ beL (N.length*8) 8
theorem ful2_len (N:List Int):(ful2 N).length=N.length+1+(120 - (N.length+1)%64)%64+8:=by
  unfold ful2
  simp only[List.length_append,List.length_cons,List.length_nil,List.length_replicate,beL_len]
def ful5 (N:List Int):List Int:=N ++ [128] ++ List.replicate ((240 - (N.length+1)%128)%128) 0 ++ beL (N.length*8) 16
theorem ful5_len (N:List Int):(ful5 N).length=N.length+1+(240 - (N.length+1)%128)%128+16:=by
  unfold ful5
  simp only[List.length_append,List.length_cons,List.length_nil,List.length_replicate,beL_len]
end Go.Proofs.YtmpjlammofgicaaDoor

set_option linter.unusedSimpArgs false
set_option linter.unusedVariables false
/-! The same bytes, with one more behind them. -/
namespace Go.Proofs.YtmpjlammofgicaaDoor
open Go.RowKit Go.Ev
end Go.Proofs.YtmpjlammofgicaaDoor
