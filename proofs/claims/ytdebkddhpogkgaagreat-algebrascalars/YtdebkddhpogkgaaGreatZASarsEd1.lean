import Derived.Test.YtdebkddhpogkgaaGreatZASarsEdGAll
import Derived.Test.YtdebkddhpogkgaaGreatZASarsSchAll
import Derived.Test.YtdebkddhpogkgaaGreatZASarsRRoot2
/-! A point's cells: the program's, the document's. -/
namespace Go.Proofs.YtdebkddhpogkgaaGreat
open Go.RowKit Go.Calm
structure P4 where
  X:Int
  Y:Int
  Z:Int
  T:Int
structure P3 where
  X:Int
  Y:Int
  Z:Int
def ptC (p:P4):Array Value:= #[.int .u64 (p.X%18446744073709551616),.int .u64 (p.X / 18446744073709551616%18446744073709551616),.int .u64 (p.X / 340282366920938463463374607431768211456%18446744073709551616),.int .u64 (p.X / 6277101735386680763835789423207666416102355444464034512896%18446744073709551616),.int .u64 (p.Y%18446744073709551616),.int .u64 (p.Y / 18446744073709551616%18446744073709551616),.int .u64 (p.Y / 340282366920938463463374607431768211456%18446744073709551616),.int .u64 (p.Y / 6277101735386680763835789423207666416102355444464034512896%18446744073709551616),.int .u64 (p.Z%18446744073709551616),.int .u64 (p.Z / 18446744073709551616%18446744073709551616),.int .u64 (p.Z / 340282366920938463463374607431768211456%18446744073709551616),.int .u64 (p.Z / 6277101735386680763835789423207666416102355444464034512896%18446744073709551616),.int .u64 (p.T%18446744073709551616),.int .u64 (p.T / 18446744073709551616%18446744073709551616),.int .u64 (p.T / 340282366920938463463374607431768211456%18446744073709551616),.int .u64 (p.T / 6277101735386680763835789423207666416102355444464034512896%18446744073709551616)]
theorem ptC_size (p:P4):(ptC p).size=16:=rfl
theorem ptC_one (p:P4):(ptC p).all (·.oneCell')=true:=by simp[ptC,Value.oneCell']
theorem aggPt:Calm.AggT Tryz.prog 60 16:=⟨⟨_,Tryz.underlying60,rfl⟩,by kernel_rfl⟩
theorem zeroPt:(Tryz.prog.info? 60).bind (·.zero)=some (.agg (ptC ⟨0,0,0,0⟩)):=by kernel_rfl
theorem pt_X (p:P4):(ptC p).extract 0 (0+4)=feC p.X:=rfl
theorem pt_Y (p:P4):(ptC p).extract 4 (4+4)=feC p.Y:=rfl
theorem pt_Z (p:P4):(ptC p).extract 8 (8+4)=feC p.Z:=rfl
theorem pt_T (p:P4):(ptC p).extract 12 (12+4)=feC p.T:=rfl
def rpC (p:P3):Array Value:=((List.range 8).map (fun j=>Value.int .u64 (nuG p.X j)) ++ (List.range 8).map (fun j=>Value.int .u64 (nuG p.Y j)) ++ (List.range 8).map (fun j=>Value.int .u64 (nuG p.Z j))).toArray
theorem rpC_one (p:P3):(rpC p).all (·.oneCell')=true:=by simp[rpC,Value.oneCell']
theorem aggRp:Calm.AggT Tryz.prog 72 24:=⟨⟨_,Tryz.underlying72,rfl⟩,by kernel_rfl⟩
theorem zeroRp:(Tryz.prog.info? 72).bind (·.zero)=some (.agg (rpC ⟨0,0,0⟩)):=by kernel_rfl
theorem rp_X (p:P3):(rpC p).extract 0 (0+8)=nuC p.X:=rfl
theorem rp_Y (p:P3):(rpC p).extract 8 (8+8)=nuC p.Y:=rfl
theorem rp_Z (p:P3):(rpC p).extract 16 (16+8)=nuC p.Z:=rfl
structure Sd where
  Y:Int
  o:Bool
def Ok4 (p:P4):Prop:=Ok p.X∧Ok p.Y∧Ok p.Z∧Ok p.T
end Go.Proofs.YtdebkddhpogkgaaGreat
