import Derived.Test.YtlbofcgjdbfenabEdGAll
import Derived.Test.YtlbofcgjdbfenabSchAll
import Derived.Test.YtlbofcgjdbfenabRRoot2
/-! A point's cells: the program's, the document's. -/
namespace Go.Proofs.Ytlbofcgjdbfenab
open Go.RowKit
/-- Four numbers. -/
structure P4 where
  X : Int
  Y : Int
  Z : Int
  T : Int
/-- Three. -/
structure P3 where
  X : Int
  Y : Int
  Z : Int
def ptC (p : P4) : Array Value := #[.int .u64 (p.X % 18446744073709551616), .int .u64 (p.X / 18446744073709551616 % 18446744073709551616), .int .u64 (p.X / 340282366920938463463374607431768211456 % 18446744073709551616), .int .u64 (p.X / 6277101735386680763835789423207666416102355444464034512896 % 18446744073709551616), .int .u64 (p.Y % 18446744073709551616), .int .u64 (p.Y / 18446744073709551616 % 18446744073709551616), .int .u64 (p.Y / 340282366920938463463374607431768211456 % 18446744073709551616), .int .u64 (p.Y / 6277101735386680763835789423207666416102355444464034512896 % 18446744073709551616), .int .u64 (p.Z % 18446744073709551616), .int .u64 (p.Z / 18446744073709551616 % 18446744073709551616), .int .u64 (p.Z / 340282366920938463463374607431768211456 % 18446744073709551616), .int .u64 (p.Z / 6277101735386680763835789423207666416102355444464034512896 % 18446744073709551616), .int .u64 (p.T % 18446744073709551616), .int .u64 (p.T / 18446744073709551616 % 18446744073709551616), .int .u64 (p.T / 340282366920938463463374607431768211456 % 18446744073709551616), .int .u64 (p.T / 6277101735386680763835789423207666416102355444464034512896 % 18446744073709551616)]
theorem ptC_size (p : P4) : (ptC p).size = 16 := rfl
theorem ptC_one (p : P4) : (ptC p).all (·.oneCell') = true := by simp [ptC, Value.oneCell']
theorem aggPt : Calm.AggT Try.prog 28 16 := ⟨⟨_, Try.underlying28, rfl⟩, by kernel_rfl⟩
theorem zeroPt : (Try.prog.info? 28).bind (·.zero) = some (.agg (ptC ⟨0, 0, 0, 0⟩)) := by kernel_rfl
theorem pt_X (p : P4) : (ptC p).extract 0 (0 + 4) = feC p.X := rfl
theorem pt_Y (p : P4) : (ptC p).extract 4 (4 + 4) = feC p.Y := rfl
theorem pt_Z (p : P4) : (ptC p).extract 8 (8 + 4) = feC p.Z := rfl
theorem pt_T (p : P4) : (ptC p).extract 12 (12 + 4) = feC p.T := rfl
theorem built_pt (A B C D : Int) : Try.prog.built 28 [(0, .agg (feC A)), (1, .agg (feC B)), (2, .agg (feC C)), (3, .agg (feC D))] = some (ptC ⟨A, B, C, D⟩) := by kernel_rfl
theorem built_pt0 : Try.prog.built 28 [] = some (ptC ⟨0, 0, 0, 0⟩) := by kernel_rfl
def rpC (p : P3) : Array Value := ((List.range 8).map (fun j => Value.int .u64 (nuG p.X j)) ++ (List.range 8).map (fun j => Value.int .u64 (nuG p.Y j)) ++ (List.range 8).map (fun j => Value.int .u64 (nuG p.Z j))).toArray
theorem rpC_size (p : P3) : (rpC p).size = 24 := rfl
theorem rpC_one (p : P3) : (rpC p).all (·.oneCell') = true := by simp [rpC, Value.oneCell']
theorem aggRp : Calm.AggT Try.prog 92 24 := ⟨⟨_, Try.underlying92, rfl⟩, by kernel_rfl⟩
theorem zeroRp : (Try.prog.info? 92).bind (·.zero) = some (.agg (rpC ⟨0, 0, 0⟩)) := by kernel_rfl
theorem rp_X (p : P3) : (rpC p).extract 0 (0 + 8) = nuC p.X := rfl
theorem rp_Y (p : P3) : (rpC p).extract 8 (8 + 8) = nuC p.Y := rfl
theorem rp_Z (p : P3) : (rpC p).extract 16 (16 + 8) = nuC p.Z := rfl
theorem built_rp (A B C : Int) : Try.prog.built 92 [(0, .agg (nuC A)), (1, .agg (nuC B)), (2, .agg (nuC C))] = some (rpC ⟨A, B, C⟩) := by kernel_rfl
theorem built_rp0 : Try.prog.built 92 [] = some (rpC ⟨0, 0, 0⟩) := by kernel_rfl
structure Sd where
  Y : Int
  o : Bool
def sdC (s : Sd) : Array Value := #[.int .u64 (s.Y % 18446744073709551616), .int .u64 (s.Y / 18446744073709551616 % 18446744073709551616), .int .u64 (s.Y / 340282366920938463463374607431768211456 % 18446744073709551616), .int .u64 (s.Y / 6277101735386680763835789423207666416102355444464034512896 % 18446744073709551616), .bool s.o]
theorem sdC_size (p : Sd) : (sdC p).size = 5 := rfl
theorem aggSd : Calm.AggT Try.prog 26 5 := ⟨⟨_, Try.underlying26, rfl⟩, by kernel_rfl⟩
theorem sd_Y (p : Sd) : (sdC p).extract 0 (0 + 4) = feC p.Y := rfl
def Ok4 (p : P4) : Prop := Ok p.X ∧ Ok p.Y ∧ Ok p.Z ∧ Ok p.T
end Go.Proofs.Ytlbofcgjdbfenab
