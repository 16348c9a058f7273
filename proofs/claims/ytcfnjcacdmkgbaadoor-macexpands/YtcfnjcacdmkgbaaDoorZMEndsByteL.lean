import Derived.Test.YtcfnjcacdmkgbaaDoorZMEndsRead
set_option linter.unusedSimpArgs false
namespace Go.Proofs.YtcfnjcacdmkgbaaDoor
open Go.RowKit Go.Calm

def numL:List Int→Int
  | []=>0
  |x :: r=>x+256*numL r
def byL (n:Nat) (X:Int):List Int:=(List.range n).map (byt X)
theorem byL_length (n:Nat) (X:Int):(byL n X).length=n:=by simp[byL]
theorem byt_0 (X:Int):byt X 0=X%256:=by unfold byt;simp
theorem byt_succ (X:Int) (j:Nat):byt X (j+1)=byt (X / 256) j:=by
  unfold byt
  rw[Int.pow_succ,Int.mul_comm,Int.ediv_ediv]
  simp
theorem byL_succ (n:Nat) (X:Int):byL (n+1) X=(X%256) :: byL n (X / 256):=by
  unfold byL
  rw[List.range_succ_eq_map,List.map_cons,byt_0,List.map_map]
  congr 1
  apply List.map_congr_left
  intro j _
  simp[byt_succ]
theorem numL_byL:∀(n:Nat) (X:Int),0≤X→X<256 ^ n→numL (byL n X)=X
  | 0, X, h0, h1 => by
    have h1':X<1:=by simpa using h1
    simp[byL,numL];omega
  | n + 1, X, h0, h1 => by
    rw[byL_succ,numL,numL_byL n (X / 256) (by omega) (by rw[Int.pow_succ] at h1;omega)]
    omega
theorem byC_list (X:Int):byC X=((byL 32 X).map (Value.int .u8)).toArray:=by
  unfold byC byK byL
  congr 1
theorem m4_256:(256:Int) ^ 32=115792089237316195423570985008687907853269984665640564039457584007913129639936:=by decide
theorem byL_inj {X Y:Int} (hX:Ok X) (hY:Ok Y):(byL 32 X == byL 32 Y)=decide (X=Y):=by
  rw[Bool.eq_iff_iff,beq_iff_eq,decide_eq_true_iff]
  constructor
  · intro h
    have h2:=congrArg numL h
    rwa[numL_byL 32 X hX.1 (by rw[m4_256];exact hX.2),numL_byL 32 Y hY.1 (by rw[m4_256];exact hY.2)] at h2
  · intro h;rw[h]
theorem arrBy:Calm.ArrT Tryd.prog 25 32 .u8:=⟨⟨_,Tryd.underlying25,Tryd.underlying5,by kernel_rfl⟩,by kernel_rfl⟩
section
variable {ops:Array Oper} {rest:List Oper} {o:Oper} {a:Act} {W:World} {al:List (Nat×Tmp)} {R:Act→Prop} {m:Nat}
end
end Go.Proofs.YtcfnjcacdmkgbaaDoor
