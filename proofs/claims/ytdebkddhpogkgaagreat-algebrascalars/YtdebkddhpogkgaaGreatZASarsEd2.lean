import Derived.Test.YtdebkddhpogkgaaGreatZASarsEd1
import Derived.Test.YtdebkddhpogkgaaGreatZASarsEqStr
set_option linter.unusedSimpArgs false
set_option linter.unusedVariables false
namespace Go.Proofs.YtdebkddhpogkgaaGreat
open Go.RowKit
theorem ok_dN:Ok dN:=by unfold Ok dN;omega
def d2N:Int:=16295367250680780974490674513165176452449235426866156013048779062215315747161
theorem ok_d2:Ok d2N:=by unfold Ok d2N;omega
theorem ok_1:Ok 1:=by unfold Ok;omega
theorem ok_bx:Ok bxN:=by unfold Ok bxN;omega
theorem ok_by:Ok byN:=by unfold Ok byN;omega
def ofP (A B:Int):P4:=⟨A,B,1,A*B%pr⟩
def quotP (a b c d:Int):P4:=⟨a*d%pr,c*b%pr,b*d%pr,a*c%pr⟩
abbrev same4 (p q:P4):Prop:=p.X=q.X∧p.Y=q.Y∧p.Z=q.Z∧p.T=q.T
theorem Sub2_c (A B:Int) (hA:Ok A) (hB:Ok B) (w:World):Calls Tryz.prog 57 #[.agg (feC A),.agg (feC B)] w fun e w'=>e= .returned (.agg (feC ((A - B)%pr)))∧Below w.heap.size w w':=by
  have:=Sub_c A B hA hB w
  rwa[esl,esr] at this
theorem ok4_quot (a b c d:Int):Ok4 (quotP a b c d):=⟨ok_mod _,ok_mod _,ok_mod _,ok_mod _⟩
def dblP (p:P4):P4:=quotP (((p.X+p.Y)%pr*((p.X+p.Y)%pr)%pr - (p.Y*p.Y%pr+p.X*p.X%pr)%pr)%pr) ((p.Y*p.Y%pr - p.X*p.X%pr)%pr) ((p.Y*p.Y%pr+p.X*p.X%pr)%pr) (((p.Z*p.Z%pr+p.Z*p.Z%pr)%pr - (p.Y*p.Y%pr - p.X*p.X%pr)%pr)%pr)
def mi (p q:P4):Int:=(p.Y - p.X)%pr*((q.Y - q.X)%pr)%pr
def pl (p q:P4):Int:=(p.Y+p.X)%pr*((q.Y+q.X)%pr)%pr
def zz (p q:P4):Int:=(p.Z*q.Z%pr+p.Z*q.Z%pr)%pr
def tt (p q:P4):Int:=d2N*(p.T*q.T%pr)%pr
def addQ (p q:P4):P4:=quotP ((pl p q - mi p q)%pr) ((zz p q+tt p q)%pr) ((pl p q+mi p q)%pr) ((zz p q - tt p q)%pr)
def addP (p q:P4):P4:=if same4 p q then dblP p else addQ p q
end Go.Proofs.YtdebkddhpogkgaaGreat
