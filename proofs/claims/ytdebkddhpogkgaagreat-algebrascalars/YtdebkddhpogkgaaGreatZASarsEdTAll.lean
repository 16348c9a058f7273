import Derived.Test.YtdebkddhpogkgaaGreatZASarsEdEAll
set_option linter.unusedSimpArgs false
set_option linter.unusedVariables false
namespace Go.Proofs.YtdebkddhpogkgaaGreat
open Go.RowKit Go.Ev
def rootV (U V:Int):Int:=if rtGot U V%pr= -U%pr%pr then absF (iNum*rtR U V%pr) else if rtGot U V%pr=iNum*(-U%pr)%pr%pr then absF (iNum*rtR U V%pr) else absF (rtR U V)
def rootB (U V:Int):Bool:=if rtGot U V%pr= -U%pr%pr then true else decide (rtGot U V%pr=U%pr)
theorem root_way (U V:Int):rtWay U V (rootV U V) (rootB U V):=by
  unfold rtWay rootV rootB rtTurned rtLast
  by_cases h1:rtGot U V%pr= -U%pr%pr
  · exact .inl ⟨h1,if_pos h1,if_pos h1⟩
  · by_cases h2 : rtGot U V % pr = iNum * (-U % pr) % pr % pr
    · exact .inr (.inl ⟨h1,h2,if_neg h1,(if_neg h1).trans (if_pos h2)⟩)
    · exact .inr (.inr ⟨h1,h2,if_neg h1,(if_neg h1).trans (if_neg h2)⟩)
def quoV (u v:Int):Int:=if u=0 then 0 else if v=0 then 0 else if rx (quo u v)*rx (quo u v)%pr=quo u v then absR (rx (quo u v)) else absR (rx (quo u v*iNum%pr))
def quoB (u v:Int):Bool:=if u=0 then true else if v=0 then false else decide (rx (quo u v)*rx (quo u v)%pr=quo u v)
theorem quo_way (u v:Int):rootWay u v (quoV u v) (quoB u v):=by
  unfold rootWay quoV quoB
  by_cases h1:u=0
  · exact .inl ⟨h1,if_pos h1,if_pos h1⟩
  · by_cases h2 : v = 0
    · exact .inr (.inl ⟨h1,h2,(if_neg h1).trans (if_pos h2),(if_neg h1).trans (if_pos h2)⟩)
    · by_cases h3 : rx (quo u v) * rx (quo u v) % pr = quo u v
      · exact .inr (.inr (.inl ⟨h1,h2,h3,((if_neg h1).trans (if_neg h2)).trans (if_pos h3),((if_neg h1).trans (if_neg h2)).trans (decide_eq_true h3)⟩))
      · exact .inr (.inr (.inr ⟨h1,h2,h3,((if_neg h1).trans (if_neg h2)).trans (if_neg h3),((if_neg h1).trans (if_neg h2)).trans (decide_eq_false h3)⟩))
def eMul:Entry Tryz.prog:=ent2 Tryz.func56 (by kernel_rfl) (by kernel_rfl) feD feD (fun A B:Int=> .agg (feC (A*B%pr))) (fun A B hA hB w=>Mul_c A B hA hB w)
def eAdd:Entry Tryz.prog:=ent2 Tryz.func58 (by kernel_rfl) (by kernel_rfl) feD feD (fun A B:Int=> .agg (feC ((A+B)%pr))) (fun A B hA hB w=>Add_c A B hA hB w)
def eSub:Entry Tryz.prog:=ent2 Tryz.func57 (by kernel_rfl) (by kernel_rfl) feD feD (fun A B:Int=> .agg (feC ((A - B)%pr))) (fun A B hA hB w=>Sub2_c A B hA hB w)
def eNeg:Entry Tryz.prog:=ent1 Tryz.func59 (by kernel_rfl) (by kernel_rfl) feD (fun A:Int=> .agg (feC (-A%pr))) (fun A hA w=>Neg_c A hA w)
def eSame:Entry Tryz.prog:=ent2 Tryz.func63 (by kernel_rfl) (by kernel_rfl) feD feD (fun A B:Int=> .bool (decide (A%pr=B%pr))) (fun A B hA hB w=>Same_c A B hA hB w)
def eOdd:Entry Tryz.prog:=ent1 Tryz.func54 (by kernel_rfl) (by kernel_rfl) feD (fun A:Int=> .bool (decide (A%pr%2=1))) (fun A hA w=>Odd_c A hA w)
def w64 (n:Int):Prop:=0≤n∧n<18446744073709551616
def eOf:Entry Tryz.prog:=entN Tryz.func55 (by kernel_rfl) (by kernel_rfl) (fun n=> .agg (feC n)) w64 (k:= .u64) (fun n h w=>Of_c n h.1 h.2 w)
def eRoot1:Entry Tryz.prog:=ent2 Tryz.func61 (by kernel_rfl) (by kernel_rfl) feD feD (fun U V:Int=> .tuple #[.agg (feC (rootV U V)),.bool (rootB U V)]) (fun U V hU hV w=>Root_c U V hU hV _ _ (root_way U V) w)
def rMul:Entry Tryz.prog:=ent2 Tryz.func72 (by kernel_rfl) (by kernel_rfl) nuD nuD (fun A B:Int=> .agg (nuC (A*B%pr))) (fun A B hA hB w=>RMul_c A B (ok_pr hA) (ok_pr hB) w)
def rAdd:Entry Tryz.prog:=ent2 Tryz.func92 (by kernel_rfl) (by kernel_rfl) nuD nuD (fun A B:Int=> .agg (nuC ((A+B)%pr))) (fun A B hA hB w=>RAdd_c A B (ok_pr hA) (ok_pr hB) w)
theorem RSub2_c (A B:Int) (hA:0≤A∧A<pr) (hB:0≤B∧B<pr) (w:World):Calls Tryz.prog 73 #[.agg (nuC A),.agg (nuC B)] w fun e w'=>e= .returned (.agg (nuC ((A - B)%pr)))∧Below w.heap.size w w':=by
  have:=RSub_c A B (ok_pr hA) hB w
  rwa[ear,← Int.sub_eq_add_neg] at this
def rSub:Entry Tryz.prog:=ent2 Tryz.func73 (by kernel_rfl) (by kernel_rfl) nuD nuD (fun A B:Int=> .agg (nuC ((A - B)%pr))) (fun A B hA hB w=>RSub2_c A B hA hB w)
def rNeg:Entry Tryz.prog:=ent1 Tryz.func79 (by kernel_rfl) (by kernel_rfl) nuD (fun A:Int=> .agg (nuC (-A%pr))) (fun A hA w=>RNeg_c A hA w)
def rInv:Entry Tryz.prog:=ent1 Tryz.func83 (by kernel_rfl) (by kernel_rfl) nuD (fun A:Int=> .agg (nuC (invF A))) (fun A hA w=>RInv_c A (ok_pr hA) w)
def rZero:Entry Tryz.prog:=ent1 Tryz.func94 (by kernel_rfl) (by kernel_rfl) nuD (fun A:Int=> .bool (decide (A=0))) (fun A hA w=>RZero_c A (ok_pr hA) w)
def rOf:Entry Tryz.prog:=entN Tryz.func74 (by kernel_rfl) (by kernel_rfl) (fun n=> .agg (nuC n)) w64 (k:= .u64) (fun n h w=>ROf_c n h.1 h.2 w)
def rWords:Entry Tryz.prog:=ent1 Tryz.func93 (by kernel_rfl) (by kernel_rfl) feD (fun A:Int=> .agg (nuC (A%pr))) (fun A hA w=>Words_c A hA w)
def rRoot:Entry Tryz.prog:=ent2 Tryz.func75 (by kernel_rfl) (by kernel_rfl) nuD nuD (fun U V:Int=> .tuple #[.agg (nuC (quoV U V)),.bool (quoB U V)]) (fun U V hU hV w=>RRoot_c U V _ _ hU hV (quo_way U V) w)
def tab0:List (Entry Tryz.prog):= [eMul,eAdd,eSub,eNeg,eSame,eOdd,eOf,eRoot1,rMul,rAdd,rSub,rNeg,rInv,rZero,rOf,rWords,rRoot]
end Go.Proofs.YtdebkddhpogkgaaGreat

set_option linter.unusedSimpArgs false
set_option linter.unusedVariables false
namespace Go.Proofs.YtdebkddhpogkgaaGreat
open Go.RowKit Go.Ev
theorem one_fe (x:Int):(feC x).all (fun v=>v.oneCell')=true:=w4_one _ _ _ _
theorem one_nu (x:Int):(nuC x).all (fun v=>v.oneCell')=true:=nuF_one _
theorem ok_absF (x:Int):Ok (absF x):=by unfold absF;split<;>exact ok_mod _
theorem ok_rootV (U V:Int):Ok (rootV U V):=by unfold rootV;split<;>(try split)<;>exact ok_absF _
theorem bd_inv (A:Int):0≤invF A∧invF A<pr:=by unfold invF pm;exact mod_bd _
theorem bd_absR (x:Int) (h:0≤x∧x<pr):0≤absR x∧absR x<pr:=by
  unfold absR
  split
  · exact mod_bd _
  · exact h
theorem bd_rx (s:Int):0≤rx s∧rx s<pr:=by unfold rx rx0 pm;split<;>exact mod_bd _
theorem bd_quoV (u v:Int):0≤quoV u v∧quoV u v<pr:=by
  unfold quoV
  repeat' split
  · exact⟨by decide,by decide⟩
  · exact⟨by decide,by decide⟩
  · exact bd_absR _ (bd_rx _)
  · exact bd_absR _ (bd_rx _)
theorem ok4_dbl (p:P4):Ok4 (dblP p):=ok4_quot _ _ _ _
theorem ok4_add (p q:P4):Ok4 (addP p q):=by
  unfold addP
  split
  · exact ok4_dbl p
  · exact ok4_quot _ _ _ _
theorem ok4_of (A B:Int) (hA:Ok A) (hB:Ok B):Ok4 (ofP A B):=⟨hA,hB,ok_1,ok_mod _⟩
theorem ok4_id:Ok4 (ofP 0 1):=ok4_of 0 1 ok_0 ok_1
theorem ok4_base:Ok4 (ofP bxN byN):=ok4_of _ _ ok_bx ok_by
theorem bd_0:(0:Int)≤0∧(0:Int)<pr:=⟨by decide,by decide⟩
theorem bd_1:(0:Int)≤1∧(1:Int)<pr:=⟨by decide,by decide⟩
theorem nn_mod (x:Int):nn (nuC (x%pr))=x%pr:=nn_nuC _ (mod_bd x)
theorem nn_inv (x:Int):nn (nuC (invF x))=invF x:=nn_nuC _ (bd_inv x)
theorem nm_inv (x:Int):nm (feC (invF x))=invF x:=nm_feC _ (ok_pm _ _)
theorem nm_d:nm (feC dN)=dN:=nm_feC _ ok_dN
theorem bd_d:0≤dN∧dN<pr:=⟨by decide,by decide⟩
theorem nn_d:nn (nuC dN)=dN:=nn_nuC _ bd_d
theorem nm_1:nm (feC 1)=1:=nm_feC _ ok_1
theorem nn_1:nn (nuC 1)=1:=nn_nuC _ bd_1
theorem nm_root (U V:Int):nm (feC (rootV U V))=rootV U V:=nm_feC _ (ok_rootV U V)
theorem nn_quo (U V:Int):nn (nuC (quoV U V))=quoV U V:=nn_nuC _ (bd_quoV U V)
theorem nm_d2:nm (feC d2N)=d2N:=nm_feC _ ok_d2
theorem nm_00:nm (feC 0)=0:=nm_feC _ ok_0
theorem nm_bx:nm (feC bxN)=bxN:=nm_feC _ ok_bx
theorem nm_by:nm (feC byN)=byN:=nm_feC _ ok_by
def edD_h (i:Nat):Hn:=⟨0,[],[],[],[]⟩
theorem edD_0:evF (yty.en tab0) edD_h Tryz.f60 [] []=some (.agg (feC 37095705934669439343138083508754565189542113879843219016388785533085940283555),((True∧True)∧((feC 37095705934669439343138083508754565189542113879843219016388785533085940283555).all (fun v=>v.oneCell')=true))):=by kernel_rfl
def edD_F:Value:= .agg (feC 37095705934669439343138083508754565189542113879843219016388785533085940283555)
set_option maxHeartbeats 4000000 in
theorem edD_p:Pure Tryz.prog 60 #[] (edD_F):=by
  unfold edD_F
  exact pure_of mixed Tryz.func60 _ (edD_0) rfl ⟨⟨trivial,trivial⟩,one_fe _⟩
def edD2_h (i:Nat):Hn:=⟨0,[],[],[],[]⟩
theorem edD2_0:evF (yty.en tab0) edD2_h Tryz.f89 [] []=some (.agg (feC 16295367250680780974490674513165176452449235426866156013048779062215315747161),((True∧True)∧((feC 16295367250680780974490674513165176452449235426866156013048779062215315747161).all (fun v=>v.oneCell')=true))):=by kernel_rfl
def edD2_F:Value:= .agg (feC 16295367250680780974490674513165176452449235426866156013048779062215315747161)
set_option maxHeartbeats 4000000 in
theorem edD2_p:Pure Tryz.prog 89 #[] (edD2_F):=by
  unfold edD2_F
  exact pure_of mixed Tryz.func89 _ (edD2_0) rfl ⟨⟨trivial,trivial⟩,one_fe _⟩
theorem EdD_c:Pure Tryz.prog 60 #[] (.agg (feC dN)):=edD_p
theorem EdD2_c:Pure Tryz.prog 89 #[] (.agg (feC d2N)):=edD2_p
def pD:Entry Tryz.prog:=ent0 Tryz.func60 (by kernel_rfl) (by kernel_rfl) (.agg (feC dN)) EdD_c
def pD2:Entry Tryz.prog:=ent0 Tryz.func89 (by kernel_rfl) (by kernel_rfl) (.agg (feC d2N)) EdD2_c
def tab0a:List (Entry Tryz.prog):=pD :: pD2 :: tab0
def edO_h (i:Nat):Hn:=if i=1 then⟨7,[],[],[],[]⟩ else⟨0,[],[],[],[]⟩
theorem edO_0 (A B:Int):evF (yty.en tab0a) edO_h Tryz.f70 [.agg (feC A),.agg (feC B)] []=some (.agg (ptC (⟨A,B,1,nm (feC A)*nm (feC B)%pr⟩:P4)),((((((((True∧True)∧True)∧(IntKind.u64=IntKind.u64∧w64 1))∧True)∧True)∧(feD.is (feC A)∧feD.is (feC B)))∧True)∧((ptC (⟨A,B,1,nm (feC A)*nm (feC B)%pr⟩:P4)).all (fun v=>v.oneCell')=true))):=by kernel_rfl
def edO_F (A B:Int):Value:= .agg (ptC (⟨A,B,1,nm (feC A)*nm (feC B)%pr⟩:P4))
set_option maxHeartbeats 4000000 in
theorem edO_p (A B:Int) (hA:Ok A) (hB:Ok B):Pure Tryz.prog 70 #[.agg (feC A),.agg (feC B)] (edO_F A B):=by
  unfold edO_F
  exact pure_of mixed Tryz.func70 _ (edO_0 A B) rfl ⟨⟨⟨⟨⟨⟨⟨⟨trivial,trivial⟩,trivial⟩,⟨rfl,⟨by decide,by decide⟩⟩⟩,trivial⟩,trivial⟩,⟨(feD.is_enc (hA)),(feD.is_enc (hB))⟩⟩,trivial⟩,ptC_one _⟩
def edO_R (A B:Int):P4:=(⟨A,B,1,A*B%pr⟩:P4)
def edO_S (A B:Int):Value:= .agg (ptC (edO_R A B))
theorem edO_e (A B:Int) (hA:Ok A) (hB:Ok B):edO_F A B=edO_S A B:=by
  unfold edO_F edO_S edO_R
  try simp only[nm_mod,nn_mod,nm_inv,nn_inv,nm_d,nn_d,nm_1,nn_1,nm_root,nn_quo,nm_feC _ hA,nm_feC _ hB]
theorem EdOf_c (A B:Int) (hA:Ok A) (hB:Ok B):Pure Tryz.prog 70 #[.agg (feC A),.agg (feC B)] (.agg (ptC (ofP A B))):=by
  have h:=edO_p A B hA hB
  rwa[edO_e A B hA hB] at h
def pOf:Entry Tryz.prog:=ent2 Tryz.func70 (by kernel_rfl) (by kernel_rfl) feD feD (fun A B:Int=> .agg (ptC (ofP A B))) EdOf_c
def edQ_h (i:Nat):Hn:=if i=1 then⟨13,[],[],[],[]⟩ else⟨0,[],[],[],[]⟩
theorem edQ_0 (A B C D:Int):evF (yty.en tab0a) edQ_h Tryz.f90 [.agg (feC A),.agg (feC B),.agg (feC C),.agg (feC D)] []=some (.agg (ptC (⟨nm (feC A)*nm (feC D)%pr,nm (feC C)*nm (feC B)%pr,nm (feC B)*nm (feC D)%pr,nm (feC A)*nm (feC C)%pr⟩:P4)),((((((((((((((True∧True)∧True)∧(feD.is (feC A)∧feD.is (feC D)))∧True)∧True)∧(feD.is (feC C)∧feD.is (feC B)))∧True)∧True)∧(feD.is (feC B)∧feD.is (feC D)))∧True)∧True)∧(feD.is (feC A)∧feD.is (feC C)))∧True)∧((ptC (⟨nm (feC A)*nm (feC D)%pr,nm (feC C)*nm (feC B)%pr,nm (feC B)*nm (feC D)%pr,nm (feC A)*nm (feC C)%pr⟩:P4)).all (fun v=>v.oneCell')=true))):=by kernel_rfl
def edQ_F (A B C D:Int):Value:= .agg (ptC (⟨nm (feC A)*nm (feC D)%pr,nm (feC C)*nm (feC B)%pr,nm (feC B)*nm (feC D)%pr,nm (feC A)*nm (feC C)%pr⟩:P4))
set_option maxHeartbeats 4000000 in
theorem edQ_p (A B C D:Int) (hA:Ok A) (hB:Ok B) (hC:Ok C) (hD:Ok D):Pure Tryz.prog 90 #[.agg (feC A),.agg (feC B),.agg (feC C),.agg (feC D)] (edQ_F A B C D):=by
  unfold edQ_F
  exact pure_of mixed Tryz.func90 _ (edQ_0 A B C D) rfl ⟨⟨⟨⟨⟨⟨⟨⟨⟨⟨⟨⟨⟨⟨trivial,trivial⟩,trivial⟩,⟨(feD.is_enc (hA)),(feD.is_enc (hD))⟩⟩,trivial⟩,trivial⟩,⟨(feD.is_enc (hC)),(feD.is_enc (hB))⟩⟩,trivial⟩,trivial⟩,⟨(feD.is_enc (hB)),(feD.is_enc (hD))⟩⟩,trivial⟩,trivial⟩,⟨(feD.is_enc (hA)),(feD.is_enc (hC))⟩⟩,trivial⟩,ptC_one _⟩
def edQ_R (A B C D:Int):P4:=(⟨A*D%pr,C*B%pr,B*D%pr,A*C%pr⟩:P4)
def edQ_S (A B C D:Int):Value:= .agg (ptC (edQ_R A B C D))
theorem edQ_e (A B C D:Int) (hA:Ok A) (hB:Ok B) (hC:Ok C) (hD:Ok D):edQ_F A B C D=edQ_S A B C D:=by
  unfold edQ_F edQ_S edQ_R
  try simp only[nm_mod,nn_mod,nm_inv,nn_inv,nm_d,nn_d,nm_1,nn_1,nm_root,nn_quo,nm_feC _ hA,nm_feC _ hB,nm_feC _ hC,nm_feC _ hD]
theorem EdQuot_c (A B C D:Int) (hA:Ok A) (hB:Ok B) (hC:Ok C) (hD:Ok D):Pure Tryz.prog 90 #[.agg (feC A),.agg (feC B),.agg (feC C),.agg (feC D)] (.agg (ptC (quotP A B C D))):=by
  have h:=edQ_p A B C D hA hB hC hD
  rwa[edQ_e A B C D hA hB hC hD] at h
def pQuot:Entry Tryz.prog:=ent4 Tryz.func90 (by kernel_rfl) (by kernel_rfl) feD feD feD feD (fun A B C D:Int=> .agg (ptC (quotP A B C D))) EdQuot_c
def tab0b:List (Entry Tryz.prog):=pOf :: pQuot :: tab0a
def edI_h (i:Nat):Hn:=⟨0,[],[],[],[]⟩
theorem edI_0:evF (yty.en tab0b) edI_h Tryz.f64 [] []=some (.agg (ptC (ofP (nm (feC 0)) (nm (feC 1)))),((((True∧(IntKind.u64=IntKind.u64∧w64 0))∧(IntKind.u64=IntKind.u64∧w64 1))∧(feD.is (feC 0)∧feD.is (feC 1)))∧((ptC (ofP (nm (feC 0)) (nm (feC 1)))).all (fun v=>v.oneCell')=true))):=by kernel_rfl
def edI_F:Value:= .agg (ptC (ofP (nm (feC 0)) (nm (feC 1))))
set_option maxHeartbeats 4000000 in
theorem edI_p:Pure Tryz.prog 64 #[] (edI_F):=by
  unfold edI_F
  exact pure_of mixed Tryz.func64 _ (edI_0) rfl ⟨⟨⟨⟨trivial,⟨rfl,⟨by decide,by decide⟩⟩⟩,⟨rfl,⟨by decide,by decide⟩⟩⟩,⟨(feD.is_enc (show Ok 0 from⟨by decide,by decide⟩)),(feD.is_enc (show Ok 1 from⟨by decide,by decide⟩))⟩⟩,ptC_one _⟩
def edI_R:P4:=ofP (0) (1)
def edI_S:Value:= .agg (ptC (edI_R))
theorem edI_e:edI_F=edI_S:=by
  unfold edI_F edI_S edI_R
  try simp only[nm_mod,nn_mod,nm_inv,nn_inv,nm_d,nn_d,nm_1,nn_1,nm_root,nn_quo,nm_00]
theorem EdIdentity_c:Pure Tryz.prog 64 #[] (.agg (ptC (ofP 0 1))):=by
  have h:=edI_p
  rwa[edI_e] at h
def pIdentity:Entry Tryz.prog:=ent0 Tryz.func64 (by kernel_rfl) (by kernel_rfl) (.agg (ptC (ofP 0 1))) EdIdentity_c
def edB_h (i:Nat):Hn:=⟨0,[],[],[],[]⟩
theorem edB_0:evF (yty.en tab0b) edB_h Tryz.f45 [] []=some (.agg (ptC (ofP (nm (feC 15112221349535400772501151409588531511454012693041857206046113283949847762202)) (nm (feC 46316835694926478169428394003475163141307993866256225615783033603165251855960)))),((((((((True∧True)∧((feC 15112221349535400772501151409588531511454012693041857206046113283949847762202).all (fun v=>v.oneCell')=true))∧True)∧((feC 46316835694926478169428394003475163141307993866256225615783033603165251855960).all (fun v=>v.oneCell')=true))∧True)∧True)∧(feD.is (feC 15112221349535400772501151409588531511454012693041857206046113283949847762202)∧feD.is (feC 46316835694926478169428394003475163141307993866256225615783033603165251855960)))∧((ptC (ofP (nm (feC 15112221349535400772501151409588531511454012693041857206046113283949847762202)) (nm (feC 46316835694926478169428394003475163141307993866256225615783033603165251855960)))).all (fun v=>v.oneCell')=true))):=by kernel_rfl
def edB_F:Value:= .agg (ptC (ofP (nm (feC 15112221349535400772501151409588531511454012693041857206046113283949847762202)) (nm (feC 46316835694926478169428394003475163141307993866256225615783033603165251855960))))
set_option maxHeartbeats 4000000 in
theorem edB_p:Pure Tryz.prog 45 #[] (edB_F):=by
  unfold edB_F
  exact pure_of mixed Tryz.func45 _ (edB_0) rfl ⟨⟨⟨⟨⟨⟨⟨⟨trivial,trivial⟩,one_fe _⟩,trivial⟩,one_fe _⟩,trivial⟩,trivial⟩,⟨(feD.is_enc (show Ok 15112221349535400772501151409588531511454012693041857206046113283949847762202 from⟨by decide,by decide⟩)),(feD.is_enc (show Ok 46316835694926478169428394003475163141307993866256225615783033603165251855960 from⟨by decide,by decide⟩))⟩⟩,ptC_one _⟩
theorem EdBase_c:Pure Tryz.prog 45 #[] (.agg (ptC (ofP bxN byN))):=by
  have h:=edB_p
  unfold edB_F at h
  rwa[show nm (feC 15112221349535400772501151409588531511454012693041857206046113283949847762202)=bxN from nm_bx,show nm (feC 46316835694926478169428394003475163141307993866256225615783033603165251855960)=byN from nm_by] at h
def pBase:Entry Tryz.prog:=ent0 Tryz.func45 (by kernel_rfl) (by kernel_rfl) (.agg (ptC (ofP bxN byN))) EdBase_c
def edT_v0 (p:P4):Int:=nm (feC p.X)*nm (feC p.X)%pr
def edT_u0 (p:P4):Int:=p.X*p.X%pr
theorem edT_w0 (p:P4) (hp:Ok4 p):edT_v0 p=edT_u0 p:=by
  have⟨hX,hY,hZ,hT⟩:=hp
  unfold edT_v0 edT_u0
  simp only[nm_mod,nn_mod,nm_inv,nn_inv,nm_d,nn_d,nm_1,nn_1,nm_root,nn_quo,nm_feC _ hX,nm_feC _ hY,nm_feC _ hZ]
theorem edT_x0 (p:P4) (hp:Ok4 p):nm (feC (edT_v0 p))=edT_u0 p:=by
  have⟨hX,hY,hZ,hT⟩:=hp
  exact(nm_feC _ (ok_mod _)).trans (edT_w0 p hp)
def edT_v1 (p:P4):Int:=nm (feC p.Y)*nm (feC p.Y)%pr
def edT_u1 (p:P4):Int:=p.Y*p.Y%pr
theorem edT_w1 (p:P4) (hp:Ok4 p):edT_v1 p=edT_u1 p:=by
  have⟨hX,hY,hZ,hT⟩:=hp
  unfold edT_v1 edT_u1
  simp only[nm_mod,nn_mod,nm_inv,nn_inv,nm_d,nn_d,nm_1,nn_1,nm_root,nn_quo,nm_feC _ hX,nm_feC _ hY,nm_feC _ hZ]
theorem edT_x1 (p:P4) (hp:Ok4 p):nm (feC (edT_v1 p))=edT_u1 p:=by
  have⟨hX,hY,hZ,hT⟩:=hp
  exact(nm_feC _ (ok_mod _)).trans (edT_w1 p hp)
def edT_v2 (p:P4):Int:=nm (feC p.Z)*nm (feC p.Z)%pr
def edT_u2 (p:P4):Int:=p.Z*p.Z%pr
theorem edT_w2 (p:P4) (hp:Ok4 p):edT_v2 p=edT_u2 p:=by
  have⟨hX,hY,hZ,hT⟩:=hp
  unfold edT_v2 edT_u2
  simp only[nm_mod,nn_mod,nm_inv,nn_inv,nm_d,nn_d,nm_1,nn_1,nm_root,nn_quo,nm_feC _ hX,nm_feC _ hY,nm_feC _ hZ]
theorem edT_x2 (p:P4) (hp:Ok4 p):nm (feC (edT_v2 p))=edT_u2 p:=by
  have⟨hX,hY,hZ,hT⟩:=hp
  exact(nm_feC _ (ok_mod _)).trans (edT_w2 p hp)
def edT_v3 (p:P4):Int:=(nm (feC p.X)+nm (feC p.Y))%pr
def edT_u3 (p:P4):Int:=(p.X+p.Y)%pr
theorem edT_w3 (p:P4) (hp:Ok4 p):edT_v3 p=edT_u3 p:=by
  have⟨hX,hY,hZ,hT⟩:=hp
  unfold edT_v3 edT_u3
  simp only[nm_mod,nn_mod,nm_inv,nn_inv,nm_d,nn_d,nm_1,nn_1,nm_root,nn_quo,nm_feC _ hX,nm_feC _ hY,nm_feC _ hZ]
theorem edT_x3 (p:P4) (hp:Ok4 p):nm (feC (edT_v3 p))=edT_u3 p:=by
  have⟨hX,hY,hZ,hT⟩:=hp
  exact(nm_feC _ (ok_mod _)).trans (edT_w3 p hp)
def edT_v4 (p:P4):Int:=(nm (feC (edT_v1 p))+nm (feC (edT_v0 p)))%pr
def edT_u4 (p:P4):Int:=((edT_u1 p)+(edT_u0 p))%pr
theorem edT_w4 (p:P4) (hp:Ok4 p):edT_v4 p=edT_u4 p:=by
  have⟨hX,hY,hZ,hT⟩:=hp
  unfold edT_v4 edT_u4
  simp only[nm_mod,nn_mod,nm_inv,nn_inv,nm_d,nn_d,nm_1,nn_1,nm_root,nn_quo,nm_feC _ hX,nm_feC _ hY,nm_feC _ hZ,edT_x0 p hp,edT_x1 p hp]
theorem edT_x4 (p:P4) (hp:Ok4 p):nm (feC (edT_v4 p))=edT_u4 p:=by
  have⟨hX,hY,hZ,hT⟩:=hp
  exact(nm_feC _ (ok_mod _)).trans (edT_w4 p hp)
def edT_v5 (p:P4):Int:=(nm (feC (edT_v1 p)) - nm (feC (edT_v0 p)))%pr
def edT_u5 (p:P4):Int:=((edT_u1 p) - (edT_u0 p))%pr
theorem edT_w5 (p:P4) (hp:Ok4 p):edT_v5 p=edT_u5 p:=by
  have⟨hX,hY,hZ,hT⟩:=hp
  unfold edT_v5 edT_u5
  simp only[nm_mod,nn_mod,nm_inv,nn_inv,nm_d,nn_d,nm_1,nn_1,nm_root,nn_quo,nm_feC _ hX,nm_feC _ hY,nm_feC _ hZ,edT_x0 p hp,edT_x1 p hp]
theorem edT_x5 (p:P4) (hp:Ok4 p):nm (feC (edT_v5 p))=edT_u5 p:=by
  have⟨hX,hY,hZ,hT⟩:=hp
  exact(nm_feC _ (ok_mod _)).trans (edT_w5 p hp)
def edT_v6 (p:P4):Int:=nm (feC (edT_v3 p))*nm (feC (edT_v3 p))%pr
def edT_u6 (p:P4):Int:=(edT_u3 p)*(edT_u3 p)%pr
theorem edT_w6 (p:P4) (hp:Ok4 p):edT_v6 p=edT_u6 p:=by
  have⟨hX,hY,hZ,hT⟩:=hp
  unfold edT_v6 edT_u6
  simp only[nm_mod,nn_mod,nm_inv,nn_inv,nm_d,nn_d,nm_1,nn_1,nm_root,nn_quo,nm_feC _ hX,nm_feC _ hY,nm_feC _ hZ,edT_x3 p hp]
theorem edT_x6 (p:P4) (hp:Ok4 p):nm (feC (edT_v6 p))=edT_u6 p:=by
  have⟨hX,hY,hZ,hT⟩:=hp
  exact(nm_feC _ (ok_mod _)).trans (edT_w6 p hp)
def edT_v7 (p:P4):Int:=(nm (feC (edT_v6 p)) - nm (feC (edT_v4 p)))%pr
def edT_u7 (p:P4):Int:=((edT_u6 p) - (edT_u4 p))%pr
theorem edT_w7 (p:P4) (hp:Ok4 p):edT_v7 p=edT_u7 p:=by
  have⟨hX,hY,hZ,hT⟩:=hp
  unfold edT_v7 edT_u7
  simp only[nm_mod,nn_mod,nm_inv,nn_inv,nm_d,nn_d,nm_1,nn_1,nm_root,nn_quo,nm_feC _ hX,nm_feC _ hY,nm_feC _ hZ,edT_x4 p hp,edT_x6 p hp]
theorem edT_x7 (p:P4) (hp:Ok4 p):nm (feC (edT_v7 p))=edT_u7 p:=by
  have⟨hX,hY,hZ,hT⟩:=hp
  exact(nm_feC _ (ok_mod _)).trans (edT_w7 p hp)
def edT_v8 (p:P4):Int:=(nm (feC (edT_v2 p))+nm (feC (edT_v2 p)))%pr
def edT_u8 (p:P4):Int:=((edT_u2 p)+(edT_u2 p))%pr
theorem edT_w8 (p:P4) (hp:Ok4 p):edT_v8 p=edT_u8 p:=by
  have⟨hX,hY,hZ,hT⟩:=hp
  unfold edT_v8 edT_u8
  simp only[nm_mod,nn_mod,nm_inv,nn_inv,nm_d,nn_d,nm_1,nn_1,nm_root,nn_quo,nm_feC _ hX,nm_feC _ hY,nm_feC _ hZ,edT_x2 p hp]
theorem edT_x8 (p:P4) (hp:Ok4 p):nm (feC (edT_v8 p))=edT_u8 p:=by
  have⟨hX,hY,hZ,hT⟩:=hp
  exact(nm_feC _ (ok_mod _)).trans (edT_w8 p hp)
def edT_v9 (p:P4):Int:=(nm (feC (edT_v8 p)) - nm (feC (edT_v5 p)))%pr
def edT_u9 (p:P4):Int:=((edT_u8 p) - (edT_u5 p))%pr
theorem edT_w9 (p:P4) (hp:Ok4 p):edT_v9 p=edT_u9 p:=by
  have⟨hX,hY,hZ,hT⟩:=hp
  unfold edT_v9 edT_u9
  simp only[nm_mod,nn_mod,nm_inv,nn_inv,nm_d,nn_d,nm_1,nn_1,nm_root,nn_quo,nm_feC _ hX,nm_feC _ hY,nm_feC _ hZ,edT_x5 p hp,edT_x8 p hp]
theorem edT_x9 (p:P4) (hp:Ok4 p):nm (feC (edT_v9 p))=edT_u9 p:=by
  have⟨hX,hY,hZ,hT⟩:=hp
  exact(nm_feC _ (ok_mod _)).trans (edT_w9 p hp)
def edT_v10 (p:P4):P4:=quotP (nm (feC (edT_v7 p))) (nm (feC (edT_v5 p))) (nm (feC (edT_v4 p))) (nm (feC (edT_v9 p)))
def edT_u10 (p:P4):P4:=quotP ((edT_u7 p)) ((edT_u5 p)) ((edT_u4 p)) ((edT_u9 p))
theorem edT_w10 (p:P4) (hp:Ok4 p):edT_v10 p=edT_u10 p:=by
  have⟨hX,hY,hZ,hT⟩:=hp
  unfold edT_v10 edT_u10
  simp only[nm_mod,nn_mod,nm_inv,nn_inv,nm_d,nn_d,nm_1,nn_1,nm_root,nn_quo,nm_feC _ hX,nm_feC _ hY,nm_feC _ hZ,edT_x4 p hp,edT_x5 p hp,edT_x7 p hp,edT_x9 p hp]
theorem edT_x10 (p:P4) (hp:Ok4 p):dp (ptC (edT_v10 p))=edT_u10 p:=by
  have⟨hX,hY,hZ,hT⟩:=hp
  exact(dp_ptC _ (ok4_quot _ _ _ _)).trans (edT_w10 p hp)
def edT_h (i:Nat):Hn:=if i=1 then⟨18,[],[],[],[]⟩ else if i=3 then⟨8,[],[],[],[]⟩ else if i=4 then⟨13,[],[],[],[]⟩ else⟨0,[],[],[],[]⟩
theorem edT_0 (p:P4):evF (yty.en tab0b) edT_h Tryz.f88 [.agg (ptC p)] []=some (.agg (ptC (edT_v10 p)),((((((((((((((((((((((((((((((((((((((((((((((True∧True)∧True)∧True)∧True)∧(feD.is (feC p.X)∧feD.is (feC p.X)))∧True)∧True)∧True)∧True)∧(feD.is (feC p.Y)∧feD.is (feC p.Y)))∧True)∧True)∧True)∧True)∧(feD.is (feC p.Z)∧feD.is (feC p.Z)))∧((feC (edT_v0 p)).all (fun v=>v.oneCell')=true))∧((feC (edT_v1 p)).all (fun v=>v.oneCell')=true))∧((feC (edT_v2 p)).all (fun v=>v.oneCell')=true))∧True)∧True)∧True)∧True)∧(feD.is (feC p.X)∧feD.is (feC p.Y)))∧((feC (edT_v3 p)).all (fun v=>v.oneCell')=true))∧True)∧True)∧(feD.is (feC (edT_v1 p))∧feD.is (feC (edT_v0 p))))∧True)∧True)∧(feD.is (feC (edT_v1 p))∧feD.is (feC (edT_v0 p))))∧((feC (edT_v4 p)).all (fun v=>v.oneCell')=true))∧((feC (edT_v5 p)).all (fun v=>v.oneCell')=true))∧True)∧True)∧(feD.is (feC (edT_v3 p))∧feD.is (feC (edT_v3 p))))∧True)∧(feD.is (feC (edT_v6 p))∧feD.is (feC (edT_v4 p))))∧True)∧True)∧True)∧True)∧(feD.is (feC (edT_v2 p))∧feD.is (feC (edT_v2 p))))∧True)∧(feD.is (feC (edT_v8 p))∧feD.is (feC (edT_v5 p))))∧(feD.is (feC (edT_v7 p))∧feD.is (feC (edT_v5 p))∧feD.is (feC (edT_v4 p))∧feD.is (feC (edT_v9 p))))∧((ptC (edT_v10 p)).all (fun v=>v.oneCell')=true))):=by kernel_rfl
def edT_F (p:P4):Value:= .agg (ptC (edT_v10 p))
set_option maxHeartbeats 4000000 in
theorem edT_p (p:P4) (hp:Ok4 p):Pure Tryz.prog 88 #[.agg (ptC p)] (edT_F p):=by
  have⟨hX,hY,hZ,hT⟩:=hp
  unfold edT_F
  exact pure_of mixed Tryz.func88 _ (edT_0 p) rfl ⟨⟨⟨⟨⟨⟨⟨⟨⟨⟨⟨⟨⟨⟨⟨⟨⟨⟨⟨⟨⟨⟨⟨⟨⟨⟨⟨⟨⟨⟨⟨⟨⟨⟨⟨⟨⟨⟨⟨⟨⟨⟨⟨⟨⟨⟨trivial,trivial⟩,trivial⟩,trivial⟩,trivial⟩,⟨(feD.is_enc (hp.1)),(feD.is_enc (hp.1))⟩⟩,trivial⟩,trivial⟩,trivial⟩,trivial⟩,⟨(feD.is_enc (hp.2.1)),(feD.is_enc (hp.2.1))⟩⟩,trivial⟩,trivial⟩,trivial⟩,trivial⟩,⟨(feD.is_enc (hp.2.2.1)),(feD.is_enc (hp.2.2.1))⟩⟩,one_fe _⟩,one_fe _⟩,one_fe _⟩,trivial⟩,trivial⟩,trivial⟩,trivial⟩,⟨(feD.is_enc (hp.1)),(feD.is_enc (hp.2.1))⟩⟩,one_fe _⟩,trivial⟩,trivial⟩,⟨(feD.is_enc (ok_mod _)),(feD.is_enc (ok_mod _))⟩⟩,trivial⟩,trivial⟩,⟨(feD.is_enc (ok_mod _)),(feD.is_enc (ok_mod _))⟩⟩,one_fe _⟩,one_fe _⟩,trivial⟩,trivial⟩,⟨(feD.is_enc (ok_mod _)),(feD.is_enc (ok_mod _))⟩⟩,trivial⟩,⟨(feD.is_enc (ok_mod _)),(feD.is_enc (ok_mod _))⟩⟩,trivial⟩,trivial⟩,trivial⟩,trivial⟩,⟨(feD.is_enc (ok_mod _)),(feD.is_enc (ok_mod _))⟩⟩,trivial⟩,⟨(feD.is_enc (ok_mod _)),(feD.is_enc (ok_mod _))⟩⟩,⟨(feD.is_enc (ok_mod _)),(feD.is_enc (ok_mod _)),(feD.is_enc (ok_mod _)),(feD.is_enc (ok_mod _))⟩⟩,ptC_one _⟩
def edT_R (p:P4):P4:=(edT_u10 p)
def edT_S (p:P4):Value:= .agg (ptC (edT_R p))
theorem edT_e (p:P4) (hp:Ok4 p):edT_F p=edT_S p:=by
  have⟨hX,hY,hZ,hT⟩:=hp
  unfold edT_F edT_S edT_R
  try simp only[nm_mod,nn_mod,nm_inv,nn_inv,nm_d,nn_d,nm_1,nn_1,nm_root,nn_quo,nm_feC _ hX,nm_feC _ hY,nm_feC _ hZ,edT_x0 p hp,edT_x1 p hp,edT_x2 p hp,edT_x3 p hp,edT_x4 p hp,edT_x5 p hp,edT_x6 p hp,edT_x7 p hp,edT_x8 p hp,edT_x9 p hp,edT_x10 p hp]
  try simp only[edT_w0 p hp,edT_w1 p hp,edT_w2 p hp,edT_w3 p hp,edT_w4 p hp,edT_w5 p hp,edT_w6 p hp,edT_w7 p hp,edT_w8 p hp,edT_w9 p hp,edT_w10 p hp]
theorem EdTwice_c (p:P4) (hp:Ok4 p):Pure Tryz.prog 88 #[.agg (ptC p)] (.agg (ptC (dblP p))):=by
  have h:=edT_p p hp
  rw[edT_e p hp] at h
  have e:edT_S p= .agg (ptC (dblP p)):=by
    unfold edT_S edT_R
    delta edT_u0 edT_u1 edT_u2 edT_u3 edT_u4 edT_u5 edT_u6 edT_u7 edT_u8 edT_u9 edT_u10
    rfl
  rwa[e] at h
def pTwice:Entry Tryz.prog:=ent1 Tryz.func88 (by kernel_rfl) (by kernel_rfl) ptD (fun p=> .agg (ptC (dblP p))) EdTwice_c
def tab0c:List (Entry Tryz.prog):=pIdentity :: pBase :: pTwice :: tab0b
def edA_v0 (p q:P4):Int:=(nm (feC p.Y) - nm (feC p.X))%pr
def edA_u0 (p q:P4):Int:=(p.Y - p.X)%pr
theorem edA_w0 (p q:P4) (hp:Ok4 p) (hq:Ok4 q):edA_v0 p q=edA_u0 p q:=by
  have⟨hX,hY,hZ,hT⟩:=hp
  have⟨kX,kY,kZ,kT⟩:=hq
  unfold edA_v0 edA_u0
  simp only[nm_mod,nn_mod,nm_inv,nn_inv,nm_d,nn_d,nm_1,nn_1,nm_root,nn_quo,dp_ptC _ hp,dp_ptC _ hq,nm_d2,nm_feC _ hX,nm_feC _ hY,nm_feC _ hZ,nm_feC _ hT,nm_feC _ kX,nm_feC _ kY,nm_feC _ kZ,nm_feC _ kT]
theorem edA_x0 (p q:P4) (hp:Ok4 p) (hq:Ok4 q):nm (feC (edA_v0 p q))=edA_u0 p q:=by
  have⟨hX,hY,hZ,hT⟩:=hp
  have⟨kX,kY,kZ,kT⟩:=hq
  exact(nm_feC _ (ok_mod _)).trans (edA_w0 p q hp hq)
def edA_v1 (p q:P4):Int:=(nm (feC q.Y) - nm (feC q.X))%pr
def edA_u1 (p q:P4):Int:=(q.Y - q.X)%pr
theorem edA_w1 (p q:P4) (hp:Ok4 p) (hq:Ok4 q):edA_v1 p q=edA_u1 p q:=by
  have⟨hX,hY,hZ,hT⟩:=hp
  have⟨kX,kY,kZ,kT⟩:=hq
  unfold edA_v1 edA_u1
  simp only[nm_mod,nn_mod,nm_inv,nn_inv,nm_d,nn_d,nm_1,nn_1,nm_root,nn_quo,dp_ptC _ hp,dp_ptC _ hq,nm_d2,nm_feC _ hX,nm_feC _ hY,nm_feC _ hZ,nm_feC _ hT,nm_feC _ kX,nm_feC _ kY,nm_feC _ kZ,nm_feC _ kT]
theorem edA_x1 (p q:P4) (hp:Ok4 p) (hq:Ok4 q):nm (feC (edA_v1 p q))=edA_u1 p q:=by
  have⟨hX,hY,hZ,hT⟩:=hp
  have⟨kX,kY,kZ,kT⟩:=hq
  exact(nm_feC _ (ok_mod _)).trans (edA_w1 p q hp hq)
def edA_v2 (p q:P4):Int:=nm (feC (edA_v0 p q))*nm (feC (edA_v1 p q))%pr
def edA_u2 (p q:P4):Int:=(edA_u0 p q)*(edA_u1 p q)%pr
theorem edA_w2 (p q:P4) (hp:Ok4 p) (hq:Ok4 q):edA_v2 p q=edA_u2 p q:=by
  have⟨hX,hY,hZ,hT⟩:=hp
  have⟨kX,kY,kZ,kT⟩:=hq
  unfold edA_v2 edA_u2
  simp only[nm_mod,nn_mod,nm_inv,nn_inv,nm_d,nn_d,nm_1,nn_1,nm_root,nn_quo,dp_ptC _ hp,dp_ptC _ hq,nm_d2,nm_feC _ hX,nm_feC _ hY,nm_feC _ hZ,nm_feC _ hT,nm_feC _ kX,nm_feC _ kY,nm_feC _ kZ,nm_feC _ kT,edA_x0 p q hp hq,edA_x1 p q hp hq]
theorem edA_x2 (p q:P4) (hp:Ok4 p) (hq:Ok4 q):nm (feC (edA_v2 p q))=edA_u2 p q:=by
  have⟨hX,hY,hZ,hT⟩:=hp
  have⟨kX,kY,kZ,kT⟩:=hq
  exact(nm_feC _ (ok_mod _)).trans (edA_w2 p q hp hq)
def edA_v3 (p q:P4):Int:=(nm (feC p.Y)+nm (feC p.X))%pr
def edA_u3 (p q:P4):Int:=(p.Y+p.X)%pr
theorem edA_w3 (p q:P4) (hp:Ok4 p) (hq:Ok4 q):edA_v3 p q=edA_u3 p q:=by
  have⟨hX,hY,hZ,hT⟩:=hp
  have⟨kX,kY,kZ,kT⟩:=hq
  unfold edA_v3 edA_u3
  simp only[nm_mod,nn_mod,nm_inv,nn_inv,nm_d,nn_d,nm_1,nn_1,nm_root,nn_quo,dp_ptC _ hp,dp_ptC _ hq,nm_d2,nm_feC _ hX,nm_feC _ hY,nm_feC _ hZ,nm_feC _ hT,nm_feC _ kX,nm_feC _ kY,nm_feC _ kZ,nm_feC _ kT]
theorem edA_x3 (p q:P4) (hp:Ok4 p) (hq:Ok4 q):nm (feC (edA_v3 p q))=edA_u3 p q:=by
  have⟨hX,hY,hZ,hT⟩:=hp
  have⟨kX,kY,kZ,kT⟩:=hq
  exact(nm_feC _ (ok_mod _)).trans (edA_w3 p q hp hq)
def edA_v4 (p q:P4):Int:=(nm (feC q.Y)+nm (feC q.X))%pr
def edA_u4 (p q:P4):Int:=(q.Y+q.X)%pr
theorem edA_w4 (p q:P4) (hp:Ok4 p) (hq:Ok4 q):edA_v4 p q=edA_u4 p q:=by
  have⟨hX,hY,hZ,hT⟩:=hp
  have⟨kX,kY,kZ,kT⟩:=hq
  unfold edA_v4 edA_u4
  simp only[nm_mod,nn_mod,nm_inv,nn_inv,nm_d,nn_d,nm_1,nn_1,nm_root,nn_quo,dp_ptC _ hp,dp_ptC _ hq,nm_d2,nm_feC _ hX,nm_feC _ hY,nm_feC _ hZ,nm_feC _ hT,nm_feC _ kX,nm_feC _ kY,nm_feC _ kZ,nm_feC _ kT]
theorem edA_x4 (p q:P4) (hp:Ok4 p) (hq:Ok4 q):nm (feC (edA_v4 p q))=edA_u4 p q:=by
  have⟨hX,hY,hZ,hT⟩:=hp
  have⟨kX,kY,kZ,kT⟩:=hq
  exact(nm_feC _ (ok_mod _)).trans (edA_w4 p q hp hq)
def edA_v5 (p q:P4):Int:=nm (feC (edA_v3 p q))*nm (feC (edA_v4 p q))%pr
def edA_u5 (p q:P4):Int:=(edA_u3 p q)*(edA_u4 p q)%pr
theorem edA_w5 (p q:P4) (hp:Ok4 p) (hq:Ok4 q):edA_v5 p q=edA_u5 p q:=by
  have⟨hX,hY,hZ,hT⟩:=hp
  have⟨kX,kY,kZ,kT⟩:=hq
  unfold edA_v5 edA_u5
  simp only[nm_mod,nn_mod,nm_inv,nn_inv,nm_d,nn_d,nm_1,nn_1,nm_root,nn_quo,dp_ptC _ hp,dp_ptC _ hq,nm_d2,nm_feC _ hX,nm_feC _ hY,nm_feC _ hZ,nm_feC _ hT,nm_feC _ kX,nm_feC _ kY,nm_feC _ kZ,nm_feC _ kT,edA_x3 p q hp hq,edA_x4 p q hp hq]
theorem edA_x5 (p q:P4) (hp:Ok4 p) (hq:Ok4 q):nm (feC (edA_v5 p q))=edA_u5 p q:=by
  have⟨hX,hY,hZ,hT⟩:=hp
  have⟨kX,kY,kZ,kT⟩:=hq
  exact(nm_feC _ (ok_mod _)).trans (edA_w5 p q hp hq)
def edA_v6 (p q:P4):Int:=nm (feC p.Z)*nm (feC q.Z)%pr
def edA_u6 (p q:P4):Int:=p.Z*q.Z%pr
theorem edA_w6 (p q:P4) (hp:Ok4 p) (hq:Ok4 q):edA_v6 p q=edA_u6 p q:=by
  have⟨hX,hY,hZ,hT⟩:=hp
  have⟨kX,kY,kZ,kT⟩:=hq
  unfold edA_v6 edA_u6
  simp only[nm_mod,nn_mod,nm_inv,nn_inv,nm_d,nn_d,nm_1,nn_1,nm_root,nn_quo,dp_ptC _ hp,dp_ptC _ hq,nm_d2,nm_feC _ hX,nm_feC _ hY,nm_feC _ hZ,nm_feC _ hT,nm_feC _ kX,nm_feC _ kY,nm_feC _ kZ,nm_feC _ kT]
theorem edA_x6 (p q:P4) (hp:Ok4 p) (hq:Ok4 q):nm (feC (edA_v6 p q))=edA_u6 p q:=by
  have⟨hX,hY,hZ,hT⟩:=hp
  have⟨kX,kY,kZ,kT⟩:=hq
  exact(nm_feC _ (ok_mod _)).trans (edA_w6 p q hp hq)
def edA_v7 (p q:P4):Int:=(nm (feC (edA_v6 p q))+nm (feC (edA_v6 p q)))%pr
def edA_u7 (p q:P4):Int:=((edA_u6 p q)+(edA_u6 p q))%pr
theorem edA_w7 (p q:P4) (hp:Ok4 p) (hq:Ok4 q):edA_v7 p q=edA_u7 p q:=by
  have⟨hX,hY,hZ,hT⟩:=hp
  have⟨kX,kY,kZ,kT⟩:=hq
  unfold edA_v7 edA_u7
  simp only[nm_mod,nn_mod,nm_inv,nn_inv,nm_d,nn_d,nm_1,nn_1,nm_root,nn_quo,dp_ptC _ hp,dp_ptC _ hq,nm_d2,nm_feC _ hX,nm_feC _ hY,nm_feC _ hZ,nm_feC _ hT,nm_feC _ kX,nm_feC _ kY,nm_feC _ kZ,nm_feC _ kT,edA_x6 p q hp hq]
theorem edA_x7 (p q:P4) (hp:Ok4 p) (hq:Ok4 q):nm (feC (edA_v7 p q))=edA_u7 p q:=by
  have⟨hX,hY,hZ,hT⟩:=hp
  have⟨kX,kY,kZ,kT⟩:=hq
  exact(nm_feC _ (ok_mod _)).trans (edA_w7 p q hp hq)
def edA_v8 (p q:P4):Int:=nm (feC p.T)*nm (feC q.T)%pr
def edA_u8 (p q:P4):Int:=p.T*q.T%pr
theorem edA_w8 (p q:P4) (hp:Ok4 p) (hq:Ok4 q):edA_v8 p q=edA_u8 p q:=by
  have⟨hX,hY,hZ,hT⟩:=hp
  have⟨kX,kY,kZ,kT⟩:=hq
  unfold edA_v8 edA_u8
  simp only[nm_mod,nn_mod,nm_inv,nn_inv,nm_d,nn_d,nm_1,nn_1,nm_root,nn_quo,dp_ptC _ hp,dp_ptC _ hq,nm_d2,nm_feC _ hX,nm_feC _ hY,nm_feC _ hZ,nm_feC _ hT,nm_feC _ kX,nm_feC _ kY,nm_feC _ kZ,nm_feC _ kT]
theorem edA_x8 (p q:P4) (hp:Ok4 p) (hq:Ok4 q):nm (feC (edA_v8 p q))=edA_u8 p q:=by
  have⟨hX,hY,hZ,hT⟩:=hp
  have⟨kX,kY,kZ,kT⟩:=hq
  exact(nm_feC _ (ok_mod _)).trans (edA_w8 p q hp hq)
def edA_v9 (p q:P4):Int:=nm (feC d2N)*nm (feC (edA_v8 p q))%pr
def edA_u9 (p q:P4):Int:=d2N*(edA_u8 p q)%pr
theorem edA_w9 (p q:P4) (hp:Ok4 p) (hq:Ok4 q):edA_v9 p q=edA_u9 p q:=by
  have⟨hX,hY,hZ,hT⟩:=hp
  have⟨kX,kY,kZ,kT⟩:=hq
  unfold edA_v9 edA_u9
  simp only[nm_mod,nn_mod,nm_inv,nn_inv,nm_d,nn_d,nm_1,nn_1,nm_root,nn_quo,dp_ptC _ hp,dp_ptC _ hq,nm_d2,nm_feC _ hX,nm_feC _ hY,nm_feC _ hZ,nm_feC _ hT,nm_feC _ kX,nm_feC _ kY,nm_feC _ kZ,nm_feC _ kT,edA_x8 p q hp hq]
theorem edA_x9 (p q:P4) (hp:Ok4 p) (hq:Ok4 q):nm (feC (edA_v9 p q))=edA_u9 p q:=by
  have⟨hX,hY,hZ,hT⟩:=hp
  have⟨kX,kY,kZ,kT⟩:=hq
  exact(nm_feC _ (ok_mod _)).trans (edA_w9 p q hp hq)
def edA_v10 (p q:P4):Int:=(nm (feC (edA_v5 p q)) - nm (feC (edA_v2 p q)))%pr
def edA_u10 (p q:P4):Int:=((edA_u5 p q) - (edA_u2 p q))%pr
theorem edA_w10 (p q:P4) (hp:Ok4 p) (hq:Ok4 q):edA_v10 p q=edA_u10 p q:=by
  have⟨hX,hY,hZ,hT⟩:=hp
  have⟨kX,kY,kZ,kT⟩:=hq
  unfold edA_v10 edA_u10
  simp only[nm_mod,nn_mod,nm_inv,nn_inv,nm_d,nn_d,nm_1,nn_1,nm_root,nn_quo,dp_ptC _ hp,dp_ptC _ hq,nm_d2,nm_feC _ hX,nm_feC _ hY,nm_feC _ hZ,nm_feC _ hT,nm_feC _ kX,nm_feC _ kY,nm_feC _ kZ,nm_feC _ kT,edA_x2 p q hp hq,edA_x5 p q hp hq]
theorem edA_x10 (p q:P4) (hp:Ok4 p) (hq:Ok4 q):nm (feC (edA_v10 p q))=edA_u10 p q:=by
  have⟨hX,hY,hZ,hT⟩:=hp
  have⟨kX,kY,kZ,kT⟩:=hq
  exact(nm_feC _ (ok_mod _)).trans (edA_w10 p q hp hq)
def edA_v11 (p q:P4):Int:=(nm (feC (edA_v7 p q))+nm (feC (edA_v9 p q)))%pr
def edA_u11 (p q:P4):Int:=((edA_u7 p q)+(edA_u9 p q))%pr
theorem edA_w11 (p q:P4) (hp:Ok4 p) (hq:Ok4 q):edA_v11 p q=edA_u11 p q:=by
  have⟨hX,hY,hZ,hT⟩:=hp
  have⟨kX,kY,kZ,kT⟩:=hq
  unfold edA_v11 edA_u11
  simp only[nm_mod,nn_mod,nm_inv,nn_inv,nm_d,nn_d,nm_1,nn_1,nm_root,nn_quo,dp_ptC _ hp,dp_ptC _ hq,nm_d2,nm_feC _ hX,nm_feC _ hY,nm_feC _ hZ,nm_feC _ hT,nm_feC _ kX,nm_feC _ kY,nm_feC _ kZ,nm_feC _ kT,edA_x7 p q hp hq,edA_x9 p q hp hq]
theorem edA_x11 (p q:P4) (hp:Ok4 p) (hq:Ok4 q):nm (feC (edA_v11 p q))=edA_u11 p q:=by
  have⟨hX,hY,hZ,hT⟩:=hp
  have⟨kX,kY,kZ,kT⟩:=hq
  exact(nm_feC _ (ok_mod _)).trans (edA_w11 p q hp hq)
def edA_v12 (p q:P4):Int:=(nm (feC (edA_v5 p q))+nm (feC (edA_v2 p q)))%pr
def edA_u12 (p q:P4):Int:=((edA_u5 p q)+(edA_u2 p q))%pr
theorem edA_w12 (p q:P4) (hp:Ok4 p) (hq:Ok4 q):edA_v12 p q=edA_u12 p q:=by
  have⟨hX,hY,hZ,hT⟩:=hp
  have⟨kX,kY,kZ,kT⟩:=hq
  unfold edA_v12 edA_u12
  simp only[nm_mod,nn_mod,nm_inv,nn_inv,nm_d,nn_d,nm_1,nn_1,nm_root,nn_quo,dp_ptC _ hp,dp_ptC _ hq,nm_d2,nm_feC _ hX,nm_feC _ hY,nm_feC _ hZ,nm_feC _ hT,nm_feC _ kX,nm_feC _ kY,nm_feC _ kZ,nm_feC _ kT,edA_x2 p q hp hq,edA_x5 p q hp hq]
theorem edA_x12 (p q:P4) (hp:Ok4 p) (hq:Ok4 q):nm (feC (edA_v12 p q))=edA_u12 p q:=by
  have⟨hX,hY,hZ,hT⟩:=hp
  have⟨kX,kY,kZ,kT⟩:=hq
  exact(nm_feC _ (ok_mod _)).trans (edA_w12 p q hp hq)
def edA_v13 (p q:P4):Int:=(nm (feC (edA_v7 p q)) - nm (feC (edA_v9 p q)))%pr
def edA_u13 (p q:P4):Int:=((edA_u7 p q) - (edA_u9 p q))%pr
theorem edA_w13 (p q:P4) (hp:Ok4 p) (hq:Ok4 q):edA_v13 p q=edA_u13 p q:=by
  have⟨hX,hY,hZ,hT⟩:=hp
  have⟨kX,kY,kZ,kT⟩:=hq
  unfold edA_v13 edA_u13
  simp only[nm_mod,nn_mod,nm_inv,nn_inv,nm_d,nn_d,nm_1,nn_1,nm_root,nn_quo,dp_ptC _ hp,dp_ptC _ hq,nm_d2,nm_feC _ hX,nm_feC _ hY,nm_feC _ hZ,nm_feC _ hT,nm_feC _ kX,nm_feC _ kY,nm_feC _ kZ,nm_feC _ kT,edA_x7 p q hp hq,edA_x9 p q hp hq]
theorem edA_x13 (p q:P4) (hp:Ok4 p) (hq:Ok4 q):nm (feC (edA_v13 p q))=edA_u13 p q:=by
  have⟨hX,hY,hZ,hT⟩:=hp
  have⟨kX,kY,kZ,kT⟩:=hq
  exact(nm_feC _ (ok_mod _)).trans (edA_w13 p q hp hq)
def edA_v14 (p q:P4):P4:=quotP (nm (feC (edA_v10 p q))) (nm (feC (edA_v11 p q))) (nm (feC (edA_v12 p q))) (nm (feC (edA_v13 p q)))
def edA_u14 (p q:P4):P4:=quotP ((edA_u10 p q)) ((edA_u11 p q)) ((edA_u12 p q)) ((edA_u13 p q))
theorem edA_w14 (p q:P4) (hp:Ok4 p) (hq:Ok4 q):edA_v14 p q=edA_u14 p q:=by
  have⟨hX,hY,hZ,hT⟩:=hp
  have⟨kX,kY,kZ,kT⟩:=hq
  unfold edA_v14 edA_u14
  simp only[nm_mod,nn_mod,nm_inv,nn_inv,nm_d,nn_d,nm_1,nn_1,nm_root,nn_quo,dp_ptC _ hp,dp_ptC _ hq,nm_d2,nm_feC _ hX,nm_feC _ hY,nm_feC _ hZ,nm_feC _ hT,nm_feC _ kX,nm_feC _ kY,nm_feC _ kZ,nm_feC _ kT,edA_x10 p q hp hq,edA_x11 p q hp hq,edA_x12 p q hp hq,edA_x13 p q hp hq]
theorem edA_x14 (p q:P4) (hp:Ok4 p) (hq:Ok4 q):dp (ptC (edA_v14 p q))=edA_u14 p q:=by
  have⟨hX,hY,hZ,hT⟩:=hp
  have⟨kX,kY,kZ,kT⟩:=hq
  exact(dp_ptC _ (ok4_quot _ _ _ _)).trans (edA_w14 p q hp hq)
def edA_h (i:Nat):Hn:=if i=3 then⟨12,[],[],[],[]⟩ else if i=4 then⟨12,[],[],[],[]⟩ else if i=7 then⟨8,[],[],[],[]⟩ else if i=8 then⟨13,[],[],[],[]⟩ else⟨0,[],[],[],[]⟩
theorem edA_0 (p q:P4):evF (yty.en tab0c) edA_h Tryz.f65 [.agg (ptC p),.agg (ptC q)] [some (.bool true)]=some (.agg (ptC (dblP (dp (ptC p)))),((((((True∧True)∧True)∧((ptD.is (ptC p)∧ptD.is (ptC q))∧(decide (same4 (dp (ptC p)) (dp (ptC q))))=true))∧True)∧ptD.is (ptC p))∧((ptC (dblP (dp (ptC p)))).all (fun v=>v.oneCell')=true))):=by kernel_rfl
theorem edA_1 (p q:P4):evF (yty.en tab0c) edA_h Tryz.f65 [.agg (ptC p),.agg (ptC q)] [some (.bool false)]=some (.agg (ptC (edA_v14 p q)),(((((((((((((((((((((((((((((((((((((((((((((((((((((((((((True∧True)∧True)∧((ptD.is (ptC p)∧ptD.is (ptC q))∧(decide (same4 (dp (ptC p)) (dp (ptC q))))=false))∧True)∧True)∧True)∧True)∧(feD.is (feC p.Y)∧feD.is (feC p.X)))∧True)∧True)∧True)∧True)∧(feD.is (feC q.Y)∧feD.is (feC q.X)))∧(feD.is (feC (edA_v0 p q))∧feD.is (feC (edA_v1 p q))))∧((feC (edA_v2 p q)).all (fun v=>v.oneCell')=true))∧True)∧True)∧True)∧True)∧(feD.is (feC p.Y)∧feD.is (feC p.X)))∧True)∧True)∧True)∧True)∧(feD.is (feC q.Y)∧feD.is (feC q.X)))∧(feD.is (feC (edA_v3 p q))∧feD.is (feC (edA_v4 p q))))∧((feC (edA_v5 p q)).all (fun v=>v.oneCell')=true))∧True)∧True)∧True)∧True)∧(feD.is (feC p.Z)∧feD.is (feC q.Z)))∧((feC (edA_v6 p q)).all (fun v=>v.oneCell')=true))∧True)∧True)∧(feD.is (feC (edA_v6 p q))∧feD.is (feC (edA_v6 p q))))∧((feC (edA_v7 p q)).all (fun v=>v.oneCell')=true))∧True)∧True)∧True)∧True)∧True)∧(feD.is (feC p.T)∧feD.is (feC q.T)))∧(feD.is (feC d2N)∧feD.is (feC (edA_v8 p q))))∧((feC (edA_v9 p q)).all (fun v=>v.oneCell')=true))∧True)∧True)∧(feD.is (feC (edA_v5 p q))∧feD.is (feC (edA_v2 p q))))∧True)∧True)∧(feD.is (feC (edA_v7 p q))∧feD.is (feC (edA_v9 p q))))∧True)∧True)∧(feD.is (feC (edA_v5 p q))∧feD.is (feC (edA_v2 p q))))∧True)∧True)∧(feD.is (feC (edA_v7 p q))∧feD.is (feC (edA_v9 p q))))∧(feD.is (feC (edA_v10 p q))∧feD.is (feC (edA_v11 p q))∧feD.is (feC (edA_v12 p q))∧feD.is (feC (edA_v13 p q))))∧((ptC (edA_v14 p q)).all (fun v=>v.oneCell')=true))):=by kernel_rfl
def edA_F (p q:P4):Value:=cond (decide (same4 (dp (ptC p)) (dp (ptC q)))) (.agg (ptC (dblP (dp (ptC p))))) (.agg (ptC (edA_v14 p q)))
set_option maxHeartbeats 4000000 in
theorem edA_p (p q:P4) (hp:Ok4 p) (hq:Ok4 q):Pure Tryz.prog 65 #[.agg (ptC p),.agg (ptC q)] (edA_F p q):=by
  have⟨hX,hY,hZ,hT⟩:=hp
  have⟨kX,kY,kZ,kT⟩:=hq
  unfold edA_F
  cases h0:(decide (same4 (dp (ptC p)) (dp (ptC q))))
  · skip
    exact pure_of mixed Tryz.func65 _ (edA_1 p q) rfl ⟨⟨⟨⟨⟨⟨⟨⟨⟨⟨⟨⟨⟨⟨⟨⟨⟨⟨⟨⟨⟨⟨⟨⟨⟨⟨⟨⟨⟨⟨⟨⟨⟨⟨⟨⟨⟨⟨⟨⟨⟨⟨⟨⟨⟨⟨⟨⟨⟨⟨⟨⟨⟨⟨⟨⟨⟨⟨⟨trivial,trivial⟩,trivial⟩,⟨⟨(ptD.is_enc (hp)),(ptD.is_enc (hq))⟩,h0⟩⟩,trivial⟩,trivial⟩,trivial⟩,trivial⟩,⟨(feD.is_enc (hp.2.1)),(feD.is_enc (hp.1))⟩⟩,trivial⟩,trivial⟩,trivial⟩,trivial⟩,⟨(feD.is_enc (hq.2.1)),(feD.is_enc (hq.1))⟩⟩,⟨(feD.is_enc (ok_mod _)),(feD.is_enc (ok_mod _))⟩⟩,one_fe _⟩,trivial⟩,trivial⟩,trivial⟩,trivial⟩,⟨(feD.is_enc (hp.2.1)),(feD.is_enc (hp.1))⟩⟩,trivial⟩,trivial⟩,trivial⟩,trivial⟩,⟨(feD.is_enc (hq.2.1)),(feD.is_enc (hq.1))⟩⟩,⟨(feD.is_enc (ok_mod _)),(feD.is_enc (ok_mod _))⟩⟩,one_fe _⟩,trivial⟩,trivial⟩,trivial⟩,trivial⟩,⟨(feD.is_enc (hp.2.2.1)),(feD.is_enc (hq.2.2.1))⟩⟩,one_fe _⟩,trivial⟩,trivial⟩,⟨(feD.is_enc (ok_mod _)),(feD.is_enc (ok_mod _))⟩⟩,one_fe _⟩,trivial⟩,trivial⟩,trivial⟩,trivial⟩,trivial⟩,⟨(feD.is_enc (hp.2.2.2)),(feD.is_enc (hq.2.2.2))⟩⟩,⟨(feD.is_enc (ok_d2)),(feD.is_enc (ok_mod _))⟩⟩,one_fe _⟩,trivial⟩,trivial⟩,⟨(feD.is_enc (ok_mod _)),(feD.is_enc (ok_mod _))⟩⟩,trivial⟩,trivial⟩,⟨(feD.is_enc (ok_mod _)),(feD.is_enc (ok_mod _))⟩⟩,trivial⟩,trivial⟩,⟨(feD.is_enc (ok_mod _)),(feD.is_enc (ok_mod _))⟩⟩,trivial⟩,trivial⟩,⟨(feD.is_enc (ok_mod _)),(feD.is_enc (ok_mod _))⟩⟩,⟨(feD.is_enc (ok_mod _)),(feD.is_enc (ok_mod _)),(feD.is_enc (ok_mod _)),(feD.is_enc (ok_mod _))⟩⟩,ptC_one _⟩
  · skip
    exact pure_of mixed Tryz.func65 _ (edA_0 p q) rfl ⟨⟨⟨⟨⟨⟨trivial,trivial⟩,trivial⟩,⟨⟨(ptD.is_enc (hp)),(ptD.is_enc (hq))⟩,h0⟩⟩,trivial⟩,(ptD.is_enc (hp))⟩,ptC_one _⟩
def edA_S (p q:P4):Value:=cond (decide (same4 (p) (q))) (.agg (ptC (dblP (p)))) (.agg (ptC (edA_u14 p q)))
theorem edA_e (p q:P4) (hp:Ok4 p) (hq:Ok4 q):edA_F p q=edA_S p q:=by
  have⟨hX,hY,hZ,hT⟩:=hp
  have⟨kX,kY,kZ,kT⟩:=hq
  unfold edA_F edA_S
  try simp only[nm_mod,nn_mod,nm_inv,nn_inv,nm_d,nn_d,nm_1,nn_1,nm_root,nn_quo,dp_ptC _ hp,dp_ptC _ hq,nm_d2,nm_feC _ hX,nm_feC _ hY,nm_feC _ hZ,nm_feC _ hT,nm_feC _ kX,nm_feC _ kY,nm_feC _ kZ,nm_feC _ kT,edA_x0 p q hp hq,edA_x1 p q hp hq,edA_x2 p q hp hq,edA_x3 p q hp hq,edA_x4 p q hp hq,edA_x5 p q hp hq,edA_x6 p q hp hq,edA_x7 p q hp hq,edA_x8 p q hp hq,edA_x9 p q hp hq,edA_x10 p q hp hq,edA_x11 p q hp hq,edA_x12 p q hp hq,edA_x13 p q hp hq,edA_x14 p q hp hq]
  try simp only[edA_w0 p q hp hq,edA_w1 p q hp hq,edA_w2 p q hp hq,edA_w3 p q hp hq,edA_w4 p q hp hq,edA_w5 p q hp hq,edA_w6 p q hp hq,edA_w7 p q hp hq,edA_w8 p q hp hq,edA_w9 p q hp hq,edA_w10 p q hp hq,edA_w11 p q hp hq,edA_w12 p q hp hq,edA_w13 p q hp hq,edA_w14 p q hp hq]
theorem EdAdd_c (p q:P4) (hp:Ok4 p) (hq:Ok4 q):Pure Tryz.prog 65 #[.agg (ptC p),.agg (ptC q)] (.agg (ptC (addP p q))):=by
  have h:=edA_p p q hp hq
  rw[edA_e p q hp hq] at h
  have e : edA_S p q = .agg (ptC (addP p q)) := by
    unfold edA_S
    delta edA_u0 edA_u1 edA_u2 edA_u3 edA_u4 edA_u5 edA_u6 edA_u7 edA_u8 edA_u9 edA_u10 edA_u11 edA_u12 edA_u13 edA_u14
    unfold addP
    by_cases h0:same4 p q
    · rw[decide_eq_true h0,if_pos h0];rfl
    · rw [decide_eq_false h0, if_neg h0]
      unfold addQ pl mi zz tt
      rfl
  rwa[e] at h
def pAdd:Entry Tryz.prog:=ent2 Tryz.func65 (by kernel_rfl) (by kernel_rfl) ptD ptD (fun p q=> .agg (ptC (addP p q))) EdAdd_c
def tab1:List (Entry Tryz.prog):=pAdd :: tab0c
end Go.Proofs.YtdebkddhpogkgaaGreat

set_option linter.unusedSimpArgs false
set_option linter.unusedVariables false
namespace Go.Proofs.YtdebkddhpogkgaaGreat
open Go.RowKit Go.Ev
def rd_h (i:Nat):Hn:=⟨0,[],[],[],[]⟩
theorem rd_0:evF (yty.en tab1) rd_h Tryz.f100 [] []=some (.agg (nuC (nn (nuC (-(nn (nuC 121665))%pr))*nn (nuC (invF (nn (nuC 121666))))%pr)),((((((True∧(IntKind.u64=IntKind.u64∧w64 121665))∧nuD.is (nuC 121665))∧(IntKind.u64=IntKind.u64∧w64 121666))∧nuD.is (nuC 121666))∧(nuD.is (nuC (-(nn (nuC 121665))%pr))∧nuD.is (nuC (invF (nn (nuC 121666))))))∧((nuC (nn (nuC (-(nn (nuC 121665))%pr))*nn (nuC (invF (nn (nuC 121666))))%pr)).all (fun v=>v.oneCell')=true))):=by kernel_rfl
def rd_F:Value:= .agg (nuC (nn (nuC (-(nn (nuC 121665))%pr))*nn (nuC (invF (nn (nuC 121666))))%pr))
set_option maxHeartbeats 4000000 in
theorem rd_p:Pure Tryz.prog 100 #[] (rd_F):=by
  unfold rd_F
  exact pure_of mixed Tryz.func100 _ (rd_0) rfl ⟨⟨⟨⟨⟨⟨trivial,⟨rfl,⟨by decide,by decide⟩⟩⟩,(nuD.is_enc ⟨by decide,by decide⟩)⟩,⟨rfl,⟨by decide,by decide⟩⟩⟩,(nuD.is_enc ⟨by decide,by decide⟩)⟩,⟨(nuD.is_enc (mod_bd _)),(nuD.is_enc (bd_inv _))⟩⟩,one_nu _⟩
def rd_R:Int:=(-(121665)%pr)*(invF (121666))%pr
def rd_S:Value:= .agg (nuC (rd_R))
theorem rd_e:rd_F=rd_S:=by
  unfold rd_F rd_S rd_R
  try simp only[nm_mod,nn_mod,nm_inv,nn_inv,nm_d,nn_d,nm_1,nn_1,nm_root,nn_quo,nn_nuC 121665 ⟨by decide,by decide⟩,nn_nuC 121666 ⟨by decide,by decide⟩]
def raf_h (i:Nat):Hn:=if i=2 then⟨8,[],[],[],[]⟩ else⟨0,[],[],[],[]⟩
theorem raf_0 (p:P3):evF (yty.en tab1) raf_h Tryz.f71 [.agg (rpC p)] []=some (.tuple #[.agg (nuC (nn (nuC p.X)*nn (nuC (invF (nn (nuC p.Z))))%pr)),.agg (nuC (nn (nuC p.Y)*nn (nuC (invF (nn (nuC p.Z))))%pr))],((((((((((((((True∧True)∧True)∧nuD.is (nuC p.Z))∧((nuC (invF (nn (nuC p.Z)))).all (fun v=>v.oneCell')=true))∧True)∧True)∧True)∧(nuD.is (nuC p.X)∧nuD.is (nuC (invF (nn (nuC p.Z))))))∧True)∧True)∧True)∧(nuD.is (nuC p.Y)∧nuD.is (nuC (invF (nn (nuC p.Z))))))∧((nuC (nn (nuC p.X)*nn (nuC (invF (nn (nuC p.Z))))%pr)).all (fun v=>v.oneCell')=true))∧((nuC (nn (nuC p.Y)*nn (nuC (invF (nn (nuC p.Z))))%pr)).all (fun v=>v.oneCell')=true))):=by kernel_rfl
def raf_F (p:P3):Value:= .tuple #[.agg (nuC (nn (nuC p.X)*nn (nuC (invF (nn (nuC p.Z))))%pr)),.agg (nuC (nn (nuC p.Y)*nn (nuC (invF (nn (nuC p.Z))))%pr))]
set_option maxHeartbeats 4000000 in
theorem raf_p (p:P3) (hp:Nu3 p):Pure Tryz.prog 71 #[.agg (rpC p)] (raf_F p):=by
  have⟨hX,hY,hZ⟩:=hp
  unfold raf_F
  exact pure_of mixed Tryz.func71 _ (raf_0 p) rfl ⟨⟨⟨⟨⟨⟨⟨⟨⟨⟨⟨⟨⟨⟨trivial,trivial⟩,trivial⟩,(nuD.is_enc (hp.2.2))⟩,one_nu _⟩,trivial⟩,trivial⟩,trivial⟩,⟨(nuD.is_enc (hp.1)),(nuD.is_enc (bd_inv _))⟩⟩,trivial⟩,trivial⟩,trivial⟩,⟨(nuD.is_enc (hp.2.1)),(nuD.is_enc (bd_inv _))⟩⟩,one_nu _⟩,one_nu _⟩
def raf_S (p:P3):Value:= .tuple #[.agg (nuC (p.X*(invF (p.Z))%pr)),.agg (nuC (p.Y*(invF (p.Z))%pr))]
theorem raf_e (p:P3) (hp:Nu3 p):raf_F p=raf_S p:=by
  have⟨hX,hY,hZ⟩:=hp
  unfold raf_F raf_S
  try simp only[nm_mod,nn_mod,nm_inv,nn_inv,nm_d,nn_d,nm_1,nn_1,nm_root,nn_quo,nn_nuC _ hX,nn_nuC _ hY,nn_nuC _ hZ]
end Go.Proofs.YtdebkddhpogkgaaGreat

set_option linter.unusedSimpArgs false
set_option linter.unusedVariables false
namespace Go.Proofs.YtdebkddhpogkgaaGreat
open Go.RowKit Go.Ev
theorem d_inv: -121665%pr*invF 121666%pr=dN:=by
  have h1: -121665%pr=121666*dN%pr:=by decide
  have h2:=inv_ok 121666 (by decide)
  rw[h1,eml,show 121666*dN*invF 121666=dN*(121666*invF 121666) by grind,← emr,h2]
  decide
theorem RD_c:Pure Tryz.prog 100 #[] (.agg (nuC dN)):=by
  have h:=rd_p
  rw[rd_e] at h
  unfold rd_S rd_R at h
  rwa[show -(121665:Int)%pr*invF 121666%pr=dN from d_inv] at h
def qD:Entry Tryz.prog:=ent0 Tryz.func100 (by kernel_rfl) (by kernel_rfl) (.agg (nuC dN)) RD_c
def atU (y:Int):Int:=(y*y%pr - 1)%pr
def atV (y:Int):Int:=(dN*(y*y%pr)%pr+1)%pr
end Go.Proofs.YtdebkddhpogkgaaGreat

set_option linter.unusedSimpArgs false
set_option linter.unusedVariables false
namespace Go.Proofs.YtdebkddhpogkgaaGreat
open Go.RowKit Go.Ev
def rafX (p:P3):Int:=p.X*invF p.Z%pr
def rafY (p:P3):Int:=p.Y*invF p.Z%pr
theorem RAffine_c (p:P3) (hp:Nu3 p):Pure Tryz.prog 71 #[.agg (rpC p)] (.tuple #[.agg (nuC (rafX p)),.agg (nuC (rafY p))]):=by
  have h:=raf_p p hp
  rwa[raf_e p hp] at h
def qAffine:Entry Tryz.prog:=ent1 Tryz.func71 (by kernel_rfl) (by kernel_rfl) rpD (fun p=> .tuple #[.agg (nuC (rafX p)),.agg (nuC (rafY p))]) RAffine_c
def tab2:List (Entry Tryz.prog):=qD :: qAffine :: tab1
def rat_h (i:Nat):Hn:=if i=2 then⟨4,[],[],[],[]⟩ else if i=3 then⟨6,[],[],[],[]⟩ else if i=9 then⟨4,[],[],[],[]⟩ else⟨0,[],[],[],[]⟩
theorem rat_0 (y:Int):evF (yty.en tab2) rat_h Tryz.f82 [.agg (nuC y),.bool true] [some (.bool true),some (.bool true)]=some (.tuple #[.agg (rpC (⟨0,0,0⟩:P3)),.bool false],(((((((((((((((((((((((((((((((((((True∧True)∧True)∧True)∧(nuD.is (nuC y)∧nuD.is (nuC y)))∧((nuC (nn (nuC y)*nn (nuC y)%pr)).all (fun v=>v.oneCell')=true))∧True)∧(IntKind.u64=IntKind.u64∧w64 1))∧(nuD.is (nuC (nn (nuC y)*nn (nuC y)%pr))∧nuD.is (nuC 1)))∧((nuC ((nn (nuC (nn (nuC y)*nn (nuC y)%pr)) - nn (nuC 1))%pr)).all (fun v=>v.oneCell')=true))∧True)∧True)∧(nuD.is (nuC dN)∧nuD.is (nuC (nn (nuC y)*nn (nuC y)%pr))))∧(IntKind.u64=IntKind.u64∧w64 1))∧(nuD.is (nuC (nn (nuC dN)*nn (nuC (nn (nuC y)*nn (nuC y)%pr))%pr))∧nuD.is (nuC 1)))∧((nuC ((nn (nuC (nn (nuC dN)*nn (nuC (nn (nuC y)*nn (nuC y)%pr))%pr))+nn (nuC 1))%pr)).all (fun v=>v.oneCell')=true))∧True)∧True)∧(nuD.is (nuC ((nn (nuC (nn (nuC y)*nn (nuC y)%pr)) - nn (nuC 1))%pr))∧nuD.is (nuC ((nn (nuC (nn (nuC dN)*nn (nuC (nn (nuC y)*nn (nuC y)%pr))%pr))+nn (nuC 1))%pr))))∧True)∧True)∧(True∧(quoB (nn (nuC ((nn (nuC (nn (nuC y)*nn (nuC y)%pr)) - nn (nuC 1))%pr))) (nn (nuC ((nn (nuC (nn (nuC dN)*nn (nuC (nn (nuC y)*nn (nuC y)%pr))%pr))+nn (nuC 1))%pr))))=true))∧((nuC (quoV (nn (nuC ((nn (nuC (nn (nuC y)*nn (nuC y)%pr)) - nn (nuC 1))%pr))) (nn (nuC ((nn (nuC (nn (nuC dN)*nn (nuC (nn (nuC y)*nn (nuC y)%pr))%pr))+nn (nuC 1))%pr))))).all (fun v=>v.oneCell')=true))∧True)∧True)∧True)∧True)∧True)∧True)∧True)∧(nuD.is (nuC (quoV (nn (nuC ((nn (nuC (nn (nuC y)*nn (nuC y)%pr)) - nn (nuC 1))%pr))) (nn (nuC ((nn (nuC (nn (nuC dN)*nn (nuC (nn (nuC y)*nn (nuC y)%pr))%pr))+nn (nuC 1))%pr)))))∧(decide (nn (nuC (quoV (nn (nuC ((nn (nuC (nn (nuC y)*nn (nuC y)%pr)) - nn (nuC 1))%pr))) (nn (nuC ((nn (nuC (nn (nuC dN)*nn (nuC (nn (nuC y)*nn (nuC y)%pr))%pr))+nn (nuC 1))%pr)))))=0))=true))∧True)∧True)∧True)∧((rpC (⟨0,0,0⟩:P3)).all (fun v=>v.oneCell')=true))∧True)):=by kernel_rfl
theorem rat_1 (y:Int):evF (yty.en tab2) rat_h Tryz.f82 [.agg (nuC y),.bool true] [some (.bool true),some (.bool false)]=some (.tuple #[.agg (rpC (⟨-(nn (nuC (quoV (nn (nuC ((nn (nuC (nn (nuC y)*nn (nuC y)%pr)) - nn (nuC 1))%pr))) (nn (nuC ((nn (nuC (nn (nuC dN)*nn (nuC (nn (nuC y)*nn (nuC y)%pr))%pr))+nn (nuC 1))%pr))))))%pr,y,1⟩:P3)),.bool true],((((((((((((((((((((((((((((((((((((((((((True∧True)∧True)∧True)∧(nuD.is (nuC y)∧nuD.is (nuC y)))∧((nuC (nn (nuC y)*nn (nuC y)%pr)).all (fun v=>v.oneCell')=true))∧True)∧(IntKind.u64=IntKind.u64∧w64 1))∧(nuD.is (nuC (nn (nuC y)*nn (nuC y)%pr))∧nuD.is (nuC 1)))∧((nuC ((nn (nuC (nn (nuC y)*nn (nuC y)%pr)) - nn (nuC 1))%pr)).all (fun v=>v.oneCell')=true))∧True)∧True)∧(nuD.is (nuC dN)∧nuD.is (nuC (nn (nuC y)*nn (nuC y)%pr))))∧(IntKind.u64=IntKind.u64∧w64 1))∧(nuD.is (nuC (nn (nuC dN)*nn (nuC (nn (nuC y)*nn (nuC y)%pr))%pr))∧nuD.is (nuC 1)))∧((nuC ((nn (nuC (nn (nuC dN)*nn (nuC (nn (nuC y)*nn (nuC y)%pr))%pr))+nn (nuC 1))%pr)).all (fun v=>v.oneCell')=true))∧True)∧True)∧(nuD.is (nuC ((nn (nuC (nn (nuC y)*nn (nuC y)%pr)) - nn (nuC 1))%pr))∧nuD.is (nuC ((nn (nuC (nn (nuC dN)*nn (nuC (nn (nuC y)*nn (nuC y)%pr))%pr))+nn (nuC 1))%pr))))∧True)∧True)∧(True∧(quoB (nn (nuC ((nn (nuC (nn (nuC y)*nn (nuC y)%pr)) - nn (nuC 1))%pr))) (nn (nuC ((nn (nuC (nn (nuC dN)*nn (nuC (nn (nuC y)*nn (nuC y)%pr))%pr))+nn (nuC 1))%pr))))=true))∧((nuC (quoV (nn (nuC ((nn (nuC (nn (nuC y)*nn (nuC y)%pr)) - nn (nuC 1))%pr))) (nn (nuC ((nn (nuC (nn (nuC dN)*nn (nuC (nn (nuC y)*nn (nuC y)%pr))%pr))+nn (nuC 1))%pr))))).all (fun v=>v.oneCell')=true))∧True)∧True)∧True)∧True)∧True)∧True)∧True)∧(nuD.is (nuC (quoV (nn (nuC ((nn (nuC (nn (nuC y)*nn (nuC y)%pr)) - nn (nuC 1))%pr))) (nn (nuC ((nn (nuC (nn (nuC dN)*nn (nuC (nn (nuC y)*nn (nuC y)%pr))%pr))+nn (nuC 1))%pr)))))∧(decide (nn (nuC (quoV (nn (nuC ((nn (nuC (nn (nuC y)*nn (nuC y)%pr)) - nn (nuC 1))%pr))) (nn (nuC ((nn (nuC (nn (nuC dN)*nn (nuC (nn (nuC y)*nn (nuC y)%pr))%pr))+nn (nuC 1))%pr)))))=0))=false))∧True)∧True)∧True)∧True)∧nuD.is (nuC (quoV (nn (nuC ((nn (nuC (nn (nuC y)*nn (nuC y)%pr)) - nn (nuC 1))%pr))) (nn (nuC ((nn (nuC (nn (nuC dN)*nn (nuC (nn (nuC y)*nn (nuC y)%pr))%pr))+nn (nuC 1))%pr))))))∧((nuC (-(nn (nuC (quoV (nn (nuC ((nn (nuC (nn (nuC y)*nn (nuC y)%pr)) - nn (nuC 1))%pr))) (nn (nuC ((nn (nuC (nn (nuC dN)*nn (nuC (nn (nuC y)*nn (nuC y)%pr))%pr))+nn (nuC 1))%pr))))))%pr)).all (fun v=>v.oneCell')=true))∧True)∧True)∧(IntKind.u64=IntKind.u64∧w64 1))∧True)∧((rpC (⟨-(nn (nuC (quoV (nn (nuC ((nn (nuC (nn (nuC y)*nn (nuC y)%pr)) - nn (nuC 1))%pr))) (nn (nuC ((nn (nuC (nn (nuC dN)*nn (nuC (nn (nuC y)*nn (nuC y)%pr))%pr))+nn (nuC 1))%pr))))))%pr,y,1⟩:P3)).all (fun v=>v.oneCell')=true))∧True)):=by kernel_rfl
theorem rat_2 (y:Int):evF (yty.en tab2) rat_h Tryz.f82 [.agg (nuC y),.bool true] [some (.bool false)]=some (.tuple #[.agg (rpC (⟨0,0,0⟩:P3)),.bool false],((((((((((((((((((((((((((((((True∧True)∧True)∧True)∧(nuD.is (nuC y)∧nuD.is (nuC y)))∧((nuC (nn (nuC y)*nn (nuC y)%pr)).all (fun v=>v.oneCell')=true))∧True)∧(IntKind.u64=IntKind.u64∧w64 1))∧(nuD.is (nuC (nn (nuC y)*nn (nuC y)%pr))∧nuD.is (nuC 1)))∧((nuC ((nn (nuC (nn (nuC y)*nn (nuC y)%pr)) - nn (nuC 1))%pr)).all (fun v=>v.oneCell')=true))∧True)∧True)∧(nuD.is (nuC dN)∧nuD.is (nuC (nn (nuC y)*nn (nuC y)%pr))))∧(IntKind.u64=IntKind.u64∧w64 1))∧(nuD.is (nuC (nn (nuC dN)*nn (nuC (nn (nuC y)*nn (nuC y)%pr))%pr))∧nuD.is (nuC 1)))∧((nuC ((nn (nuC (nn (nuC dN)*nn (nuC (nn (nuC y)*nn (nuC y)%pr))%pr))+nn (nuC 1))%pr)).all (fun v=>v.oneCell')=true))∧True)∧True)∧(nuD.is (nuC ((nn (nuC (nn (nuC y)*nn (nuC y)%pr)) - nn (nuC 1))%pr))∧nuD.is (nuC ((nn (nuC (nn (nuC dN)*nn (nuC (nn (nuC y)*nn (nuC y)%pr))%pr))+nn (nuC 1))%pr))))∧True)∧True)∧(True∧(quoB (nn (nuC ((nn (nuC (nn (nuC y)*nn (nuC y)%pr)) - nn (nuC 1))%pr))) (nn (nuC ((nn (nuC (nn (nuC dN)*nn (nuC (nn (nuC y)*nn (nuC y)%pr))%pr))+nn (nuC 1))%pr))))=false))∧((nuC (quoV (nn (nuC ((nn (nuC (nn (nuC y)*nn (nuC y)%pr)) - nn (nuC 1))%pr))) (nn (nuC ((nn (nuC (nn (nuC dN)*nn (nuC (nn (nuC y)*nn (nuC y)%pr))%pr))+nn (nuC 1))%pr))))).all (fun v=>v.oneCell')=true))∧True)∧True)∧True)∧True)∧True)∧True)∧((rpC (⟨0,0,0⟩:P3)).all (fun v=>v.oneCell')=true))∧True)):=by kernel_rfl
def rat_F (y:Int):Value:=cond (quoB (nn (nuC ((nn (nuC (nn (nuC y)*nn (nuC y)%pr)) - nn (nuC 1))%pr))) (nn (nuC ((nn (nuC (nn (nuC dN)*nn (nuC (nn (nuC y)*nn (nuC y)%pr))%pr))+nn (nuC 1))%pr)))) (cond (decide (nn (nuC (quoV (nn (nuC ((nn (nuC (nn (nuC y)*nn (nuC y)%pr)) - nn (nuC 1))%pr))) (nn (nuC ((nn (nuC (nn (nuC dN)*nn (nuC (nn (nuC y)*nn (nuC y)%pr))%pr))+nn (nuC 1))%pr)))))=0)) (.tuple #[.agg (rpC (⟨0,0,0⟩:P3)),.bool false]) (.tuple #[.agg (rpC (⟨-(nn (nuC (quoV (nn (nuC ((nn (nuC (nn (nuC y)*nn (nuC y)%pr)) - nn (nuC 1))%pr))) (nn (nuC ((nn (nuC (nn (nuC dN)*nn (nuC (nn (nuC y)*nn (nuC y)%pr))%pr))+nn (nuC 1))%pr))))))%pr,y,1⟩:P3)),.bool true])) (.tuple #[.agg (rpC (⟨0,0,0⟩:P3)),.bool false])
set_option maxHeartbeats 4000000 in
theorem rat_p (y:Int) (hy:0≤y∧y<pr):Pure Tryz.prog 82 #[.agg (nuC y),.bool true] (rat_F y):=by
  unfold rat_F
  cases h0:(quoB (nn (nuC ((nn (nuC (nn (nuC y)*nn (nuC y)%pr)) - nn (nuC 1))%pr))) (nn (nuC ((nn (nuC (nn (nuC dN)*nn (nuC (nn (nuC y)*nn (nuC y)%pr))%pr))+nn (nuC 1))%pr))))
  · skip
    exact pure_of mixed Tryz.func82 _ (rat_2 y) rfl ⟨⟨⟨⟨⟨⟨⟨⟨⟨⟨⟨⟨⟨⟨⟨⟨⟨⟨⟨⟨⟨⟨⟨⟨⟨⟨⟨⟨⟨⟨trivial,trivial⟩,trivial⟩,trivial⟩,⟨(nuD.is_enc (hy)),(nuD.is_enc (hy))⟩⟩,one_nu _⟩,trivial⟩,⟨rfl,⟨by decide,by decide⟩⟩⟩,⟨(nuD.is_enc (mod_bd _)),(nuD.is_enc ⟨by decide,by decide⟩)⟩⟩,one_nu _⟩,trivial⟩,trivial⟩,⟨(nuD.is_enc (bd_d)),(nuD.is_enc (mod_bd _))⟩⟩,⟨rfl,⟨by decide,by decide⟩⟩⟩,⟨(nuD.is_enc (mod_bd _)),(nuD.is_enc ⟨by decide,by decide⟩)⟩⟩,one_nu _⟩,trivial⟩,trivial⟩,⟨(nuD.is_enc (mod_bd _)),(nuD.is_enc (mod_bd _))⟩⟩,trivial⟩,trivial⟩,⟨trivial,h0⟩⟩,one_nu _⟩,trivial⟩,trivial⟩,trivial⟩,trivial⟩,trivial⟩,trivial⟩,rpC_one _⟩,trivial⟩
  · skip
    cases h1:(decide (nn (nuC (quoV (nn (nuC ((nn (nuC (nn (nuC y)*nn (nuC y)%pr)) - nn (nuC 1))%pr))) (nn (nuC ((nn (nuC (nn (nuC dN)*nn (nuC (nn (nuC y)*nn (nuC y)%pr))%pr))+nn (nuC 1))%pr)))))=0))
    · skip
      exact pure_of mixed Tryz.func82 _ (rat_1 y) rfl ⟨⟨⟨⟨⟨⟨⟨⟨⟨⟨⟨⟨⟨⟨⟨⟨⟨⟨⟨⟨⟨⟨⟨⟨⟨⟨⟨⟨⟨⟨⟨⟨⟨⟨⟨⟨⟨⟨⟨⟨⟨⟨trivial,trivial⟩,trivial⟩,trivial⟩,⟨(nuD.is_enc (hy)),(nuD.is_enc (hy))⟩⟩,one_nu _⟩,trivial⟩,⟨rfl,⟨by decide,by decide⟩⟩⟩,⟨(nuD.is_enc (mod_bd _)),(nuD.is_enc ⟨by decide,by decide⟩)⟩⟩,one_nu _⟩,trivial⟩,trivial⟩,⟨(nuD.is_enc (bd_d)),(nuD.is_enc (mod_bd _))⟩⟩,⟨rfl,⟨by decide,by decide⟩⟩⟩,⟨(nuD.is_enc (mod_bd _)),(nuD.is_enc ⟨by decide,by decide⟩)⟩⟩,one_nu _⟩,trivial⟩,trivial⟩,⟨(nuD.is_enc (mod_bd _)),(nuD.is_enc (mod_bd _))⟩⟩,trivial⟩,trivial⟩,⟨trivial,h0⟩⟩,one_nu _⟩,trivial⟩,trivial⟩,trivial⟩,trivial⟩,trivial⟩,trivial⟩,trivial⟩,⟨(nuD.is_enc (bd_quoV _ _)),h1⟩⟩,trivial⟩,trivial⟩,trivial⟩,trivial⟩,(nuD.is_enc (bd_quoV _ _))⟩,one_nu _⟩,trivial⟩,trivial⟩,⟨rfl,⟨by decide,by decide⟩⟩⟩,trivial⟩,rpC_one _⟩,trivial⟩
    · skip
      exact pure_of mixed Tryz.func82 _ (rat_0 y) rfl ⟨⟨⟨⟨⟨⟨⟨⟨⟨⟨⟨⟨⟨⟨⟨⟨⟨⟨⟨⟨⟨⟨⟨⟨⟨⟨⟨⟨⟨⟨⟨⟨⟨⟨⟨trivial,trivial⟩,trivial⟩,trivial⟩,⟨(nuD.is_enc (hy)),(nuD.is_enc (hy))⟩⟩,one_nu _⟩,trivial⟩,⟨rfl,⟨by decide,by decide⟩⟩⟩,⟨(nuD.is_enc (mod_bd _)),(nuD.is_enc ⟨by decide,by decide⟩)⟩⟩,one_nu _⟩,trivial⟩,trivial⟩,⟨(nuD.is_enc (bd_d)),(nuD.is_enc (mod_bd _))⟩⟩,⟨rfl,⟨by decide,by decide⟩⟩⟩,⟨(nuD.is_enc (mod_bd _)),(nuD.is_enc ⟨by decide,by decide⟩)⟩⟩,one_nu _⟩,trivial⟩,trivial⟩,⟨(nuD.is_enc (mod_bd _)),(nuD.is_enc (mod_bd _))⟩⟩,trivial⟩,trivial⟩,⟨trivial,h0⟩⟩,one_nu _⟩,trivial⟩,trivial⟩,trivial⟩,trivial⟩,trivial⟩,trivial⟩,trivial⟩,⟨(nuD.is_enc (bd_quoV _ _)),h1⟩⟩,trivial⟩,trivial⟩,trivial⟩,rpC_one _⟩,trivial⟩
def rat_S (y:Int):Value:=cond (quoB ((((y*y%pr) - 1)%pr)) ((((dN*(y*y%pr)%pr)+1)%pr))) (cond (decide ((quoV ((((y*y%pr) - 1)%pr)) ((((dN*(y*y%pr)%pr)+1)%pr)))=0)) (.tuple #[.agg (rpC (⟨0,0,0⟩:P3)),.bool false]) (.tuple #[.agg (rpC (⟨-((quoV ((((y*y%pr) - 1)%pr)) ((((dN*(y*y%pr)%pr)+1)%pr))))%pr,y,1⟩:P3)),.bool true])) (.tuple #[.agg (rpC (⟨0,0,0⟩:P3)),.bool false])
theorem rat_e (y:Int) (hy:0≤y∧y<pr):rat_F y=rat_S y:=by
  unfold rat_F rat_S
  try simp only[nm_mod,nn_mod,nm_inv,nn_inv,nm_d,nn_d,nm_1,nn_1,nm_root,nn_quo,nn_nuC _ hy]
def ran_h (i:Nat):Hn:=if i=2 then⟨4,[],[],[],[]⟩ else if i=3 then⟨6,[],[],[],[]⟩ else if i=9 then⟨4,[],[],[],[]⟩ else⟨0,[],[],[],[]⟩
theorem ran_0 (y:Int):evF (yty.en tab2) ran_h Tryz.f82 [.agg (nuC y),.bool false] [some (.bool true)]=some (.tuple #[.agg (rpC (⟨quoV (nn (nuC ((nn (nuC (nn (nuC y)*nn (nuC y)%pr)) - nn (nuC 1))%pr))) (nn (nuC ((nn (nuC (nn (nuC dN)*nn (nuC (nn (nuC y)*nn (nuC y)%pr))%pr))+nn (nuC 1))%pr))),y,1⟩:P3)),.bool true],(((((((((((((((((((((((((((((((((((((True∧True)∧True)∧True)∧(nuD.is (nuC y)∧nuD.is (nuC y)))∧((nuC (nn (nuC y)*nn (nuC y)%pr)).all (fun v=>v.oneCell')=true))∧True)∧(IntKind.u64=IntKind.u64∧w64 1))∧(nuD.is (nuC (nn (nuC y)*nn (nuC y)%pr))∧nuD.is (nuC 1)))∧((nuC ((nn (nuC (nn (nuC y)*nn (nuC y)%pr)) - nn (nuC 1))%pr)).all (fun v=>v.oneCell')=true))∧True)∧True)∧(nuD.is (nuC dN)∧nuD.is (nuC (nn (nuC y)*nn (nuC y)%pr))))∧(IntKind.u64=IntKind.u64∧w64 1))∧(nuD.is (nuC (nn (nuC dN)*nn (nuC (nn (nuC y)*nn (nuC y)%pr))%pr))∧nuD.is (nuC 1)))∧((nuC ((nn (nuC (nn (nuC dN)*nn (nuC (nn (nuC y)*nn (nuC y)%pr))%pr))+nn (nuC 1))%pr)).all (fun v=>v.oneCell')=true))∧True)∧True)∧(nuD.is (nuC ((nn (nuC (nn (nuC y)*nn (nuC y)%pr)) - nn (nuC 1))%pr))∧nuD.is (nuC ((nn (nuC (nn (nuC dN)*nn (nuC (nn (nuC y)*nn (nuC y)%pr))%pr))+nn (nuC 1))%pr))))∧True)∧True)∧(True∧(quoB (nn (nuC ((nn (nuC (nn (nuC y)*nn (nuC y)%pr)) - nn (nuC 1))%pr))) (nn (nuC ((nn (nuC (nn (nuC dN)*nn (nuC (nn (nuC y)*nn (nuC y)%pr))%pr))+nn (nuC 1))%pr))))=true))∧((nuC (quoV (nn (nuC ((nn (nuC (nn (nuC y)*nn (nuC y)%pr)) - nn (nuC 1))%pr))) (nn (nuC ((nn (nuC (nn (nuC dN)*nn (nuC (nn (nuC y)*nn (nuC y)%pr))%pr))+nn (nuC 1))%pr))))).all (fun v=>v.oneCell')=true))∧True)∧True)∧True)∧True)∧True)∧True)∧True)∧True)∧True)∧True)∧True)∧(IntKind.u64=IntKind.u64∧w64 1))∧True)∧((rpC (⟨quoV (nn (nuC ((nn (nuC (nn (nuC y)*nn (nuC y)%pr)) - nn (nuC 1))%pr))) (nn (nuC ((nn (nuC (nn (nuC dN)*nn (nuC (nn (nuC y)*nn (nuC y)%pr))%pr))+nn (nuC 1))%pr))),y,1⟩:P3)).all (fun v=>v.oneCell')=true))∧True)):=by kernel_rfl
theorem ran_1 (y:Int):evF (yty.en tab2) ran_h Tryz.f82 [.agg (nuC y),.bool false] [some (.bool false)]=some (.tuple #[.agg (rpC (⟨0,0,0⟩:P3)),.bool false],((((((((((((((((((((((((((((((True∧True)∧True)∧True)∧(nuD.is (nuC y)∧nuD.is (nuC y)))∧((nuC (nn (nuC y)*nn (nuC y)%pr)).all (fun v=>v.oneCell')=true))∧True)∧(IntKind.u64=IntKind.u64∧w64 1))∧(nuD.is (nuC (nn (nuC y)*nn (nuC y)%pr))∧nuD.is (nuC 1)))∧((nuC ((nn (nuC (nn (nuC y)*nn (nuC y)%pr)) - nn (nuC 1))%pr)).all (fun v=>v.oneCell')=true))∧True)∧True)∧(nuD.is (nuC dN)∧nuD.is (nuC (nn (nuC y)*nn (nuC y)%pr))))∧(IntKind.u64=IntKind.u64∧w64 1))∧(nuD.is (nuC (nn (nuC dN)*nn (nuC (nn (nuC y)*nn (nuC y)%pr))%pr))∧nuD.is (nuC 1)))∧((nuC ((nn (nuC (nn (nuC dN)*nn (nuC (nn (nuC y)*nn (nuC y)%pr))%pr))+nn (nuC 1))%pr)).all (fun v=>v.oneCell')=true))∧True)∧True)∧(nuD.is (nuC ((nn (nuC (nn (nuC y)*nn (nuC y)%pr)) - nn (nuC 1))%pr))∧nuD.is (nuC ((nn (nuC (nn (nuC dN)*nn (nuC (nn (nuC y)*nn (nuC y)%pr))%pr))+nn (nuC 1))%pr))))∧True)∧True)∧(True∧(quoB (nn (nuC ((nn (nuC (nn (nuC y)*nn (nuC y)%pr)) - nn (nuC 1))%pr))) (nn (nuC ((nn (nuC (nn (nuC dN)*nn (nuC (nn (nuC y)*nn (nuC y)%pr))%pr))+nn (nuC 1))%pr))))=false))∧((nuC (quoV (nn (nuC ((nn (nuC (nn (nuC y)*nn (nuC y)%pr)) - nn (nuC 1))%pr))) (nn (nuC ((nn (nuC (nn (nuC dN)*nn (nuC (nn (nuC y)*nn (nuC y)%pr))%pr))+nn (nuC 1))%pr))))).all (fun v=>v.oneCell')=true))∧True)∧True)∧True)∧True)∧True)∧True)∧((rpC (⟨0,0,0⟩:P3)).all (fun v=>v.oneCell')=true))∧True)):=by kernel_rfl
def ran_F (y:Int):Value:=cond (quoB (nn (nuC ((nn (nuC (nn (nuC y)*nn (nuC y)%pr)) - nn (nuC 1))%pr))) (nn (nuC ((nn (nuC (nn (nuC dN)*nn (nuC (nn (nuC y)*nn (nuC y)%pr))%pr))+nn (nuC 1))%pr)))) (.tuple #[.agg (rpC (⟨quoV (nn (nuC ((nn (nuC (nn (nuC y)*nn (nuC y)%pr)) - nn (nuC 1))%pr))) (nn (nuC ((nn (nuC (nn (nuC dN)*nn (nuC (nn (nuC y)*nn (nuC y)%pr))%pr))+nn (nuC 1))%pr))),y,1⟩:P3)),.bool true]) (.tuple #[.agg (rpC (⟨0,0,0⟩:P3)),.bool false])
set_option maxHeartbeats 4000000 in
theorem ran_p (y:Int) (hy:0≤y∧y<pr):Pure Tryz.prog 82 #[.agg (nuC y),.bool false] (ran_F y):=by
  unfold ran_F
  cases h0:(quoB (nn (nuC ((nn (nuC (nn (nuC y)*nn (nuC y)%pr)) - nn (nuC 1))%pr))) (nn (nuC ((nn (nuC (nn (nuC dN)*nn (nuC (nn (nuC y)*nn (nuC y)%pr))%pr))+nn (nuC 1))%pr))))
  · skip
    exact pure_of mixed Tryz.func82 _ (ran_1 y) rfl ⟨⟨⟨⟨⟨⟨⟨⟨⟨⟨⟨⟨⟨⟨⟨⟨⟨⟨⟨⟨⟨⟨⟨⟨⟨⟨⟨⟨⟨⟨trivial,trivial⟩,trivial⟩,trivial⟩,⟨(nuD.is_enc (hy)),(nuD.is_enc (hy))⟩⟩,one_nu _⟩,trivial⟩,⟨rfl,⟨by decide,by decide⟩⟩⟩,⟨(nuD.is_enc (mod_bd _)),(nuD.is_enc ⟨by decide,by decide⟩)⟩⟩,one_nu _⟩,trivial⟩,trivial⟩,⟨(nuD.is_enc (bd_d)),(nuD.is_enc (mod_bd _))⟩⟩,⟨rfl,⟨by decide,by decide⟩⟩⟩,⟨(nuD.is_enc (mod_bd _)),(nuD.is_enc ⟨by decide,by decide⟩)⟩⟩,one_nu _⟩,trivial⟩,trivial⟩,⟨(nuD.is_enc (mod_bd _)),(nuD.is_enc (mod_bd _))⟩⟩,trivial⟩,trivial⟩,⟨trivial,h0⟩⟩,one_nu _⟩,trivial⟩,trivial⟩,trivial⟩,trivial⟩,trivial⟩,trivial⟩,rpC_one _⟩,trivial⟩
  · skip
    exact pure_of mixed Tryz.func82 _ (ran_0 y) rfl ⟨⟨⟨⟨⟨⟨⟨⟨⟨⟨⟨⟨⟨⟨⟨⟨⟨⟨⟨⟨⟨⟨⟨⟨⟨⟨⟨⟨⟨⟨⟨⟨⟨⟨⟨⟨⟨trivial,trivial⟩,trivial⟩,trivial⟩,⟨(nuD.is_enc (hy)),(nuD.is_enc (hy))⟩⟩,one_nu _⟩,trivial⟩,⟨rfl,⟨by decide,by decide⟩⟩⟩,⟨(nuD.is_enc (mod_bd _)),(nuD.is_enc ⟨by decide,by decide⟩)⟩⟩,one_nu _⟩,trivial⟩,trivial⟩,⟨(nuD.is_enc (bd_d)),(nuD.is_enc (mod_bd _))⟩⟩,⟨rfl,⟨by decide,by decide⟩⟩⟩,⟨(nuD.is_enc (mod_bd _)),(nuD.is_enc ⟨by decide,by decide⟩)⟩⟩,one_nu _⟩,trivial⟩,trivial⟩,⟨(nuD.is_enc (mod_bd _)),(nuD.is_enc (mod_bd _))⟩⟩,trivial⟩,trivial⟩,⟨trivial,h0⟩⟩,one_nu _⟩,trivial⟩,trivial⟩,trivial⟩,trivial⟩,trivial⟩,trivial⟩,trivial⟩,trivial⟩,trivial⟩,trivial⟩,trivial⟩,⟨rfl,⟨by decide,by decide⟩⟩⟩,trivial⟩,rpC_one _⟩,trivial⟩
def ran_S (y:Int):Value:=cond (quoB ((((y*y%pr) - 1)%pr)) ((((dN*(y*y%pr)%pr)+1)%pr))) (.tuple #[.agg (rpC (⟨quoV ((((y*y%pr) - 1)%pr)) ((((dN*(y*y%pr)%pr)+1)%pr)),y,1⟩:P3)),.bool true]) (.tuple #[.agg (rpC (⟨0,0,0⟩:P3)),.bool false])
theorem ran_e (y:Int) (hy:0≤y∧y<pr):ran_F y=ran_S y:=by
  unfold ran_F ran_S
  try simp only[nm_mod,nn_mod,nm_inv,nn_inv,nm_d,nn_d,nm_1,nn_1,nm_root,nn_quo,nn_nuC _ hy]
end Go.Proofs.YtdebkddhpogkgaaGreat

set_option linter.unusedSimpArgs false
set_option linter.unusedVariables false
namespace Go.Proofs.YtdebkddhpogkgaaGreat
open Go.RowKit Go.Ev
def ratX (y:Int) (o:Bool):Int:=cond o (-(quoV (atU y) (atV y))%pr) (quoV (atU y) (atV y))
def ratB (y:Int) (o:Bool):Bool:=quoB (atU y) (atV y) && !(o && decide (quoV (atU y) (atV y)=0))
def ratP (y:Int) (o:Bool):P3:=cond (ratB y o) ⟨ratX y o,y,1⟩ ⟨0,0,0⟩
theorem RAt_c (y:Int) (o:Bool) (hy:0≤y∧y<pr):Pure Tryz.prog 82 #[.agg (nuC y),.bool o] (.tuple #[.agg (rpC (ratP y o)),.bool (ratB y o)]):=by
  cases o with
  | true =>
    have h:=rat_p y hy
    rw[rat_e y hy] at h
    unfold rat_S at h
    unfold ratP ratB
    show Pure _ _ _ (.tuple #[.agg (rpC (cond (quoB (atU y) (atV y) && !(true && decide (quoV (atU y) (atV y)=0))) ⟨-(quoV (atU y) (atV y))%pr,y,1⟩ _)),.bool (quoB (atU y) (atV y) && !(true && decide (quoV (atU y) (atV y)=0)))])
    unfold atU atV
    cases h0:quoB ((y*y%pr - 1)%pr) ((dN*(y*y%pr)%pr+1)%pr) with
    |false=>rw[h0] at h;exact h
    | true =>
      rw[h0] at h
      cases h1:decide (quoV ((y*y%pr - 1)%pr) ((dN*(y*y%pr)%pr+1)%pr)=0) with
      |false=>rw[h1] at h;exact h
      |true=>rw[h1] at h;exact h
  | false =>
    have h:=ran_p y hy
    rw[ran_e y hy] at h
    unfold ran_S at h
    unfold ratP ratB
    show Pure _ _ _ (.tuple #[.agg (rpC (cond (quoB (atU y) (atV y) && !(false && decide (quoV (atU y) (atV y)=0))) ⟨quoV (atU y) (atV y),y,1⟩ _)),.bool (quoB (atU y) (atV y) && !(false && decide (quoV (atU y) (atV y)=0)))])
    unfold atU atV
    cases h0:quoB ((y*y%pr - 1)%pr) ((dN*(y*y%pr)%pr+1)%pr) with
    |false=>rw[h0] at h;exact h
    |true=>rw[h0] at h;exact h
def qAt:Entry Tryz.prog:=ent1b Tryz.func82 (by kernel_rfl) (by kernel_rfl) nuD (fun(y:Int) o=> .tuple #[.agg (rpC (ratP y o)),.bool (ratB y o)]) (fun y o hy=>RAt_c y o hy)
def tab3:List (Entry Tryz.prog):=qAt :: tab2
end Go.Proofs.YtdebkddhpogkgaaGreat
