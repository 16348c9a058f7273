import Derived.Test.YtdebkddhpogkgaaGreatZASarsRiTBll
import Derived.Test.YtdebkddhpogkgaaGreatZASarsEdTm
import Derived.Test.YtdebkddhpogkgaaGreatZASarsRzBll
import Derived.Test.YtdebkddhpogkgaaGreatZASarsRfMay
import Derived.Test.YtdebkddhpogkgaaGreatZASarsRzWide
import Derived.Test.YtdebkddhpogkgaaGreatZASarsRfAll
import Derived.Test.YtdebkddhpogkgaaGreatZASarsAlPll
set_option linter.unusedSimpArgs false
set_option linter.unusedVariables false
/-! Terms, a point's multiples, a scalar's digits. -/
namespace Go.Proofs.YtdebkddhpogkgaaGreat
open Go.RowKit Go.Ev
def zmu:List P4:=List.replicate 16 ⟨0,0,0,0⟩
theorem one_by (n:Int):(byC n).all (fun v=>v.oneCell')=true:=byK_one _ _
def OkT (t:Tm):Prop:=Ok t.K∧Ok t.P
def dte (a:Array Value):Tm:=⟨db (a.extract 0 (0+32)),db (a.extract 32 (32+32))⟩
theorem te_K (t:Tm):(teC t).extract 0 (0+32)=byC t.K:=by kernel_rfl
theorem te_P (t:Tm):(teC t).extract 32 (32+32)=byC t.P:=by kernel_rfl
theorem dte_teC (t:Tm) (h:OkT t):dte (teC t)=t:=by
  unfold dte
  rw[te_K,te_P,db_byC _ h.1,db_byC _ h.2]
theorem one_te (t:Tm):(teC t).all (fun v=>v.oneCell')=true:=by
  unfold teC
  rw[Array.all_append,one_by,one_by];rfl
theorem one_mu (l:List P4):(muC l).all (fun v=>v.oneCell')=true:=by
  unfold muC
  rw[List.all_toArray,List.all_flatten,List.all_map]
  refine List.all_eq_true.2 fun p _=> ?_
  have:=ptC_one p
  rw[← Array.all_toList] at this
  exact this
def tlC (l:List Tm):Array Value:=((l.map fun t=>(teC t).toList).flatten).toArray
def mlC (l:List (List P4)):Array Value:=((l.map fun m=>(muC m).toList).flatten).toArray
theorem dp_add (p q:P4):dp (ptC (addP p q))=addP p q:=dp_ptC _ (ok4_add _ _)
theorem dp_id:dp (ptC (ofP 0 1))=ofP 0 1:=dp_ptC _ ok4_id
def muo_v0 (p:P4):P4:=addP (dp (ptC (ofP 0 1))) (dp (ptC p))
def muo_u0 (p:P4):P4:=addP ((ofP 0 1)) (p)
theorem muo_w0 (p:P4) (hp:Ok4 p):muo_v0 p=muo_u0 p:=by
  unfold muo_v0 muo_u0
  simp only[nm_mod,nn_mod,nm_inv,nn_inv,nm_d,nn_d,nm_1,nn_1,nm_root,nn_quo,dp_add,dp_id,dp_ptC _ hp]
theorem muo_x0 (p:P4) (hp:Ok4 p):dp (ptC (muo_v0 p))=muo_u0 p:=by
  exact(dp_ptC _ (ok4_add _ _)).trans (muo_w0 p hp)
def muo_v1 (p:P4):P4:=addP (dp (ptC (muo_v0 p))) (dp (ptC p))
def muo_u1 (p:P4):P4:=addP ((muo_u0 p)) (p)
theorem muo_w1 (p:P4) (hp:Ok4 p):muo_v1 p=muo_u1 p:=by
  unfold muo_v1 muo_u1
  simp only[nm_mod,nn_mod,nm_inv,nn_inv,nm_d,nn_d,nm_1,nn_1,nm_root,nn_quo,dp_add,dp_id,dp_ptC _ hp,muo_x0 p hp]
theorem muo_x1 (p:P4) (hp:Ok4 p):dp (ptC (muo_v1 p))=muo_u1 p:=by
  exact(dp_ptC _ (ok4_add _ _)).trans (muo_w1 p hp)
def muo_v2 (p:P4):P4:=addP (dp (ptC (muo_v1 p))) (dp (ptC p))
def muo_u2 (p:P4):P4:=addP ((muo_u1 p)) (p)
theorem muo_w2 (p:P4) (hp:Ok4 p):muo_v2 p=muo_u2 p:=by
  unfold muo_v2 muo_u2
  simp only[nm_mod,nn_mod,nm_inv,nn_inv,nm_d,nn_d,nm_1,nn_1,nm_root,nn_quo,dp_add,dp_id,dp_ptC _ hp,muo_x1 p hp]
theorem muo_x2 (p:P4) (hp:Ok4 p):dp (ptC (muo_v2 p))=muo_u2 p:=by
  exact(dp_ptC _ (ok4_add _ _)).trans (muo_w2 p hp)
def muo_v3 (p:P4):P4:=addP (dp (ptC (muo_v2 p))) (dp (ptC p))
def muo_u3 (p:P4):P4:=addP ((muo_u2 p)) (p)
theorem muo_w3 (p:P4) (hp:Ok4 p):muo_v3 p=muo_u3 p:=by
  unfold muo_v3 muo_u3
  simp only[nm_mod,nn_mod,nm_inv,nn_inv,nm_d,nn_d,nm_1,nn_1,nm_root,nn_quo,dp_add,dp_id,dp_ptC _ hp,muo_x2 p hp]
theorem muo_x3 (p:P4) (hp:Ok4 p):dp (ptC (muo_v3 p))=muo_u3 p:=by
  exact(dp_ptC _ (ok4_add _ _)).trans (muo_w3 p hp)
def muo_v4 (p:P4):P4:=addP (dp (ptC (muo_v3 p))) (dp (ptC p))
def muo_u4 (p:P4):P4:=addP ((muo_u3 p)) (p)
theorem muo_w4 (p:P4) (hp:Ok4 p):muo_v4 p=muo_u4 p:=by
  unfold muo_v4 muo_u4
  simp only[nm_mod,nn_mod,nm_inv,nn_inv,nm_d,nn_d,nm_1,nn_1,nm_root,nn_quo,dp_add,dp_id,dp_ptC _ hp,muo_x3 p hp]
theorem muo_x4 (p:P4) (hp:Ok4 p):dp (ptC (muo_v4 p))=muo_u4 p:=by
  exact(dp_ptC _ (ok4_add _ _)).trans (muo_w4 p hp)
def muo_v5 (p:P4):P4:=addP (dp (ptC (muo_v4 p))) (dp (ptC p))
def muo_u5 (p:P4):P4:=addP ((muo_u4 p)) (p)
theorem muo_w5 (p:P4) (hp:Ok4 p):muo_v5 p=muo_u5 p:=by
  unfold muo_v5 muo_u5
  simp only[nm_mod,nn_mod,nm_inv,nn_inv,nm_d,nn_d,nm_1,nn_1,nm_root,nn_quo,dp_add,dp_id,dp_ptC _ hp,muo_x4 p hp]
theorem muo_x5 (p:P4) (hp:Ok4 p):dp (ptC (muo_v5 p))=muo_u5 p:=by
  exact(dp_ptC _ (ok4_add _ _)).trans (muo_w5 p hp)
def muo_v6 (p:P4):P4:=addP (dp (ptC (muo_v5 p))) (dp (ptC p))
def muo_u6 (p:P4):P4:=addP ((muo_u5 p)) (p)
theorem muo_w6 (p:P4) (hp:Ok4 p):muo_v6 p=muo_u6 p:=by
  unfold muo_v6 muo_u6
  simp only[nm_mod,nn_mod,nm_inv,nn_inv,nm_d,nn_d,nm_1,nn_1,nm_root,nn_quo,dp_add,dp_id,dp_ptC _ hp,muo_x5 p hp]
theorem muo_x6 (p:P4) (hp:Ok4 p):dp (ptC (muo_v6 p))=muo_u6 p:=by
  exact(dp_ptC _ (ok4_add _ _)).trans (muo_w6 p hp)
def muo_v7 (p:P4):P4:=addP (dp (ptC (muo_v6 p))) (dp (ptC p))
def muo_u7 (p:P4):P4:=addP ((muo_u6 p)) (p)
theorem muo_w7 (p:P4) (hp:Ok4 p):muo_v7 p=muo_u7 p:=by
  unfold muo_v7 muo_u7
  simp only[nm_mod,nn_mod,nm_inv,nn_inv,nm_d,nn_d,nm_1,nn_1,nm_root,nn_quo,dp_add,dp_id,dp_ptC _ hp,muo_x6 p hp]
theorem muo_x7 (p:P4) (hp:Ok4 p):dp (ptC (muo_v7 p))=muo_u7 p:=by
  exact(dp_ptC _ (ok4_add _ _)).trans (muo_w7 p hp)
def muo_v8 (p:P4):P4:=addP (dp (ptC (muo_v7 p))) (dp (ptC p))
def muo_u8 (p:P4):P4:=addP ((muo_u7 p)) (p)
theorem muo_w8 (p:P4) (hp:Ok4 p):muo_v8 p=muo_u8 p:=by
  unfold muo_v8 muo_u8
  simp only[nm_mod,nn_mod,nm_inv,nn_inv,nm_d,nn_d,nm_1,nn_1,nm_root,nn_quo,dp_add,dp_id,dp_ptC _ hp,muo_x7 p hp]
theorem muo_x8 (p:P4) (hp:Ok4 p):dp (ptC (muo_v8 p))=muo_u8 p:=by
  exact(dp_ptC _ (ok4_add _ _)).trans (muo_w8 p hp)
def muo_v9 (p:P4):P4:=addP (dp (ptC (muo_v8 p))) (dp (ptC p))
def muo_u9 (p:P4):P4:=addP ((muo_u8 p)) (p)
theorem muo_w9 (p:P4) (hp:Ok4 p):muo_v9 p=muo_u9 p:=by
  unfold muo_v9 muo_u9
  simp only[nm_mod,nn_mod,nm_inv,nn_inv,nm_d,nn_d,nm_1,nn_1,nm_root,nn_quo,dp_add,dp_id,dp_ptC _ hp,muo_x8 p hp]
theorem muo_x9 (p:P4) (hp:Ok4 p):dp (ptC (muo_v9 p))=muo_u9 p:=by
  exact(dp_ptC _ (ok4_add _ _)).trans (muo_w9 p hp)
def muo_v10 (p:P4):P4:=addP (dp (ptC (muo_v9 p))) (dp (ptC p))
def muo_u10 (p:P4):P4:=addP ((muo_u9 p)) (p)
theorem muo_w10 (p:P4) (hp:Ok4 p):muo_v10 p=muo_u10 p:=by
  unfold muo_v10 muo_u10
  simp only[nm_mod,nn_mod,nm_inv,nn_inv,nm_d,nn_d,nm_1,nn_1,nm_root,nn_quo,dp_add,dp_id,dp_ptC _ hp,muo_x9 p hp]
theorem muo_x10 (p:P4) (hp:Ok4 p):dp (ptC (muo_v10 p))=muo_u10 p:=by
  exact(dp_ptC _ (ok4_add _ _)).trans (muo_w10 p hp)
def muo_v11 (p:P4):P4:=addP (dp (ptC (muo_v10 p))) (dp (ptC p))
def muo_u11 (p:P4):P4:=addP ((muo_u10 p)) (p)
theorem muo_w11 (p:P4) (hp:Ok4 p):muo_v11 p=muo_u11 p:=by
  unfold muo_v11 muo_u11
  simp only[nm_mod,nn_mod,nm_inv,nn_inv,nm_d,nn_d,nm_1,nn_1,nm_root,nn_quo,dp_add,dp_id,dp_ptC _ hp,muo_x10 p hp]
theorem muo_x11 (p:P4) (hp:Ok4 p):dp (ptC (muo_v11 p))=muo_u11 p:=by
  exact(dp_ptC _ (ok4_add _ _)).trans (muo_w11 p hp)
def muo_v12 (p:P4):P4:=addP (dp (ptC (muo_v11 p))) (dp (ptC p))
def muo_u12 (p:P4):P4:=addP ((muo_u11 p)) (p)
theorem muo_w12 (p:P4) (hp:Ok4 p):muo_v12 p=muo_u12 p:=by
  unfold muo_v12 muo_u12
  simp only[nm_mod,nn_mod,nm_inv,nn_inv,nm_d,nn_d,nm_1,nn_1,nm_root,nn_quo,dp_add,dp_id,dp_ptC _ hp,muo_x11 p hp]
theorem muo_x12 (p:P4) (hp:Ok4 p):dp (ptC (muo_v12 p))=muo_u12 p:=by
  exact(dp_ptC _ (ok4_add _ _)).trans (muo_w12 p hp)
def muo_v13 (p:P4):P4:=addP (dp (ptC (muo_v12 p))) (dp (ptC p))
def muo_u13 (p:P4):P4:=addP ((muo_u12 p)) (p)
theorem muo_w13 (p:P4) (hp:Ok4 p):muo_v13 p=muo_u13 p:=by
  unfold muo_v13 muo_u13
  simp only[nm_mod,nn_mod,nm_inv,nn_inv,nm_d,nn_d,nm_1,nn_1,nm_root,nn_quo,dp_add,dp_id,dp_ptC _ hp,muo_x12 p hp]
theorem muo_x13 (p:P4) (hp:Ok4 p):dp (ptC (muo_v13 p))=muo_u13 p:=by
  exact(dp_ptC _ (ok4_add _ _)).trans (muo_w13 p hp)
def muo_v14 (p:P4):P4:=addP (dp (ptC (muo_v13 p))) (dp (ptC p))
def muo_u14 (p:P4):P4:=addP ((muo_u13 p)) (p)
theorem muo_w14 (p:P4) (hp:Ok4 p):muo_v14 p=muo_u14 p:=by
  unfold muo_v14 muo_u14
  simp only[nm_mod,nn_mod,nm_inv,nn_inv,nm_d,nn_d,nm_1,nn_1,nm_root,nn_quo,dp_add,dp_id,dp_ptC _ hp,muo_x13 p hp]
theorem muo_x14 (p:P4) (hp:Ok4 p):dp (ptC (muo_v14 p))=muo_u14 p:=by
  exact(dp_ptC _ (ok4_add _ _)).trans (muo_w14 p hp)
def muo_h (i:Nat):Hn:=if i=6 then⟨8,[],[],[],[]⟩ else⟨0,[],[],[],[]⟩
set_option maxRecDepth 100000 in
theorem muo_0 (p:P4):evF (yty.en tab23) muo_h Tryz.f42 [.agg (ptC p)] []=some (.agg (muC [ofP 0 1,(muo_v0 p),(muo_v1 p),(muo_v2 p),(muo_v3 p),(muo_v4 p),(muo_v5 p),(muo_v6 p),(muo_v7 p),(muo_v8 p),(muo_v9 p),(muo_v10 p),(muo_v11 p),(muo_v12 p),(muo_v13 p),(muo_v14 p)]),(((((((((((((((((((((((((((((((((((((((((((((((((((((((((((((((((((((((((((((((((((((((((((((((((((((((((((((((((((((((((((((((((((((((((((((((((((((((((((((((((((((((((((((((((((((((((((((((((((((((((((((((((((((((((True∧True)∧((0:Int)≤0∧(0:Int)<((16:Nat):Int)))∧((ptC (ofP 0 1)).all (fun v=>v.oneCell')=true))∧True)∧True)∧True)∧True)∧True)∧True)∧True)∧((0:Int)≤0∧(0:Int)<((16:Nat):Int)))∧True)∧True)∧(ptD.is (ptC (ofP 0 1))∧ptD.is (ptC p)))∧((0:Int)≤1∧(1:Int)<((16:Nat):Int)))∧((ptC (muo_v0 p)).all (fun v=>v.oneCell')=true))∧True)∧True)∧True)∧True)∧True)∧True)∧True)∧True)∧((0:Int)≤1∧(1:Int)<((16:Nat):Int)))∧True)∧True)∧(ptD.is (ptC (muo_v0 p))∧ptD.is (ptC p)))∧((0:Int)≤2∧(2:Int)<((16:Nat):Int)))∧((ptC (muo_v1 p)).all (fun v=>v.oneCell')=true))∧True)∧True)∧True)∧True)∧True)∧True)∧True)∧True)∧((0:Int)≤2∧(2:Int)<((16:Nat):Int)))∧True)∧True)∧(ptD.is (ptC (muo_v1 p))∧ptD.is (ptC p)))∧((0:Int)≤3∧(3:Int)<((16:Nat):Int)))∧((ptC (muo_v2 p)).all (fun v=>v.oneCell')=true))∧True)∧True)∧True)∧True)∧True)∧True)∧True)∧True)∧((0:Int)≤3∧(3:Int)<((16:Nat):Int)))∧True)∧True)∧(ptD.is (ptC (muo_v2 p))∧ptD.is (ptC p)))∧((0:Int)≤4∧(4:Int)<((16:Nat):Int)))∧((ptC (muo_v3 p)).all (fun v=>v.oneCell')=true))∧True)∧True)∧True)∧True)∧True)∧True)∧True)∧True)∧((0:Int)≤4∧(4:Int)<((16:Nat):Int)))∧True)∧True)∧(ptD.is (ptC (muo_v3 p))∧ptD.is (ptC p)))∧((0:Int)≤5∧(5:Int)<((16:Nat):Int)))∧((ptC (muo_v4 p)).all (fun v=>v.oneCell')=true))∧True)∧True)∧True)∧True)∧True)∧True)∧True)∧True)∧((0:Int)≤5∧(5:Int)<((16:Nat):Int)))∧True)∧True)∧(ptD.is (ptC (muo_v4 p))∧ptD.is (ptC p)))∧((0:Int)≤6∧(6:Int)<((16:Nat):Int)))∧((ptC (muo_v5 p)).all (fun v=>v.oneCell')=true))∧True)∧True)∧True)∧True)∧True)∧True)∧True)∧True)∧((0:Int)≤6∧(6:Int)<((16:Nat):Int)))∧True)∧True)∧(ptD.is (ptC (muo_v5 p))∧ptD.is (ptC p)))∧((0:Int)≤7∧(7:Int)<((16:Nat):Int)))∧((ptC (muo_v6 p)).all (fun v=>v.oneCell')=true))∧True)∧True)∧True)∧True)∧True)∧True)∧True)∧True)∧((0:Int)≤7∧(7:Int)<((16:Nat):Int)))∧True)∧True)∧(ptD.is (ptC (muo_v6 p))∧ptD.is (ptC p)))∧((0:Int)≤8∧(8:Int)<((16:Nat):Int)))∧((ptC (muo_v7 p)).all (fun v=>v.oneCell')=true))∧True)∧True)∧True)∧True)∧True)∧True)∧True)∧True)∧((0:Int)≤8∧(8:Int)<((16:Nat):Int)))∧True)∧True)∧(ptD.is (ptC (muo_v7 p))∧ptD.is (ptC p)))∧((0:Int)≤9∧(9:Int)<((16:Nat):Int)))∧((ptC (muo_v8 p)).all (fun v=>v.oneCell')=true))∧True)∧True)∧True)∧True)∧True)∧True)∧True)∧True)∧((0:Int)≤9∧(9:Int)<((16:Nat):Int)))∧True)∧True)∧(ptD.is (ptC (muo_v8 p))∧ptD.is (ptC p)))∧((0:Int)≤10∧(10:Int)<((16:Nat):Int)))∧((ptC (muo_v9 p)).all (fun v=>v.oneCell')=true))∧True)∧True)∧True)∧True)∧True)∧True)∧True)∧True)∧((0:Int)≤10∧(10:Int)<((16:Nat):Int)))∧True)∧True)∧(ptD.is (ptC (muo_v9 p))∧ptD.is (ptC p)))∧((0:Int)≤11∧(11:Int)<((16:Nat):Int)))∧((ptC (muo_v10 p)).all (fun v=>v.oneCell')=true))∧True)∧True)∧True)∧True)∧True)∧True)∧True)∧True)∧((0:Int)≤11∧(11:Int)<((16:Nat):Int)))∧True)∧True)∧(ptD.is (ptC (muo_v10 p))∧ptD.is (ptC p)))∧((0:Int)≤12∧(12:Int)<((16:Nat):Int)))∧((ptC (muo_v11 p)).all (fun v=>v.oneCell')=true))∧True)∧True)∧True)∧True)∧True)∧True)∧True)∧True)∧((0:Int)≤12∧(12:Int)<((16:Nat):Int)))∧True)∧True)∧(ptD.is (ptC (muo_v11 p))∧ptD.is (ptC p)))∧((0:Int)≤13∧(13:Int)<((16:Nat):Int)))∧((ptC (muo_v12 p)).all (fun v=>v.oneCell')=true))∧True)∧True)∧True)∧True)∧True)∧True)∧True)∧True)∧((0:Int)≤13∧(13:Int)<((16:Nat):Int)))∧True)∧True)∧(ptD.is (ptC (muo_v12 p))∧ptD.is (ptC p)))∧((0:Int)≤14∧(14:Int)<((16:Nat):Int)))∧((ptC (muo_v13 p)).all (fun v=>v.oneCell')=true))∧True)∧True)∧True)∧True)∧True)∧True)∧True)∧True)∧((0:Int)≤14∧(14:Int)<((16:Nat):Int)))∧True)∧True)∧(ptD.is (ptC (muo_v13 p))∧ptD.is (ptC p)))∧((0:Int)≤15∧(15:Int)<((16:Nat):Int)))∧((ptC (muo_v14 p)).all (fun v=>v.oneCell')=true))∧True)∧True)∧True)∧True)∧((muC [ofP 0 1,(muo_v0 p),(muo_v1 p),(muo_v2 p),(muo_v3 p),(muo_v4 p),(muo_v5 p),(muo_v6 p),(muo_v7 p),(muo_v8 p),(muo_v9 p),(muo_v10 p),(muo_v11 p),(muo_v12 p),(muo_v13 p),(muo_v14 p)]).all (fun v=>v.oneCell')=true))):=by kernel_rfl
def muo_F (p:P4):Value:= .agg (muC [ofP 0 1,(muo_v0 p),(muo_v1 p),(muo_v2 p),(muo_v3 p),(muo_v4 p),(muo_v5 p),(muo_v6 p),(muo_v7 p),(muo_v8 p),(muo_v9 p),(muo_v10 p),(muo_v11 p),(muo_v12 p),(muo_v13 p),(muo_v14 p)])
set_option maxRecDepth 100000 in
set_option maxHeartbeats 4000000 in
theorem muo_p (p:P4) (hp:Ok4 p):Pure Tryz.prog 42 #[.agg (ptC p)] (muo_F p):=by
  unfold muo_F
  exact pure_of mixed Tryz.func42 _ (muo_0 p) rfl ⟨⟨⟨⟨⟨⟨⟨⟨⟨⟨⟨⟨⟨⟨⟨⟨⟨⟨⟨⟨⟨⟨⟨⟨⟨⟨⟨⟨⟨⟨⟨⟨⟨⟨⟨⟨⟨⟨⟨⟨⟨⟨⟨⟨⟨⟨⟨⟨⟨⟨⟨⟨⟨⟨⟨⟨⟨⟨⟨⟨⟨⟨⟨⟨⟨⟨⟨⟨⟨⟨⟨⟨⟨⟨⟨⟨⟨⟨⟨⟨⟨⟨⟨⟨⟨⟨⟨⟨⟨⟨⟨⟨⟨⟨⟨⟨⟨⟨⟨⟨⟨⟨⟨⟨⟨⟨⟨⟨⟨⟨⟨⟨⟨⟨⟨⟨⟨⟨⟨⟨⟨⟨⟨⟨⟨⟨⟨⟨⟨⟨⟨⟨⟨⟨⟨⟨⟨⟨⟨⟨⟨⟨⟨⟨⟨⟨⟨⟨⟨⟨⟨⟨⟨⟨⟨⟨⟨⟨⟨⟨⟨⟨⟨⟨⟨⟨⟨⟨⟨⟨⟨⟨⟨⟨⟨⟨⟨⟨⟨⟨⟨⟨⟨⟨⟨⟨⟨⟨⟨⟨⟨⟨⟨⟨⟨⟨⟨⟨⟨⟨⟨⟨⟨⟨⟨⟨⟨⟨⟨⟨⟨⟨⟨⟨⟨⟨⟨trivial,trivial⟩,⟨by decide,by decide⟩⟩,ptC_one _⟩,trivial⟩,trivial⟩,trivial⟩,trivial⟩,trivial⟩,trivial⟩,trivial⟩,⟨by decide,by decide⟩⟩,trivial⟩,trivial⟩,⟨(ptD.is_enc (ok4_id)),(ptD.is_enc (hp))⟩⟩,⟨by decide,by decide⟩⟩,ptC_one _⟩,trivial⟩,trivial⟩,trivial⟩,trivial⟩,trivial⟩,trivial⟩,trivial⟩,trivial⟩,⟨by decide,by decide⟩⟩,trivial⟩,trivial⟩,⟨(ptD.is_enc (ok4_add _ _)),(ptD.is_enc (hp))⟩⟩,⟨by decide,by decide⟩⟩,ptC_one _⟩,trivial⟩,trivial⟩,trivial⟩,trivial⟩,trivial⟩,trivial⟩,trivial⟩,trivial⟩,⟨by decide,by decide⟩⟩,trivial⟩,trivial⟩,⟨(ptD.is_enc (ok4_add _ _)),(ptD.is_enc (hp))⟩⟩,⟨by decide,by decide⟩⟩,ptC_one _⟩,trivial⟩,trivial⟩,trivial⟩,trivial⟩,trivial⟩,trivial⟩,trivial⟩,trivial⟩,⟨by decide,by decide⟩⟩,trivial⟩,trivial⟩,⟨(ptD.is_enc (ok4_add _ _)),(ptD.is_enc (hp))⟩⟩,⟨by decide,by decide⟩⟩,ptC_one _⟩,trivial⟩,trivial⟩,trivial⟩,trivial⟩,trivial⟩,trivial⟩,trivial⟩,trivial⟩,⟨by decide,by decide⟩⟩,trivial⟩,trivial⟩,⟨(ptD.is_enc (ok4_add _ _)),(ptD.is_enc (hp))⟩⟩,⟨by decide,by decide⟩⟩,ptC_one _⟩,trivial⟩,trivial⟩,trivial⟩,trivial⟩,trivial⟩,trivial⟩,trivial⟩,trivial⟩,⟨by decide,by decide⟩⟩,trivial⟩,trivial⟩,⟨(ptD.is_enc (ok4_add _ _)),(ptD.is_enc (hp))⟩⟩,⟨by decide,by decide⟩⟩,ptC_one _⟩,trivial⟩,trivial⟩,trivial⟩,trivial⟩,trivial⟩,trivial⟩,trivial⟩,trivial⟩,⟨by decide,by decide⟩⟩,trivial⟩,trivial⟩,⟨(ptD.is_enc (ok4_add _ _)),(ptD.is_enc (hp))⟩⟩,⟨by decide,by decide⟩⟩,ptC_one _⟩,trivial⟩,trivial⟩,trivial⟩,trivial⟩,trivial⟩,trivial⟩,trivial⟩,trivial⟩,⟨by decide,by decide⟩⟩,trivial⟩,trivial⟩,⟨(ptD.is_enc (ok4_add _ _)),(ptD.is_enc (hp))⟩⟩,⟨by decide,by decide⟩⟩,ptC_one _⟩,trivial⟩,trivial⟩,trivial⟩,trivial⟩,trivial⟩,trivial⟩,trivial⟩,trivial⟩,⟨by decide,by decide⟩⟩,trivial⟩,trivial⟩,⟨(ptD.is_enc (ok4_add _ _)),(ptD.is_enc (hp))⟩⟩,⟨by decide,by decide⟩⟩,ptC_one _⟩,trivial⟩,trivial⟩,trivial⟩,trivial⟩,trivial⟩,trivial⟩,trivial⟩,trivial⟩,⟨by decide,by decide⟩⟩,trivial⟩,trivial⟩,⟨(ptD.is_enc (ok4_add _ _)),(ptD.is_enc (hp))⟩⟩,⟨by decide,by decide⟩⟩,ptC_one _⟩,trivial⟩,trivial⟩,trivial⟩,trivial⟩,trivial⟩,trivial⟩,trivial⟩,trivial⟩,⟨by decide,by decide⟩⟩,trivial⟩,trivial⟩,⟨(ptD.is_enc (ok4_add _ _)),(ptD.is_enc (hp))⟩⟩,⟨by decide,by decide⟩⟩,ptC_one _⟩,trivial⟩,trivial⟩,trivial⟩,trivial⟩,trivial⟩,trivial⟩,trivial⟩,trivial⟩,⟨by decide,by decide⟩⟩,trivial⟩,trivial⟩,⟨(ptD.is_enc (ok4_add _ _)),(ptD.is_enc (hp))⟩⟩,⟨by decide,by decide⟩⟩,ptC_one _⟩,trivial⟩,trivial⟩,trivial⟩,trivial⟩,trivial⟩,trivial⟩,trivial⟩,trivial⟩,⟨by decide,by decide⟩⟩,trivial⟩,trivial⟩,⟨(ptD.is_enc (ok4_add _ _)),(ptD.is_enc (hp))⟩⟩,⟨by decide,by decide⟩⟩,ptC_one _⟩,trivial⟩,trivial⟩,trivial⟩,trivial⟩,trivial⟩,trivial⟩,trivial⟩,trivial⟩,⟨by decide,by decide⟩⟩,trivial⟩,trivial⟩,⟨(ptD.is_enc (ok4_add _ _)),(ptD.is_enc (hp))⟩⟩,⟨by decide,by decide⟩⟩,ptC_one _⟩,trivial⟩,trivial⟩,trivial⟩,trivial⟩,trivial⟩,trivial⟩,trivial⟩,trivial⟩,⟨by decide,by decide⟩⟩,trivial⟩,trivial⟩,⟨(ptD.is_enc (ok4_add _ _)),(ptD.is_enc (hp))⟩⟩,⟨by decide,by decide⟩⟩,ptC_one _⟩,trivial⟩,trivial⟩,trivial⟩,trivial⟩,one_mu _⟩
def muo_R (p:P4):List P4:= [ofP 0 1,(muo_u0 p),(muo_u1 p),(muo_u2 p),(muo_u3 p),(muo_u4 p),(muo_u5 p),(muo_u6 p),(muo_u7 p),(muo_u8 p),(muo_u9 p),(muo_u10 p),(muo_u11 p),(muo_u12 p),(muo_u13 p),(muo_u14 p)]
def muo_S (p:P4):Value:= .agg (muC (muo_R p))
theorem muo_e (p:P4) (hp:Ok4 p):muo_F p=muo_S p:=by
  unfold muo_F muo_S muo_R
  try simp only[nm_mod,nn_mod,nm_inv,nn_inv,nm_d,nn_d,nm_1,nn_1,nm_root,nn_quo,dp_add,dp_id,dp_ptC _ hp,muo_x0 p hp,muo_x1 p hp,muo_x2 p hp,muo_x3 p hp,muo_x4 p hp,muo_x5 p hp,muo_x6 p hp,muo_x7 p hp,muo_x8 p hp,muo_x9 p hp,muo_x10 p hp,muo_x11 p hp,muo_x12 p hp,muo_x13 p hp,muo_x14 p hp]
  try simp only[muo_w0 p hp,muo_w1 p hp,muo_w2 p hp,muo_w3 p hp,muo_w4 p hp,muo_w5 p hp,muo_w6 p hp,muo_w7 p hp,muo_w8 p hp,muo_w9 p hp,muo_w10 p hp,muo_w11 p hp,muo_w12 p hp,muo_w13 p hp,muo_w14 p hp]
end Go.Proofs.YtdebkddhpogkgaaGreat

set_option linter.unusedSimpArgs false
set_option linter.unusedVariables false
/-! Rows of rows; a scalar's digits. -/
namespace Go.Proofs.YtdebkddhpogkgaaGreat
open Go.RowKit Go.Ev
section
variable {α:Type} (f:α→List Value) (w:Nat)
theorem ch_len:∀(L:List α),(∀ y ∈ L,(f y).length=w)→((L.map f).flatten).length=L.length*w
  | [],_=>by simp
  | x :: r, h => by
    rw[List.map_cons,List.flatten_cons,List.length_append,h x List.mem_cons_self,ch_len r (fun y hy=>h y (List.mem_cons_of_mem _ hy)),List.length_cons,Nat.succ_mul,Nat.add_comm]
theorem ch_at:∀(L:List α) (k:Nat) (x:α),(∀ y ∈ L,(f y).length=w)→L[k]? =some x→((((L.map f).flatten).drop (k*w)).take w)=f x
  | [],k,x,_,h=>by simp at h
  | y :: r, 0, x, hl, h => by
    simp only[List.getElem?_cons_zero,Option.some.injEq] at h
    subst h
    have:=hl y List.mem_cons_self
    rw[Nat.zero_mul,List.drop_zero,List.map_cons,List.flatten_cons,List.take_append_of_le_length (by omega),List.take_of_length_le (by omega)]
  | y :: r, k + 1, x, hl, h => by
    have hy:=hl y List.mem_cons_self
    rw[List.map_cons,List.flatten_cons,List.drop_append,hy,Nat.succ_mul,List.drop_of_length_le (by omega),List.nil_append,Nat.add_sub_cancel]
    exact ch_at r k x (fun y hy=>hl y (List.mem_cons_of_mem _ hy)) (by simpa using h)
theorem ch_set:∀(L:List α) (k:Nat) (x:α),(∀ y ∈ L,(f y).length=w)→k<L.length→((L.map f).flatten).take (k*w) ++ f x ++ ((L.map f).flatten).drop (k*w+w)=((L.set k x).map f).flatten
  | [],k,x,_,h=>by simp at h
  | y :: r, 0, x, hl, h => by
    have hy:=hl y List.mem_cons_self
    rw[List.set_cons_zero,List.map_cons,List.map_cons,List.flatten_cons,List.flatten_cons,Nat.zero_mul,List.take_zero,List.nil_append,Nat.zero_add,List.drop_append,hy,List.drop_of_length_le (by omega),Nat.sub_self,List.drop_zero,List.nil_append]
  | y :: r, k + 1, x, hl, h => by
    have hy:=hl y List.mem_cons_self
    have ih:=ch_set r k x (fun y hy=>hl y (List.mem_cons_of_mem _ hy)) (by simpa using h)
    rw[List.set_cons_succ,List.map_cons,List.map_cons,List.flatten_cons,List.flatten_cons,← ih,List.take_append,List.drop_append,hy,Nat.succ_mul,List.take_of_length_le (by omega),List.drop_of_length_le (by omega),List.nil_append,Nat.add_sub_cancel,show k*w+w+w - w=k*w+w by omega,List.append_assoc,List.append_assoc,List.append_assoc]
end
theorem len_te (t:Tm):(teC t).toList.length=64:=by kernel_rfl
theorem siz_te (t:Tm):64=(teC t).size:=by kernel_rfl
theorem len_pt (p:P4):(ptC p).toList.length=16:=rfl
theorem len_mu (m:List P4) (h:m.length=16):(muC m).toList.length=256:=by
  unfold muC
  rw[ch_len (fun p=>(ptC p).toList) 16 m (fun p _=>len_pt p),h]
theorem ext_list (l:List Value) (a b:Nat):l.toArray.extract a (a+b)=((l.drop a).take b).toArray:=by
  apply Array.ext'
  simp[List.extract_eq_take_drop]
theorem toA (a:Array Value):a.toList.toArray=a:=by simp
theorem tl_at {l:List Tm} {k:Nat} {t:Tm} (h:l[k]? =some t):(tlC l).extract (0+Int.toNat (k:Int)*64) ((0+Int.toNat (k:Int)*64)+64)=teC t∧64=(teC t).size:=by
  refine⟨?_,siz_te t⟩
  unfold tlC
  rw[Int.toNat_natCast,Nat.zero_add,ext_list,ch_at (fun t=>(teC t).toList) 64 l k t (fun t _=>len_te t) h,toA]
theorem ml_at {m:List (List P4)} {k d:Nat} {r:List P4} {p:P4} (hm:∀ r ∈ m,r.length=16) (hr:m[k]? =some r) (hp:r[d]? =some p):(mlC m).extract (0+Int.toNat (k:Int)*256+Int.toNat (d:Int)*16) ((0+Int.toNat (k:Int)*256+Int.toNat (d:Int)*16)+16)=ptC p∧16=(ptC p).size:=by
  refine⟨?_,rfl⟩
  have hd:d<16:=by
    have:=(List.getElem?_eq_some_iff.1 hp).1
    have:=hm r (List.mem_of_getElem? hr)
    omega
  unfold mlC
  rw[Int.toNat_natCast,Int.toNat_natCast,Nat.zero_add,ext_list]
  have h1:=ch_at (fun m=>(muC m).toList) 256 m k r (fun r hr=>len_mu r (hm r hr)) hr
  have h2:=ch_at (fun p=>(ptC p).toList) 16 r d p (fun p _=>len_pt p) hp
  have e:(((m.map fun m=>(muC m).toList).flatten.drop (k*256+d*16)).take 16)=(((((m.map fun m=>(muC m).toList).flatten.drop (k*256)).take 256).drop (d*16)).take 16):=by
    rw[List.drop_take,List.take_take,List.drop_drop,Nat.min_eq_left (by omega)]
  rw[e,h1]
  unfold muC
  rw[h2,toA]
theorem ml_set {m:List (List P4)} {k:Nat} {r:List P4} (hm:∀ r ∈ m,r.length=16) (hr:r.length=16) (hk:k<m.length):(0+Int.toNat (k:Int)*256)+(muC r).size≤(mlC m).size∧Calm.splice (mlC m) (0+Int.toNat (k:Int)*256) (muC r)=mlC (m.set k r)∧(muC r).all (fun v=>v.oneCell')=true:=by
  have hs:(muC r).size=256:=by rw[← Array.length_toList];exact len_mu r hr
  have hl:=ch_len (fun m=>(muC m).toList) 256 m (fun r hr=>len_mu r (hm r hr))
  refine⟨?_,?_,one_mu r⟩
  · rw [hs, Int.toNat_natCast, ← Array.length_toList]
    unfold mlC
    rw[hl]
    omega
  · unfold Calm.splice
    rw[hs,Int.toNat_natCast,Nat.zero_add]
    unfold mlC
    have:=ch_set (fun m=>(muC m).toList) 256 m k r (fun r hr=>len_mu r (hm r hr)) hk
    rw[← this]
theorem rng_all (a:Array Value) {n:Nat} (h:n=a.size):(List.range n).map (fun x=>a[x]!)=a.toList:=by
  subst h
  refine List.ext_getElem (by simp) fun i h1 h2=> ?_
  have:i<a.size:=by simpa using h1
  simp[getElem!_pos a i this]
theorem made_rep (a:Array Value) {w:Nat} (h:w=a.size) (n:Nat):(List.range (n*w)).map (fun x=>a[x%a.size]!)=((List.replicate n a.toList).flatten):=by
  subst h
  induction n with
  |zero=>simp
  | succ n ih =>
    rw[List.replicate_succ',List.flatten_append,← ih,Nat.succ_mul,List.range_add,List.map_append,List.map_map]
    congr 1
    have:((List.range a.size).map ((fun x=>a[x%a.size]!) ∘ fun x=>n*a.size+x))=(List.range a.size).map (fun x=>a[x]!):=List.map_congr_left fun x hx=>by
      have:=List.mem_range.1 hx
      simp only[Function.comp_apply]
      rw[Nat.add_comm,Nat.add_mul_mod_self_right,Nat.mod_eq_of_lt this]
    rw[this,rng_all a rfl]
    simp
theorem ml_made (n:Nat):madeCells (muC zmu) (Int.toNat ((n:Nat):Int)*256)=mlC (List.replicate n zmu):=by
  have hz:256=(muC zmu).size:=by kernel_rfl
  have:=made_rep (muC zmu) hz n
  rw[Int.toNat_natCast]
  unfold madeCells mlC
  apply Array.ext'
  rw[List.map_replicate]
  simp only[Array.toList_map,Array.toList_range]
  exact this
def dgN (K:Int) (k:Nat):Nat:=K.toNat / 16 ^ k%16
theorem and15_tab:(List.range 256).all (fun i=>decide (bits .and .u8 (i:Int) 15=(i:Int)%16))=true:=by kernel_rfl
theorem and_15 (x:Int) (h0:0≤x) (h1:x<256):bits .and .u8 x 15=x%16:=by
  have:=List.all_eq_true.1 and15_tab x.toNat (List.mem_range.2 (by omega))
  simp only[decide_eq_true_eq] at this
  rwa[Int.toNat_of_nonneg h0] at this
theorem dq0 {j:Nat} (h:j<32):IntKind.i64.wrap (Int.tdiv (2*(j:Int)) 2)=(j:Int):=by
  rw[Int.tdiv_eq_ediv_of_nonneg (by omega),wrp _ (by omega) (by omega)];omega
theorem dq1 {j:Nat} (h:j<32):IntKind.i64.wrap (Int.tdiv (2*(j:Int)+1) 2)=(j:Int):=by
  rw[Int.tdiv_eq_ediv_of_nonneg (by omega),wrp _ (by omega) (by omega)];omega
theorem dr0 (j:Nat):Int.tmod (2*(j:Int)) 2=0:=by rw[Int.tmod_eq_emod_of_nonneg (by omega)];omega
theorem dr1 (j:Nat):Int.tmod (2*(j:Int)+1) 2=1:=by rw[Int.tmod_eq_emod_of_nonneg (by omega)];omega
theorem dld (K:Int) {j:Nat} (h:j<32):(byC K)[(0+Int.toNat (j:Int)*1)]? =some (.int .u8 (byt K j)):=by
  rw[Nat.zero_add,Nat.mul_one,Int.toNat_natCast]
  exact byC_at K _ h
theorem dix {j:Nat} (h:j<32):0≤(j:Int)∧(j:Int)<((32:Nat):Int):=by omega
def dg0_h (i:Nat):Hn:=⟨0,[],[],[],[]⟩
theorem dg0_0 (K:Int) (j:Nat):evF (yty.en tab23) dg0_h Tryz.f69 [.agg (byC K),.int .i64 (2*(j:Int))] [some (.int .i64 (j:Int)),some (.int .u8 (byt K j)),some (.int .i64 0)]=some (.int .u8 (bits .and .u8 ((byt K j) / 2 ^ (0)) 15),(((((((((((True∧True)∧True)∧(((2:Int)≠0)∧(IntKind.i64.wrap (Int.tdiv (2*(j:Int)) 2))=(j:Int)))∧(0≤(j:Int)∧(j:Int)<((32:Nat):Int)))∧(((byC K)[(0+Int.toNat (j:Int)*1)]? =some (.int .u8 (byt K j)))∧(byt K j)=(byt K j)))∧True)∧(((2:Int)≠0)∧(Int.tmod (2*(j:Int)) 2)=0))∧True)∧((0:Int)≤0))∧True)∧True)):=by kernel_rfl
set_option maxHeartbeats 4000000 in
theorem dg0_p (K:Int) (j:Nat) (hK:Ok K) (hj:j<32):Pure Tryz.prog 69 #[.agg (byC K),.int .i64 (2*(j:Int))] (.int .u8 (bits .and .u8 ((byt K j) / 2 ^ (0)) 15)):=by
  exact pure_of mixed Tryz.func69 _ (dg0_0 K j) rfl ⟨⟨⟨⟨⟨⟨⟨⟨⟨⟨⟨trivial,trivial⟩,trivial⟩,⟨(by decide),dq0 hj⟩⟩,dix hj⟩,⟨dld K hj,rfl⟩⟩,trivial⟩,⟨(by decide),dr0 j⟩⟩,trivial⟩,(by decide)⟩,trivial⟩,trivial⟩
def dg1_h (i:Nat):Hn:=⟨0,[],[],[],[]⟩
theorem dg1_0 (K:Int) (j:Nat):evF (yty.en tab23) dg1_h Tryz.f69 [.agg (byC K),.int .i64 (2*(j:Int)+1)] [some (.int .i64 (j:Int)),some (.int .u8 (byt K j)),some (.int .i64 1)]=some (.int .u8 (bits .and .u8 ((byt K j) / 2 ^ (4)) 15),(((((((((((True∧True)∧True)∧(((2:Int)≠0)∧(IntKind.i64.wrap (Int.tdiv (2*(j:Int)+1) 2))=(j:Int)))∧(0≤(j:Int)∧(j:Int)<((32:Nat):Int)))∧(((byC K)[(0+Int.toNat (j:Int)*1)]? =some (.int .u8 (byt K j)))∧(byt K j)=(byt K j)))∧True)∧(((2:Int)≠0)∧(Int.tmod (2*(j:Int)+1) 2)=1))∧True)∧((0:Int)≤4))∧True)∧True)):=by kernel_rfl
set_option maxHeartbeats 4000000 in
theorem dg1_p (K:Int) (j:Nat) (hK:Ok K) (hj:j<32):Pure Tryz.prog 69 #[.agg (byC K),.int .i64 (2*(j:Int)+1)] (.int .u8 (bits .and .u8 ((byt K j) / 2 ^ (4)) 15)):=by
  exact pure_of mixed Tryz.func69 _ (dg1_0 K j) rfl ⟨⟨⟨⟨⟨⟨⟨⟨⟨⟨⟨trivial,trivial⟩,trivial⟩,⟨(by decide),dq1 hj⟩⟩,dix hj⟩,⟨dld K hj,rfl⟩⟩,trivial⟩,⟨(by decide),dr1 j⟩⟩,trivial⟩,(by decide)⟩,trivial⟩,trivial⟩
theorem byt_n {K:Int} (hK:Ok K) (j:Nat):byt K j=((K.toNat / 256 ^ j%256:Nat):Int):=by
  unfold byt
  conv=>lhs;rw[← Int.toNat_of_nonneg hK.1]
  rw[Int.natCast_emod,Int.natCast_ediv,Int.natCast_pow]
  rfl
theorem Digit_c (K n:Int) (hK:Ok K) (h:0≤n∧n<64):Pure Tryz.prog 69 #[.agg (byC K),.int .i64 n] (.int .u8 ((dgN K n.toNat:Nat):Int)):=by
  have hb:=fun j=>byt_bd K j
  have hp:∀ j,(16:Nat) ^ (2*j)=256 ^ j:=fun j=>by rw[Nat.pow_mul]
  rcases Int.emod_two_eq n with h2|h2
  · obtain ⟨j, hj⟩ : ∃ j : Nat, n = 2 * (j : Int) := ⟨(n / 2).toNat, by omega⟩
    have hj32:j<32:=by omega
    have:=dg0_p K j hK hj32
    rw[and_15 _ (by have:=hb j;omega) (by have:=hb j;omega),← hj] at this
    have e:(byt K j / 2 ^ 0)%16=((dgN K n.toNat:Nat):Int):=by
      rw[byt_n hK j,hj,show(2*(j:Int)).toNat=2*j by omega]
      unfold dgN
      rw[hp]
      omega
    rwa[e] at this
  · obtain ⟨j, hj⟩ : ∃ j : Nat, n = 2 * (j : Int) + 1 := ⟨(n / 2).toNat, by omega⟩
    have hj32:j<32:=by omega
    have:=dg1_p K j hK hj32
    rw[and_15 _ (by have:=hb j;omega) (by have:=hb j;omega),← hj] at this
    have e:(byt K j / 2 ^ 4)%16=((dgN K n.toNat:Nat):Int):=by
      rw[byt_n hK j,hj,show(2*(j:Int)+1).toNat=2*j+1 by omega]
      unfold dgN
      rw[Nat.pow_succ,hp,← Nat.div_div_eq_div_mul]
      omega
    rwa[e] at this
end Go.Proofs.YtdebkddhpogkgaaGreat

set_option linter.unusedSimpArgs false
set_option linter.unusedVariables false
/-! together: all terms' digits, from the highest down. -/
namespace Go.Proofs.YtdebkddhpogkgaaGreat
open Go.RowKit Go.Ev
section
variable {P:Program} {f:FuncId} {fn:Func} (hf:P.funcs[f]? =some fn) (hn:(fn.name == "runtime.NumGoroutine")=false) (hb:fn.body.isNone=false)
def ent1i (c1 : Cd) (F : c1.α → Int → Value) (C : Int → Prop) {k : IntKind} (h : ∀ x n, c1.ok x → C n → Pure P f #[.agg (c1.enc x), .int k n] (F x n)) : Entry P where
  f:=f
  g:=fun _ xs=>match xs with| [.agg a,.int j n]=>some (F (c1.dec a) n,c1.is a∧j=k∧C n)|_=>none
  ok := fun _ xs u c e hc w β _ => by
    split at e
    · simp only [Option.some.injEq, Prod.mk.injEq] at e
      obtain⟨rfl,rfl⟩:=e
      obtain⟨⟨x,hx,rfl⟩,rfl,hc⟩:=hc
      rw[c1.h x hx];exact h x _ hx hc w
    · cases e
  call:=call_of hf hn hb
end
abbrev LL:Type:=List (List P4)
def at64 (n:Int):Prop:=0≤n∧n<64
def pDigit:Entry Tryz.prog:=ent1i Tryz.func69 (by kernel_rfl) (by kernel_rfl) byD (fun(K n:Int)=> .int .u8 ((dgN K n.toNat:Nat):Int)) at64 (k:= .i64) (fun K n hK h=>Digit_c K n hK h)
def tab24:List (Entry Tryz.prog):=pDigit :: tab23
theorem tg_sub {i:Nat} (h:i<64):IntKind.i64.wrap (63 - (i:Int))=((63 - i:Nat):Int):=by rw[wrp _ (by omega) (by omega)];omega
theorem tg_add {n k:Nat} (hn:n≤64) (h:k<n):IntKind.i64.wrap ((k:Int)+1)=((k+1:Nat):Int):=by rw[wrp _ (by omega) (by omega)];omega
theorem tg_add64 {k:Nat} (h:k<64):IntKind.i64.wrap ((k:Int)+1)=((k+1:Nat):Int):=by rw[wrp _ (by omega) (by omega)];omega
theorem tg_ix {n k:Nat} (h:k<n):(0:Int)≤(k:Int)∧((k:Int):Int)<((n:Nat):Int):=by omega
theorem tg_at (i:Nat):at64 ((63 - i:Nat):Int):=by unfold at64;omega
theorem tg_d (K:Int) (k:Nat):0≤((dgN K k:Nat):Int)∧((dgN K k:Nat):Int)<((16:Nat):Int):=by unfold dgN;omega
def tg_A_h (i:Nat):Hn:=if i=14 then⟨8,[],[],[],[]⟩ else⟨0,[],[],[],[]⟩
def tg_A_a (l:List Tm) (m:LL) (n cp:Nat):List Value:= [.slice (some ⟨0,0,none⟩) n cp,.slice (some ⟨1,0,none⟩) n n,undef,undef,undef,undef,undef,undef,undef,undef,undef,undef,undef,undef,undef,undef,undef,undef,undef,undef,undef,undef,undef,undef,undef,undef,undef,undef,undef,undef,undef,undef,undef,undef,undef,undef,undef,undef,undef,undef,undef,undef,undef,undef,undef]
def tg_A_b (l:List Tm) (m:LL) (n cp:Nat):List Value:= [.slice (some ⟨0,0,none⟩) n cp,.slice (some ⟨1,0,none⟩) n n,undef,undef,.pointer (some ⟨2,0,none⟩),undef,undef,undef,undef,undef,undef,undef,undef,undef,undef,undef,undef,undef,undef,undef,undef,undef,undef,undef,undef,undef,undef,undef,undef,undef,undef,undef,undef,undef,undef,undef,undef,undef,undef,undef,undef,undef,undef,undef,undef]
theorem tg_A_0 (l:List Tm) (m:LL) (n cp:Nat):evC (yty.enf tab24 2) tg_A_h (cAt [0] (bdy Tryz.f44)) ⟨tg_A_a l m n cp,[((tlC l),41),((mlC m),64)],True,[]⟩=some (.normal,⟨tg_A_b l m n cp,[((tlC l),41),((mlC m),64),((ptC (⟨0,0,0,0⟩:P4)),60)],True,[]⟩):=by kernel_rfl
theorem tg_A_r (l:List Tm) (m:LL) (n cp:Nat)    {c0:Prop} {ch0:List (Option Value)}:Runs Tryz.prog (cAt [0] (bdy Tryz.f44)) ⟨tg_A_a l m n cp,[((tlC l),41),((mlC m),64)],c0,ch0⟩ (fun e s=>e= .normal∧∃ c ch,s=⟨tg_A_b l m n cp,[((tlC l),41),((mlC m),64),((ptC (⟨0,0,0,0⟩:P4)),60)],c,ch⟩) 2:=by
  refine(runs_ev mixed [] (tg_A_0 l m n cp ) trivial).mono ?_
  rintro e s ⟨rfl,rfl⟩
  exact⟨rfl,_,_,rfl⟩
def tg_B_h (i:Nat):Hn:=if i=14 then⟨8,[],[],[],[]⟩ else⟨0,[],[],[],[]⟩
def tg_B_a (l:List Tm) (m:LL) (n cp:Nat):List Value:= [.slice (some ⟨0,0,none⟩) n cp,.slice (some ⟨1,0,none⟩) n n,undef,undef,.pointer (some ⟨2,0,none⟩),undef,undef,undef,undef,undef,undef,undef,undef,undef,undef,undef,undef,undef,undef,undef,undef,undef,undef,undef,undef,undef,undef,undef,undef,undef,undef,undef,undef,undef,undef,undef,undef,undef,undef,undef,undef,undef,undef,undef,undef]
def tg_B_b (l:List Tm) (m:LL) (n cp:Nat):List Value:= [.slice (some ⟨0,0,none⟩) n cp,.slice (some ⟨1,0,none⟩) n n,undef,undef,.pointer (some ⟨2,0,none⟩),.pointer (some ⟨3,0,none⟩),undef,undef,undef,undef,.agg (ptC (ofP 0 1)),undef,undef,undef,undef,undef,undef,undef,undef,undef,undef,undef,undef,undef,undef,undef,undef,undef,undef,undef,undef,undef,undef,undef,undef,undef,undef,undef,undef,undef,undef,undef,undef,undef,undef]
theorem tg_B_0 (l:List Tm) (m:LL) (n cp:Nat):evC (yty.enf tab24 2) tg_B_h (cAt [1,0] (bdy Tryz.f44)) ⟨tg_B_a l m n cp,[((tlC l),41),((mlC m),64),((ptC (⟨0,0,0,0⟩:P4)),60)],True,[]⟩=some (.normal,⟨tg_B_b l m n cp,[((tlC l),41),((mlC m),64),((ptC (⟨0,0,0,0⟩:P4)),60),((ptC (ofP 0 1)),60)],((True∧True)∧((ptC (ofP 0 1)).all (fun v=>v.oneCell')=true)),[]⟩):=by kernel_rfl
theorem tg_B_r (l:List Tm) (m:LL) (n cp:Nat)    {c0:Prop} {ch0:List (Option Value)}:Runs Tryz.prog (cAt [1,0] (bdy Tryz.f44)) ⟨tg_B_a l m n cp,[((tlC l),41),((mlC m),64),((ptC (⟨0,0,0,0⟩:P4)),60)],c0,ch0⟩ (fun e s=>e= .normal∧∃ c ch,s=⟨tg_B_b l m n cp,[((tlC l),41),((mlC m),64),((ptC (⟨0,0,0,0⟩:P4)),60),((ptC (ofP 0 1)),60)],c,ch⟩) 2:=by
  refine(runs_ev mixed [] (tg_B_0 l m n cp ) ⟨⟨trivial,trivial⟩,ptC_one _⟩).mono ?_
  rintro e s ⟨rfl,rfl⟩
  exact⟨rfl,_,_,rfl⟩
def tg_C_h (i:Nat):Hn:=if i=14 then⟨8,[],[],[],[]⟩ else⟨0,[],[],[],[]⟩
def tg_C_a (l:List Tm) (m:LL) (n cp:Nat):List Value:= [.slice (some ⟨0,0,none⟩) n cp,.slice (some ⟨1,0,none⟩) n n,undef,undef,.pointer (some ⟨2,0,none⟩),.pointer (some ⟨3,0,none⟩),undef,undef,undef,undef,.agg (ptC (ofP 0 1)),undef,undef,undef,undef,undef,undef,undef,undef,undef,undef,undef,undef,undef,undef,undef,undef,undef,undef,undef,undef,undef,undef,undef,undef,undef,undef,undef,undef,undef,undef,undef,undef,undef,undef]
def tg_C_b (l:List Tm) (m:LL) (n cp:Nat):List Value:= [.slice (some ⟨0,0,none⟩) n cp,.slice (some ⟨1,0,none⟩) n n,undef,undef,.pointer (some ⟨2,0,none⟩),.pointer (some ⟨3,0,none⟩),undef,undef,undef,undef,.agg (ptC (ofP 0 1)),.int .i64 0,undef,undef,undef,undef,undef,undef,undef,undef,undef,undef,undef,undef,undef,undef,undef,undef,undef,undef,undef,undef,undef,undef,undef,undef,undef,undef,undef,undef,undef,undef,undef,undef,undef]
theorem tg_C_0 (l:List Tm) (m:LL) (n cp:Nat):evC (yty.enf tab24 2) tg_C_h (cAt [1,1,0,0] (bdy Tryz.f44)) ⟨tg_C_a l m n cp,[((tlC l),41),((mlC m),64),((ptC (⟨0,0,0,0⟩:P4)),60),((ptC (ofP 0 1)),60)],True,[]⟩=some (.normal,⟨tg_C_b l m n cp,[((tlC l),41),((mlC m),64),((ptC (⟨0,0,0,0⟩:P4)),60),((ptC (ofP 0 1)),60)],(True∧True),[]⟩):=by kernel_rfl
theorem tg_C_r (l:List Tm) (m:LL) (n cp:Nat)    {c0:Prop} {ch0:List (Option Value)}:Runs Tryz.prog (cAt [1,1,0,0] (bdy Tryz.f44)) ⟨tg_C_a l m n cp,[((tlC l),41),((mlC m),64),((ptC (⟨0,0,0,0⟩:P4)),60),((ptC (ofP 0 1)),60)],c0,ch0⟩ (fun e s=>e= .normal∧∃ c ch,s=⟨tg_C_b l m n cp,[((tlC l),41),((mlC m),64),((ptC (⟨0,0,0,0⟩:P4)),60),((ptC (ofP 0 1)),60)],c,ch⟩) 2:=by
  refine(runs_ev mixed [] (tg_C_0 l m n cp ) ⟨trivial,trivial⟩).mono ?_
  rintro e s ⟨rfl,rfl⟩
  exact⟨rfl,_,_,rfl⟩
def tg_D_h (i:Nat):Hn:=if i=14 then⟨8,[],[],[],[]⟩ else⟨0,[],[],[],[]⟩
def tg_D_a (l:List Tm) (m:LL) (n cp:Nat) (i:Nat) (S:P4) (j:Nat→Value):List Value:= [.slice (some ⟨0,0,none⟩) n cp,.slice (some ⟨1,0,none⟩) n n,j 2,j 3,.pointer (some ⟨2,0,none⟩),.pointer (some ⟨3,0,none⟩),j 6,j 7,j 8,j 9,j 10,.int .i64 (i:Int),j 12,j 13,j 14,j 15,j 16,j 17,j 18,j 19,j 20,j 21,j 22,j 23,j 24,j 25,j 26,j 27,j 28,j 29,j 30,j 31,j 32,j 33,j 34,j 35,j 36,j 37,j 38,j 39,j 40,j 41,j 42,j 43,j 44]
def tg_D_b (l:List Tm) (m:LL) (n cp:Nat) (i:Nat) (S:P4) (j:Nat→Value):List Value:= [.slice (some ⟨0,0,none⟩) n cp,.slice (some ⟨1,0,none⟩) n n,j 2,j 3,.pointer (some ⟨2,0,none⟩),.pointer (some ⟨3,0,none⟩),j 6,j 7,j 8,j 9,j 10,.int .i64 (i:Int),.bool true,j 13,j 14,j 15,j 16,j 17,j 18,j 19,j 20,j 21,j 22,j 23,j 24,j 25,j 26,j 27,j 28,j 29,j 30,j 31,j 32,j 33,j 34,j 35,j 36,j 37,j 38,j 39,j 40,j 41,j 42,j 43,j 44]
theorem tg_D_0 (l:List Tm) (m:LL) (n cp:Nat) (i:Nat) (S:P4) (j:Nat→Value):evC (yty.enf tab24 2) tg_D_h (cAt [1,1,0,1,0,0,0] (bdy Tryz.f44)) ⟨tg_D_a l m n cp i S j,[((tlC l),41),((mlC m),64),((ptC (⟨0,0,0,0⟩:P4)),60),((ptC S),60)],True,[some (.bool true)]⟩=some (.normal,⟨tg_D_b l m n cp i S j,[((tlC l),41),((mlC m),64),((ptC (⟨0,0,0,0⟩:P4)),60),((ptC S),60)],(True∧(True∧(decide ((i:Int)<64))=true)),[]⟩):=by kernel_rfl
theorem tg_D_r (l:List Tm) (m:LL) (n cp:Nat) (i:Nat) (S:P4) (j:Nat→Value) (hS:Ok4 S) (h0:(decide ((i:Int)<64))=true) {c0:Prop} {ch0:List (Option Value)}:Runs Tryz.prog (cAt [1,1,0,1,0,0,0] (bdy Tryz.f44)) ⟨tg_D_a l m n cp i S j,[((tlC l),41),((mlC m),64),((ptC (⟨0,0,0,0⟩:P4)),60),((ptC S),60)],c0,ch0⟩ (fun e s=>e= .normal∧∃ c ch,s=⟨tg_D_b l m n cp i S j,[((tlC l),41),((mlC m),64),((ptC (⟨0,0,0,0⟩:P4)),60),((ptC S),60)],c,ch⟩) 2:=by
  refine(runs_ev mixed [some (.bool true)] (tg_D_0 l m n cp i S j) ⟨trivial,⟨trivial,h0⟩⟩).mono ?_
  rintro e s ⟨rfl,rfl⟩
  exact⟨rfl,_,_,rfl⟩
def tg_De_h (i:Nat):Hn:=if i=14 then⟨8,[],[],[],[]⟩ else⟨0,[],[],[],[]⟩
def tg_De_a (l:List Tm) (m:LL) (n cp:Nat) (i:Nat) (S:P4) (j:Nat→Value):List Value:= [.slice (some ⟨0,0,none⟩) n cp,.slice (some ⟨1,0,none⟩) n n,j 2,j 3,.pointer (some ⟨2,0,none⟩),.pointer (some ⟨3,0,none⟩),j 6,j 7,j 8,j 9,j 10,.int .i64 (i:Int),j 12,j 13,j 14,j 15,j 16,j 17,j 18,j 19,j 20,j 21,j 22,j 23,j 24,j 25,j 26,j 27,j 28,j 29,j 30,j 31,j 32,j 33,j 34,j 35,j 36,j 37,j 38,j 39,j 40,j 41,j 42,j 43,j 44]
def tg_De_b (l:List Tm) (m:LL) (n cp:Nat) (i:Nat) (S:P4) (j:Nat→Value):List Value:= [.slice (some ⟨0,0,none⟩) n cp,.slice (some ⟨1,0,none⟩) n n,j 2,j 3,.pointer (some ⟨2,0,none⟩),.pointer (some ⟨3,0,none⟩),j 6,j 7,j 8,j 9,j 10,.int .i64 (i:Int),.bool false,j 13,j 14,j 15,j 16,j 17,j 18,j 19,j 20,j 21,j 22,j 23,j 24,j 25,j 26,j 27,j 28,j 29,j 30,j 31,j 32,j 33,j 34,j 35,j 36,j 37,j 38,j 39,j 40,j 41,j 42,j 43,j 44]
theorem tg_De_0 (l:List Tm) (m:LL) (n cp:Nat) (i:Nat) (S:P4) (j:Nat→Value):evC (yty.enf tab24 2) tg_De_h (cAt [1,1,0,1,0,0,0] (bdy Tryz.f44)) ⟨tg_De_a l m n cp i S j,[((tlC l),41),((mlC m),64),((ptC (⟨0,0,0,0⟩:P4)),60),((ptC S),60)],True,[some (.bool false)]⟩=some (.normal,⟨tg_De_b l m n cp i S j,[((tlC l),41),((mlC m),64),((ptC (⟨0,0,0,0⟩:P4)),60),((ptC S),60)],(True∧(True∧(decide ((i:Int)<64))=false)),[]⟩):=by kernel_rfl
theorem tg_De_r (l:List Tm) (m:LL) (n cp:Nat) (i:Nat) (S:P4) (j:Nat→Value) (hS:Ok4 S) (h0:(decide ((i:Int)<64))=false) {c0:Prop} {ch0:List (Option Value)}:Runs Tryz.prog (cAt [1,1,0,1,0,0,0] (bdy Tryz.f44)) ⟨tg_De_a l m n cp i S j,[((tlC l),41),((mlC m),64),((ptC (⟨0,0,0,0⟩:P4)),60),((ptC S),60)],c0,ch0⟩ (fun e s=>e= .normal∧∃ c ch,s=⟨tg_De_b l m n cp i S j,[((tlC l),41),((mlC m),64),((ptC (⟨0,0,0,0⟩:P4)),60),((ptC S),60)],c,ch⟩) 2:=by
  refine(runs_ev mixed [some (.bool false)] (tg_De_0 l m n cp i S j) ⟨trivial,⟨trivial,h0⟩⟩).mono ?_
  rintro e s ⟨rfl,rfl⟩
  exact⟨rfl,_,_,rfl⟩
def tg_E_h (i:Nat):Hn:=if i=14 then⟨8,[],[],[],[]⟩ else⟨0,[],[],[],[]⟩
def tg_E_a (l:List Tm) (m:LL) (n cp:Nat) (i:Nat) (S:P4) (j:Nat→Value):List Value:= [.slice (some ⟨0,0,none⟩) n cp,.slice (some ⟨1,0,none⟩) n n,j 2,j 3,.pointer (some ⟨2,0,none⟩),.pointer (some ⟨3,0,none⟩),j 6,j 7,j 8,j 9,j 10,.int .i64 (i:Int),.bool true,j 13,j 14,j 15,j 16,j 17,j 18,j 19,j 20,j 21,j 22,j 23,j 24,j 25,j 26,j 27,j 28,j 29,j 30,j 31,j 32,j 33,j 34,j 35,j 36,j 37,j 38,j 39,j 40,j 41,j 42,j 43,j 44]
def tg_E_b (l:List Tm) (m:LL) (n cp:Nat) (i:Nat) (S:P4) (j:Nat→Value):List Value:= [.slice (some ⟨0,0,none⟩) n cp,.slice (some ⟨1,0,none⟩) n n,j 2,j 3,.pointer (some ⟨2,0,none⟩),.pointer (some ⟨3,0,none⟩),j 6,j 7,j 8,j 9,j 10,.int .i64 (i:Int),.bool true,j 13,j 14,j 15,j 16,j 17,j 18,j 19,j 20,j 21,j 22,j 23,j 24,j 25,j 26,j 27,j 28,j 29,j 30,j 31,j 32,j 33,j 34,j 35,j 36,j 37,j 38,j 39,j 40,j 41,j 42,j 43,j 44]
theorem tg_E_0 (l:List Tm) (m:LL) (n cp:Nat) (i:Nat) (S:P4) (j:Nat→Value):evC (yty.enf tab24 2) tg_E_h (cAt [1,1,0,1,0,0,1,0] (bdy Tryz.f44)) ⟨tg_E_a l m n cp i S j,[((tlC l),41),((mlC m),64),((ptC (⟨0,0,0,0⟩:P4)),60),((ptC S),60)],True,[]⟩=some (.normal,⟨tg_E_b l m n cp i S j,[((tlC l),41),((mlC m),64),((ptC (⟨0,0,0,0⟩:P4)),60),((ptC S),60)],True,[]⟩):=by kernel_rfl
theorem tg_E_r (l:List Tm) (m:LL) (n cp:Nat) (i:Nat) (S:P4) (j:Nat→Value) (hS:Ok4 S)  {c0:Prop} {ch0:List (Option Value)}:Runs Tryz.prog (cAt [1,1,0,1,0,0,1,0] (bdy Tryz.f44)) ⟨tg_E_a l m n cp i S j,[((tlC l),41),((mlC m),64),((ptC (⟨0,0,0,0⟩:P4)),60),((ptC S),60)],c0,ch0⟩ (fun e s=>e= .normal∧∃ c ch,s=⟨tg_E_b l m n cp i S j,[((tlC l),41),((mlC m),64),((ptC (⟨0,0,0,0⟩:P4)),60),((ptC S),60)],c,ch⟩) 2:=by
  refine(runs_ev mixed [] (tg_E_0 l m n cp i S j) trivial).mono ?_
  rintro e s ⟨rfl,rfl⟩
  exact⟨rfl,_,_,rfl⟩
def tg_Ee_h (i:Nat):Hn:=if i=14 then⟨8,[],[],[],[]⟩ else⟨0,[],[],[],[]⟩
def tg_Ee_a (l:List Tm) (m:LL) (n cp:Nat) (i:Nat) (S:P4) (j:Nat→Value):List Value:= [.slice (some ⟨0,0,none⟩) n cp,.slice (some ⟨1,0,none⟩) n n,j 2,j 3,.pointer (some ⟨2,0,none⟩),.pointer (some ⟨3,0,none⟩),j 6,j 7,j 8,j 9,j 10,.int .i64 (i:Int),.bool false,j 13,j 14,j 15,j 16,j 17,j 18,j 19,j 20,j 21,j 22,j 23,j 24,j 25,j 26,j 27,j 28,j 29,j 30,j 31,j 32,j 33,j 34,j 35,j 36,j 37,j 38,j 39,j 40,j 41,j 42,j 43,j 44]
def tg_Ee_b (l:List Tm) (m:LL) (n cp:Nat) (i:Nat) (S:P4) (j:Nat→Value):List Value:= [.slice (some ⟨0,0,none⟩) n cp,.slice (some ⟨1,0,none⟩) n n,j 2,j 3,.pointer (some ⟨2,0,none⟩),.pointer (some ⟨3,0,none⟩),j 6,j 7,j 8,j 9,j 10,.int .i64 (i:Int),.bool false,j 13,j 14,j 15,j 16,j 17,j 18,j 19,j 20,j 21,j 22,j 23,j 24,j 25,j 26,j 27,j 28,j 29,j 30,j 31,j 32,j 33,j 34,j 35,j 36,j 37,j 38,j 39,j 40,j 41,j 42,j 43,j 44]
theorem tg_Ee_0 (l:List Tm) (m:LL) (n cp:Nat) (i:Nat) (S:P4) (j:Nat→Value):evC (yty.enf tab24 2) tg_Ee_h (cAt [1,1,0,1,0,0,1,0] (bdy Tryz.f44)) ⟨tg_Ee_a l m n cp i S j,[((tlC l),41),((mlC m),64),((ptC (⟨0,0,0,0⟩:P4)),60),((ptC S),60)],True,[]⟩=some ((.exit 0),⟨tg_Ee_b l m n cp i S j,[((tlC l),41),((mlC m),64),((ptC (⟨0,0,0,0⟩:P4)),60),((ptC S),60)],True,[]⟩):=by kernel_rfl
theorem tg_Ee_r (l:List Tm) (m:LL) (n cp:Nat) (i:Nat) (S:P4) (j:Nat→Value) (hS:Ok4 S)  {c0:Prop} {ch0:List (Option Value)}:Runs Tryz.prog (cAt [1,1,0,1,0,0,1,0] (bdy Tryz.f44)) ⟨tg_Ee_a l m n cp i S j,[((tlC l),41),((mlC m),64),((ptC (⟨0,0,0,0⟩:P4)),60),((ptC S),60)],c0,ch0⟩ (fun e s=>e=(.exit 0)∧∃ c ch,s=⟨tg_Ee_b l m n cp i S j,[((tlC l),41),((mlC m),64),((ptC (⟨0,0,0,0⟩:P4)),60),((ptC S),60)],c,ch⟩) 2:=by
  refine(runs_ev mixed [] (tg_Ee_0 l m n cp i S j) trivial).mono ?_
  rintro e s ⟨rfl,rfl⟩
  exact⟨rfl,_,_,rfl⟩
def tg_F_h (i:Nat):Hn:=if i=14 then⟨8,[],[],[],[]⟩ else⟨0,[],[],[],[]⟩
def tg_F_a (l:List Tm) (m:LL) (n cp:Nat) (i:Nat) (S:P4) (j:Nat→Value):List Value:= [.slice (some ⟨0,0,none⟩) n cp,.slice (some ⟨1,0,none⟩) n n,j 2,j 3,.pointer (some ⟨2,0,none⟩),.pointer (some ⟨3,0,none⟩),j 6,j 7,j 8,j 9,j 10,.int .i64 (i:Int),j 12,j 13,j 14,j 15,j 16,j 17,j 18,j 19,j 20,j 21,j 22,j 23,j 24,j 25,j 26,j 27,j 28,j 29,j 30,j 31,j 32,j 33,j 34,j 35,j 36,j 37,j 38,j 39,j 40,j 41,j 42,j 43,j 44]
def tg_F_b (l:List Tm) (m:LL) (n cp:Nat) (i:Nat) (S:P4) (j:Nat→Value):List Value:= [.slice (some ⟨0,0,none⟩) n cp,.slice (some ⟨1,0,none⟩) n n,j 2,j 3,.pointer (some ⟨2,0,none⟩),.pointer (some ⟨3,0,none⟩),.int .i64 (i:Int),j 7,j 8,j 9,j 10,.int .i64 (i:Int),j 12,.int .i64 (i:Int),j 14,j 15,j 16,j 17,j 18,j 19,j 20,j 21,j 22,j 23,j 24,j 25,j 26,j 27,j 28,j 29,j 30,j 31,j 32,j 33,j 34,j 35,j 36,j 37,j 38,j 39,j 40,j 41,j 42,j 43,j 44]
theorem tg_F_0 (l:List Tm) (m:LL) (n cp:Nat) (i:Nat) (S:P4) (j:Nat→Value):evC (yty.enf tab24 2) tg_F_h (cAt [1,1,0,1,0,0,1,1,0,0,0] (bdy Tryz.f44)) ⟨tg_F_a l m n cp i S j,[((tlC l),41),((mlC m),64),((ptC (⟨0,0,0,0⟩:P4)),60),((ptC S),60)],True,[]⟩=some (.normal,⟨tg_F_b l m n cp i S j,[((tlC l),41),((mlC m),64),((ptC (⟨0,0,0,0⟩:P4)),60),((ptC S),60)],((True∧True)∧True),[]⟩):=by kernel_rfl
theorem tg_F_r (l:List Tm) (m:LL) (n cp:Nat) (i:Nat) (S:P4) (j:Nat→Value) (hS:Ok4 S)  {c0:Prop} {ch0:List (Option Value)}:Runs Tryz.prog (cAt [1,1,0,1,0,0,1,1,0,0,0] (bdy Tryz.f44)) ⟨tg_F_a l m n cp i S j,[((tlC l),41),((mlC m),64),((ptC (⟨0,0,0,0⟩:P4)),60),((ptC S),60)],c0,ch0⟩ (fun e s=>e= .normal∧∃ c ch,s=⟨tg_F_b l m n cp i S j,[((tlC l),41),((mlC m),64),((ptC (⟨0,0,0,0⟩:P4)),60),((ptC S),60)],c,ch⟩) 2:=by
  refine(runs_ev mixed [] (tg_F_0 l m n cp i S j) ⟨⟨trivial,trivial⟩,trivial⟩).mono ?_
  rintro e s ⟨rfl,rfl⟩
  exact⟨rfl,_,_,rfl⟩
def tg_G_h (i:Nat):Hn:=if i=14 then⟨8,[],[],[],[]⟩ else⟨0,[],[],[],[]⟩
def tg_G_a (l:List Tm) (m:LL) (n cp:Nat) (i:Nat) (S:P4) (j:Nat→Value):List Value:= [.slice (some ⟨0,0,none⟩) n cp,.slice (some ⟨1,0,none⟩) n n,j 2,j 3,.pointer (some ⟨2,0,none⟩),.pointer (some ⟨3,0,none⟩),.int .i64 (i:Int),j 7,j 8,j 9,j 10,.int .i64 (i:Int),j 12,j 13,j 14,j 15,j 16,j 17,j 18,j 19,j 20,j 21,j 22,j 23,j 24,j 25,j 26,j 27,j 28,j 29,j 30,j 31,j 32,j 33,j 34,j 35,j 36,j 37,j 38,j 39,j 40,j 41,j 42,j 43,j 44]
def tg_G_b (l:List Tm) (m:LL) (n cp:Nat) (i:Nat) (S:P4) (j:Nat→Value):List Value:= [.slice (some ⟨0,0,none⟩) n cp,.slice (some ⟨1,0,none⟩) n n,j 2,j 3,.pointer (some ⟨2,0,none⟩),.pointer (some ⟨3,0,none⟩),.int .i64 (i:Int),j 7,j 8,j 9,j 10,.int .i64 (i:Int),j 12,j 13,.int .i64 4,.bool false,.agg (ptC (addP (dp (ptC (addP (dp (ptC (addP (dp (ptC S)) (dp (ptC S))))) (dp (ptC (addP (dp (ptC S)) (dp (ptC S)))))))) (dp (ptC (addP (dp (ptC (addP (dp (ptC S)) (dp (ptC S))))) (dp (ptC (addP (dp (ptC S)) (dp (ptC S)))))))))),.agg (ptC (addP (dp (ptC (addP (dp (ptC (addP (dp (ptC S)) (dp (ptC S))))) (dp (ptC (addP (dp (ptC S)) (dp (ptC S)))))))) (dp (ptC (addP (dp (ptC (addP (dp (ptC S)) (dp (ptC S))))) (dp (ptC (addP (dp (ptC S)) (dp (ptC S)))))))))),.agg (ptC (addP (dp (ptC (addP (dp (ptC (addP (dp (ptC (addP (dp (ptC S)) (dp (ptC S))))) (dp (ptC (addP (dp (ptC S)) (dp (ptC S)))))))) (dp (ptC (addP (dp (ptC (addP (dp (ptC S)) (dp (ptC S))))) (dp (ptC (addP (dp (ptC S)) (dp (ptC S))))))))))) (dp (ptC (addP (dp (ptC (addP (dp (ptC (addP (dp (ptC S)) (dp (ptC S))))) (dp (ptC (addP (dp (ptC S)) (dp (ptC S)))))))) (dp (ptC (addP (dp (ptC (addP (dp (ptC S)) (dp (ptC S))))) (dp (ptC (addP (dp (ptC S)) (dp (ptC S))))))))))))),.int .i64 4,j 20,j 21,j 22,j 23,j 24,j 25,j 26,j 27,j 28,j 29,j 30,j 31,j 32,j 33,j 34,j 35,j 36,j 37,j 38,j 39,j 40,j 41,j 42,j 43,j 44]
theorem tg_G_0 (l:List Tm) (m:LL) (n cp:Nat) (i:Nat) (S:P4) (j:Nat→Value):evC (yty.enf tab24 2) tg_G_h (cAt [1,1,0,1,0,0,1,1,0,0,1,0] (bdy Tryz.f44)) ⟨tg_G_a l m n cp i S j,[((tlC l),41),((mlC m),64),((ptC (⟨0,0,0,0⟩:P4)),60),((ptC S),60)],True,[]⟩=some (.normal,⟨tg_G_b l m n cp i S j,[((tlC l),41),((mlC m),64),((ptC (⟨0,0,0,0⟩:P4)),60),((ptC (addP (dp (ptC (addP (dp (ptC (addP (dp (ptC (addP (dp (ptC S)) (dp (ptC S))))) (dp (ptC (addP (dp (ptC S)) (dp (ptC S)))))))) (dp (ptC (addP (dp (ptC (addP (dp (ptC S)) (dp (ptC S))))) (dp (ptC (addP (dp (ptC S)) (dp (ptC S))))))))))) (dp (ptC (addP (dp (ptC (addP (dp (ptC (addP (dp (ptC S)) (dp (ptC S))))) (dp (ptC (addP (dp (ptC S)) (dp (ptC S)))))))) (dp (ptC (addP (dp (ptC (addP (dp (ptC S)) (dp (ptC S))))) (dp (ptC (addP (dp (ptC S)) (dp (ptC S))))))))))))),60)],((((((((((((((((((((((((((((((True∧True)∧True)∧True)∧True)∧(ptD.is (ptC S)∧ptD.is (ptC S)))∧((ptC (addP (dp (ptC S)) (dp (ptC S)))).all (fun v=>v.oneCell')=true))∧True)∧True)∧True)∧True)∧True)∧(ptD.is (ptC (addP (dp (ptC S)) (dp (ptC S))))∧ptD.is (ptC (addP (dp (ptC S)) (dp (ptC S))))))∧((ptC (addP (dp (ptC (addP (dp (ptC S)) (dp (ptC S))))) (dp (ptC (addP (dp (ptC S)) (dp (ptC S))))))).all (fun v=>v.oneCell')=true))∧True)∧True)∧True)∧True)∧True)∧(ptD.is (ptC (addP (dp (ptC (addP (dp (ptC S)) (dp (ptC S))))) (dp (ptC (addP (dp (ptC S)) (dp (ptC S)))))))∧ptD.is (ptC (addP (dp (ptC (addP (dp (ptC S)) (dp (ptC S))))) (dp (ptC (addP (dp (ptC S)) (dp (ptC S)))))))))∧((ptC (addP (dp (ptC (addP (dp (ptC (addP (dp (ptC S)) (dp (ptC S))))) (dp (ptC (addP (dp (ptC S)) (dp (ptC S)))))))) (dp (ptC (addP (dp (ptC (addP (dp (ptC S)) (dp (ptC S))))) (dp (ptC (addP (dp (ptC S)) (dp (ptC S)))))))))).all (fun v=>v.oneCell')=true))∧True)∧True)∧True)∧True)∧True)∧(ptD.is (ptC (addP (dp (ptC (addP (dp (ptC (addP (dp (ptC S)) (dp (ptC S))))) (dp (ptC (addP (dp (ptC S)) (dp (ptC S)))))))) (dp (ptC (addP (dp (ptC (addP (dp (ptC S)) (dp (ptC S))))) (dp (ptC (addP (dp (ptC S)) (dp (ptC S))))))))))∧ptD.is (ptC (addP (dp (ptC (addP (dp (ptC (addP (dp (ptC S)) (dp (ptC S))))) (dp (ptC (addP (dp (ptC S)) (dp (ptC S)))))))) (dp (ptC (addP (dp (ptC (addP (dp (ptC S)) (dp (ptC S))))) (dp (ptC (addP (dp (ptC S)) (dp (ptC S))))))))))))∧((ptC (addP (dp (ptC (addP (dp (ptC (addP (dp (ptC (addP (dp (ptC S)) (dp (ptC S))))) (dp (ptC (addP (dp (ptC S)) (dp (ptC S)))))))) (dp (ptC (addP (dp (ptC (addP (dp (ptC S)) (dp (ptC S))))) (dp (ptC (addP (dp (ptC S)) (dp (ptC S))))))))))) (dp (ptC (addP (dp (ptC (addP (dp (ptC (addP (dp (ptC S)) (dp (ptC S))))) (dp (ptC (addP (dp (ptC S)) (dp (ptC S)))))))) (dp (ptC (addP (dp (ptC (addP (dp (ptC S)) (dp (ptC S))))) (dp (ptC (addP (dp (ptC S)) (dp (ptC S))))))))))))).all (fun v=>v.oneCell')=true))∧True)∧True)∧True),[]⟩):=by kernel_rfl
theorem tg_G_r (l:List Tm) (m:LL) (n cp:Nat) (i:Nat) (S:P4) (j:Nat→Value) (hS:Ok4 S)  {c0:Prop} {ch0:List (Option Value)}:Runs Tryz.prog (cAt [1,1,0,1,0,0,1,1,0,0,1,0] (bdy Tryz.f44)) ⟨tg_G_a l m n cp i S j,[((tlC l),41),((mlC m),64),((ptC (⟨0,0,0,0⟩:P4)),60),((ptC S),60)],c0,ch0⟩ (fun e s=>e= .normal∧∃ c ch,s=⟨tg_G_b l m n cp i S j,[((tlC l),41),((mlC m),64),((ptC (⟨0,0,0,0⟩:P4)),60),((ptC (addP (dp (ptC (addP (dp (ptC (addP (dp (ptC (addP (dp (ptC S)) (dp (ptC S))))) (dp (ptC (addP (dp (ptC S)) (dp (ptC S)))))))) (dp (ptC (addP (dp (ptC (addP (dp (ptC S)) (dp (ptC S))))) (dp (ptC (addP (dp (ptC S)) (dp (ptC S))))))))))) (dp (ptC (addP (dp (ptC (addP (dp (ptC (addP (dp (ptC S)) (dp (ptC S))))) (dp (ptC (addP (dp (ptC S)) (dp (ptC S)))))))) (dp (ptC (addP (dp (ptC (addP (dp (ptC S)) (dp (ptC S))))) (dp (ptC (addP (dp (ptC S)) (dp (ptC S))))))))))))),60)],c,ch⟩) 2:=by
  refine(runs_ev mixed [] (tg_G_0 l m n cp i S j) ⟨⟨⟨⟨⟨⟨⟨⟨⟨⟨⟨⟨⟨⟨⟨⟨⟨⟨⟨⟨⟨⟨⟨⟨⟨⟨⟨⟨⟨⟨trivial,trivial⟩,trivial⟩,trivial⟩,trivial⟩,⟨(ptD.is_enc (hS)),(ptD.is_enc (hS))⟩⟩,ptC_one _⟩,trivial⟩,trivial⟩,trivial⟩,trivial⟩,trivial⟩,⟨(ptD.is_enc (ok4_add _ _)),(ptD.is_enc (ok4_add _ _))⟩⟩,ptC_one _⟩,trivial⟩,trivial⟩,trivial⟩,trivial⟩,trivial⟩,⟨(ptD.is_enc (ok4_add _ _)),(ptD.is_enc (ok4_add _ _))⟩⟩,ptC_one _⟩,trivial⟩,trivial⟩,trivial⟩,trivial⟩,trivial⟩,⟨(ptD.is_enc (ok4_add _ _)),(ptD.is_enc (ok4_add _ _))⟩⟩,ptC_one _⟩,trivial⟩,trivial⟩,trivial⟩).mono ?_
  rintro e s ⟨rfl,rfl⟩
  exact⟨rfl,_,_,rfl⟩
def tg_H_h (i:Nat):Hn:=if i=14 then⟨8,[],[],[],[]⟩ else⟨0,[],[],[],[]⟩
def tg_H_a (l:List Tm) (m:LL) (n cp:Nat) (i:Nat) (S:P4) (j:Nat→Value):List Value:= [.slice (some ⟨0,0,none⟩) n cp,.slice (some ⟨1,0,none⟩) n n,j 2,j 3,.pointer (some ⟨2,0,none⟩),.pointer (some ⟨3,0,none⟩),.int .i64 (i:Int),j 7,j 8,j 9,j 10,.int .i64 (i:Int),j 12,j 13,j 14,j 15,j 16,j 17,j 18,j 19,j 20,j 21,j 22,j 23,j 24,j 25,j 26,j 27,j 28,j 29,j 30,j 31,j 32,j 33,j 34,j 35,j 36,j 37,j 38,j 39,j 40,j 41,j 42,j 43,j 44]
def tg_H_b (l:List Tm) (m:LL) (n cp:Nat) (i:Nat) (S:P4) (j:Nat→Value):List Value:= [.slice (some ⟨0,0,none⟩) n cp,.slice (some ⟨1,0,none⟩) n n,j 2,j 3,.pointer (some ⟨2,0,none⟩),.pointer (some ⟨3,0,none⟩),.int .i64 (i:Int),j 7,j 8,j 9,j 10,.int .i64 (i:Int),j 12,j 13,j 14,j 15,j 16,j 17,j 18,j 19,.slice (some ⟨0,0,none⟩) n cp,.int .i64 ((n:Nat):Int),.int .i64 0,j 23,j 24,j 25,j 26,j 27,j 28,j 29,j 30,j 31,j 32,j 33,j 34,j 35,j 36,j 37,j 38,j 39,j 40,j 41,j 42,j 43,j 44]
theorem tg_H_0 (l:List Tm) (m:LL) (n cp:Nat) (i:Nat) (S:P4) (j:Nat→Value):evC (yty.enf tab24 2) tg_H_h (cAt [1,1,0,1,0,0,1,1,0,0,1,1,0] (bdy Tryz.f44)) ⟨tg_H_a l m n cp i S j,[((tlC l),41),((mlC m),64),((ptC (⟨0,0,0,0⟩:P4)),60),((ptC S),60)],True,[]⟩=some (.normal,⟨tg_H_b l m n cp i S j,[((tlC l),41),((mlC m),64),((ptC (⟨0,0,0,0⟩:P4)),60),((ptC S),60)],(((True∧True)∧True)∧True),[]⟩):=by kernel_rfl
theorem tg_H_r (l:List Tm) (m:LL) (n cp:Nat) (i:Nat) (S:P4) (j:Nat→Value) (hS:Ok4 S)  {c0:Prop} {ch0:List (Option Value)}:Runs Tryz.prog (cAt [1,1,0,1,0,0,1,1,0,0,1,1,0] (bdy Tryz.f44)) ⟨tg_H_a l m n cp i S j,[((tlC l),41),((mlC m),64),((ptC (⟨0,0,0,0⟩:P4)),60),((ptC S),60)],c0,ch0⟩ (fun e s=>e= .normal∧∃ c ch,s=⟨tg_H_b l m n cp i S j,[((tlC l),41),((mlC m),64),((ptC (⟨0,0,0,0⟩:P4)),60),((ptC S),60)],c,ch⟩) 2:=by
  refine(runs_ev mixed [] (tg_H_0 l m n cp i S j) ⟨⟨⟨trivial,trivial⟩,trivial⟩,trivial⟩).mono ?_
  rintro e s ⟨rfl,rfl⟩
  exact⟨rfl,_,_,rfl⟩
def tg_T_h (i:Nat):Hn:=if i=14 then⟨8,[],[],[],[]⟩ else⟨0,[],[],[],[]⟩
def tg_T_a (l:List Tm) (m:LL) (n cp:Nat) (i k:Nat) (S Q:P4) (t:Tm) (j:Nat→Value):List Value:= [.slice (some ⟨0,0,none⟩) n cp,.slice (some ⟨1,0,none⟩) n n,j 2,j 3,.pointer (some ⟨2,0,none⟩),.pointer (some ⟨3,0,none⟩),.int .i64 (i:Int),j 7,j 8,j 9,j 10,.int .i64 (i:Int),j 12,j 13,j 14,j 15,j 16,j 17,j 18,j 19,.slice (some ⟨0,0,none⟩) n cp,.int .i64 ((n:Nat):Int),.int .i64 (k:Int),j 23,j 24,j 25,j 26,j 27,j 28,j 29,j 30,j 31,j 32,j 33,j 34,j 35,j 36,j 37,j 38,j 39,j 40,j 41,j 42,j 43,j 44]
def tg_T_b (l:List Tm) (m:LL) (n cp:Nat) (i k:Nat) (S Q:P4) (t:Tm) (j:Nat→Value):List Value:= [.slice (some ⟨0,0,none⟩) n cp,.slice (some ⟨1,0,none⟩) n n,j 2,j 3,.pointer (some ⟨2,0,none⟩),.pointer (some ⟨3,0,none⟩),.int .i64 (i:Int),.int .i64 (k:Int),.pointer (some ⟨4,0,none⟩),.int .u8 ((dgN (db (byC t.K)) (Int.toNat ((63 - i:Nat):Int)):Nat):Int),j 10,.int .i64 (i:Int),j 12,j 13,j 14,j 15,j 16,j 17,j 18,j 19,.slice (some ⟨0,0,none⟩) n cp,.int .i64 ((n:Nat):Int),.int .i64 ((k+1:Nat):Int),.bool true,.int .i64 (k:Int),.pointer (some ⟨0,0+Int.toNat (k:Int)*64,none⟩),.agg (teC t),.pointer (some ⟨4,0,none⟩),.agg (byC t.K),.int .i64 (i:Int),.int .i64 ((63 - i:Nat):Int),.int .u8 ((dgN (db (byC t.K)) (Int.toNat ((63 - i:Nat):Int)):Nat):Int),.int .u8 ((dgN (db (byC t.K)) (Int.toNat ((63 - i:Nat):Int)):Nat):Int),.bool true,.agg (ptC S),.slice (some ⟨1,0,none⟩) n n,.int .i64 (k:Int),.int .u8 ((dgN (db (byC t.K)) (Int.toNat ((63 - i:Nat):Int)):Nat):Int),.pointer (some ⟨1,0+Int.toNat (k:Int)*256,none⟩),.pointer (some ⟨1,0+Int.toNat (k:Int)*256+Int.toNat ((dgN (db (byC t.K)) (Int.toNat ((63 - i:Nat):Int)):Nat):Int)*16,none⟩),.agg (ptC Q),.agg (ptC (addP (dp (ptC S)) (dp (ptC Q)))),.int .i64 ((k+1:Nat):Int),j 43,j 44]
theorem tg_T_0 (l:List Tm) (m:LL) (n cp:Nat) (i k:Nat) (S Q:P4) (t:Tm) (j:Nat→Value):evC (yty.enf tab24 2) tg_T_h (cAt [1,1,0,1,0,0,1,1,0,0,1,1,1,0,0] (bdy Tryz.f44)) ⟨tg_T_a l m n cp i k S Q t j,[((tlC l),41),((mlC m),64),((ptC (⟨0,0,0,0⟩:P4)),60),((ptC S),60)],True,[some (.bool true),some (.tuple #[.agg (teC t)]),some (.int .i64 ((63 - i:Nat):Int)),some (.bool true),some (.tuple #[]),some (.tuple #[.agg (ptC Q)]),some (.int .i64 ((k+1:Nat):Int))]⟩=some (.normal,⟨tg_T_b l m n cp i k S Q t j,[((tlC l),41),((mlC m),64),((ptC (⟨0,0,0,0⟩:P4)),60),((ptC (addP (dp (ptC S)) (dp (ptC Q)))),60),((teC t),41)],(((((((((((((((((((((((((True∧(True∧(decide ((k:Int)<((n:Nat):Int)))=true))∧True)∧((0:Int)≤(k:Int)∧((k:Int):Int)<((n:Nat):Int)))∧((tlC l).extract (0+Int.toNat (k:Int)*64) ((0+Int.toNat (k:Int)*64)+64)=(teC t)∧64=(teC t).size))∧True)∧((teC t).all (fun v=>v.oneCell')=true))∧True)∧True)∧True)∧(True∧(IntKind.i64.wrap (63 - (i:Int)))=((63 - i:Nat):Int)))∧(byD.is (byC t.K)∧IntKind.i64=IntKind.i64∧at64 ((63 - i:Nat):Int)))∧True)∧True)∧(True∧(!decide (((dgN (db (byC t.K)) (Int.toNat ((63 - i:Nat):Int)):Nat):Int)=0))=true))∧True)∧True)∧True)∧True)∧((0:Int)≤(k:Int)∧((k:Int):Int)<((n:Nat):Int)))∧(0≤((dgN (db (byC t.K)) (Int.toNat ((63 - i:Nat):Int)):Nat):Int)∧((dgN (db (byC t.K)) (Int.toNat ((63 - i:Nat):Int)):Nat):Int)<((16:Nat):Int)))∧((mlC m).extract (0+Int.toNat (k:Int)*256+Int.toNat ((dgN (db (byC t.K)) (Int.toNat ((63 - i:Nat):Int)):Nat):Int)*16) ((0+Int.toNat (k:Int)*256+Int.toNat ((dgN (db (byC t.K)) (Int.toNat ((63 - i:Nat):Int)):Nat):Int)*16)+16)=(ptC Q)∧16=(ptC Q).size))∧(ptD.is (ptC S)∧ptD.is (ptC Q)))∧((ptC (addP (dp (ptC S)) (dp (ptC Q)))).all (fun v=>v.oneCell')=true))∧(True∧(IntKind.i64.wrap ((k:Int)+1))=((k+1:Nat):Int)))∧True),[]⟩):=by kernel_rfl
theorem tg_T_r (l:List Tm) (m:LL) (n cp:Nat) (i k:Nat) (S Q:P4) (t:Tm) (j:Nat→Value) (hS:Ok4 S) (hQ:Ok4 Q) (ht:OkT t) (hi:i<64) (hk:k<n) (e1:(tlC l).extract (0+Int.toNat (k:Int)*64) ((0+Int.toNat (k:Int)*64)+64)=teC t∧64=(teC t).size) (hn:n≤64) (e2:(mlC m).extract (0+Int.toNat (k:Int)*256+Int.toNat ((dgN (db (byC t.K)) (Int.toNat ((63 - i:Nat):Int)):Nat):Int)*16) ((0+Int.toNat (k:Int)*256+Int.toNat ((dgN (db (byC t.K)) (Int.toNat ((63 - i:Nat):Int)):Nat):Int)*16)+16)=ptC Q∧16=(ptC Q).size) (h0:(decide ((k:Int)<((n:Nat):Int)))=true) (h1:(!decide (((dgN (db (byC t.K)) (Int.toNat ((63 - i:Nat):Int)):Nat):Int)=0))=true) {c0:Prop} {ch0:List (Option Value)}:Runs Tryz.prog (cAt [1,1,0,1,0,0,1,1,0,0,1,1,1,0,0] (bdy Tryz.f44)) ⟨tg_T_a l m n cp i k S Q t j,[((tlC l),41),((mlC m),64),((ptC (⟨0,0,0,0⟩:P4)),60),((ptC S),60)],c0,ch0⟩ (fun e s=>e= .normal∧∃ c ch,s=⟨tg_T_b l m n cp i k S Q t j,[((tlC l),41),((mlC m),64),((ptC (⟨0,0,0,0⟩:P4)),60),((ptC (addP (dp (ptC S)) (dp (ptC Q)))),60),((teC t),41)],c,ch⟩) 2:=by
  refine(runs_ev mixed [some (.bool true),some (.tuple #[.agg (teC t)]),some (.int .i64 ((63 - i:Nat):Int)),some (.bool true),some (.tuple #[]),some (.tuple #[.agg (ptC Q)]),some (.int .i64 ((k+1:Nat):Int))] (tg_T_0 l m n cp i k S Q t j) ⟨⟨⟨⟨⟨⟨⟨⟨⟨⟨⟨⟨⟨⟨⟨⟨⟨⟨⟨⟨⟨⟨⟨⟨⟨trivial,⟨trivial,h0⟩⟩,trivial⟩,tg_ix hk⟩,e1⟩,trivial⟩,one_te _⟩,trivial⟩,trivial⟩,trivial⟩,⟨trivial,tg_sub hi⟩⟩,⟨(byD.is_enc (ht.1)),rfl,tg_at i⟩⟩,trivial⟩,trivial⟩,⟨trivial,h1⟩⟩,trivial⟩,trivial⟩,trivial⟩,trivial⟩,tg_ix hk⟩,tg_d _ _⟩,e2⟩,⟨(ptD.is_enc (hS)),(ptD.is_enc (hQ))⟩⟩,ptC_one _⟩,⟨trivial,tg_add hn hk⟩⟩,trivial⟩).mono ?_
  rintro e s ⟨rfl,rfl⟩
  exact⟨rfl,_,_,rfl⟩
def tg_U_h (i:Nat):Hn:=if i=14 then⟨8,[],[],[],[]⟩ else⟨0,[],[],[],[]⟩
def tg_U_a (l:List Tm) (m:LL) (n cp:Nat) (i k:Nat) (S Q:P4) (t:Tm) (j:Nat→Value):List Value:= [.slice (some ⟨0,0,none⟩) n cp,.slice (some ⟨1,0,none⟩) n n,j 2,j 3,.pointer (some ⟨2,0,none⟩),.pointer (some ⟨3,0,none⟩),.int .i64 (i:Int),j 7,j 8,j 9,j 10,.int .i64 (i:Int),j 12,j 13,j 14,j 15,j 16,j 17,j 18,j 19,.slice (some ⟨0,0,none⟩) n cp,.int .i64 ((n:Nat):Int),.int .i64 (k:Int),j 23,j 24,j 25,j 26,j 27,j 28,j 29,j 30,j 31,j 32,j 33,j 34,j 35,j 36,j 37,j 38,j 39,j 40,j 41,j 42,j 43,j 44]
def tg_U_b (l:List Tm) (m:LL) (n cp:Nat) (i k:Nat) (S Q:P4) (t:Tm) (j:Nat→Value):List Value:= [.slice (some ⟨0,0,none⟩) n cp,.slice (some ⟨1,0,none⟩) n n,j 2,j 3,.pointer (some ⟨2,0,none⟩),.pointer (some ⟨3,0,none⟩),.int .i64 (i:Int),.int .i64 (k:Int),.pointer (some ⟨4,0,none⟩),.int .u8 ((dgN (db (byC t.K)) (Int.toNat ((63 - i:Nat):Int)):Nat):Int),j 10,.int .i64 (i:Int),j 12,j 13,j 14,j 15,j 16,j 17,j 18,j 19,.slice (some ⟨0,0,none⟩) n cp,.int .i64 ((n:Nat):Int),.int .i64 ((k+1:Nat):Int),.bool true,.int .i64 (k:Int),.pointer (some ⟨0,0+Int.toNat (k:Int)*64,none⟩),.agg (teC t),.pointer (some ⟨4,0,none⟩),.agg (byC t.K),.int .i64 (i:Int),.int .i64 ((63 - i:Nat):Int),.int .u8 ((dgN (db (byC t.K)) (Int.toNat ((63 - i:Nat):Int)):Nat):Int),.int .u8 ((dgN (db (byC t.K)) (Int.toNat ((63 - i:Nat):Int)):Nat):Int),.bool false,j 34,j 35,j 36,j 37,j 38,j 39,j 40,j 41,.int .i64 ((k+1:Nat):Int),j 43,j 44]
theorem tg_U_0 (l:List Tm) (m:LL) (n cp:Nat) (i k:Nat) (S Q:P4) (t:Tm) (j:Nat→Value):evC (yty.enf tab24 2) tg_U_h (cAt [1,1,0,1,0,0,1,1,0,0,1,1,1,0,0] (bdy Tryz.f44)) ⟨tg_U_a l m n cp i k S Q t j,[((tlC l),41),((mlC m),64),((ptC (⟨0,0,0,0⟩:P4)),60),((ptC S),60)],True,[some (.bool true),some (.tuple #[.agg (teC t)]),some (.int .i64 ((63 - i:Nat):Int)),some (.bool false),some (.int .i64 ((k+1:Nat):Int))]⟩=some (.normal,⟨tg_U_b l m n cp i k S Q t j,[((tlC l),41),((mlC m),64),((ptC (⟨0,0,0,0⟩:P4)),60),((ptC S),60),((teC t),41)],((((((((((((((((True∧(True∧(decide ((k:Int)<((n:Nat):Int)))=true))∧True)∧((0:Int)≤(k:Int)∧((k:Int):Int)<((n:Nat):Int)))∧((tlC l).extract (0+Int.toNat (k:Int)*64) ((0+Int.toNat (k:Int)*64)+64)=(teC t)∧64=(teC t).size))∧True)∧((teC t).all (fun v=>v.oneCell')=true))∧True)∧True)∧True)∧(True∧(IntKind.i64.wrap (63 - (i:Int)))=((63 - i:Nat):Int)))∧(byD.is (byC t.K)∧IntKind.i64=IntKind.i64∧at64 ((63 - i:Nat):Int)))∧True)∧True)∧(True∧(!decide (((dgN (db (byC t.K)) (Int.toNat ((63 - i:Nat):Int)):Nat):Int)=0))=false))∧(True∧(IntKind.i64.wrap ((k:Int)+1))=((k+1:Nat):Int)))∧True),[]⟩):=by kernel_rfl
theorem tg_U_r (l:List Tm) (m:LL) (n cp:Nat) (i k:Nat) (S Q:P4) (t:Tm) (j:Nat→Value) (hS:Ok4 S) (hQ:Ok4 Q) (ht:OkT t) (hi:i<64) (hk:k<n) (e1:(tlC l).extract (0+Int.toNat (k:Int)*64) ((0+Int.toNat (k:Int)*64)+64)=teC t∧64=(teC t).size) (hn:n≤64) (h0:(decide ((k:Int)<((n:Nat):Int)))=true) (h1:(!decide (((dgN (db (byC t.K)) (Int.toNat ((63 - i:Nat):Int)):Nat):Int)=0))=false) {c0:Prop} {ch0:List (Option Value)}:Runs Tryz.prog (cAt [1,1,0,1,0,0,1,1,0,0,1,1,1,0,0] (bdy Tryz.f44)) ⟨tg_U_a l m n cp i k S Q t j,[((tlC l),41),((mlC m),64),((ptC (⟨0,0,0,0⟩:P4)),60),((ptC S),60)],c0,ch0⟩ (fun e s=>e= .normal∧∃ c ch,s=⟨tg_U_b l m n cp i k S Q t j,[((tlC l),41),((mlC m),64),((ptC (⟨0,0,0,0⟩:P4)),60),((ptC S),60),((teC t),41)],c,ch⟩) 2:=by
  refine(runs_ev mixed [some (.bool true),some (.tuple #[.agg (teC t)]),some (.int .i64 ((63 - i:Nat):Int)),some (.bool false),some (.int .i64 ((k+1:Nat):Int))] (tg_U_0 l m n cp i k S Q t j) ⟨⟨⟨⟨⟨⟨⟨⟨⟨⟨⟨⟨⟨⟨⟨⟨trivial,⟨trivial,h0⟩⟩,trivial⟩,tg_ix hk⟩,e1⟩,trivial⟩,one_te _⟩,trivial⟩,trivial⟩,trivial⟩,⟨trivial,tg_sub hi⟩⟩,⟨(byD.is_enc (ht.1)),rfl,tg_at i⟩⟩,trivial⟩,trivial⟩,⟨trivial,h1⟩⟩,⟨trivial,tg_add hn hk⟩⟩,trivial⟩).mono ?_
  rintro e s ⟨rfl,rfl⟩
  exact⟨rfl,_,_,rfl⟩
def tg_X_h (i:Nat):Hn:=if i=14 then⟨8,[],[],[],[]⟩ else⟨0,[],[],[],[]⟩
def tg_X_a (l:List Tm) (m:LL) (n cp:Nat) (i k:Nat) (S Q:P4) (t:Tm) (j:Nat→Value):List Value:= [.slice (some ⟨0,0,none⟩) n cp,.slice (some ⟨1,0,none⟩) n n,j 2,j 3,.pointer (some ⟨2,0,none⟩),.pointer (some ⟨3,0,none⟩),.int .i64 (i:Int),j 7,j 8,j 9,j 10,.int .i64 (i:Int),j 12,j 13,j 14,j 15,j 16,j 17,j 18,j 19,.slice (some ⟨0,0,none⟩) n cp,.int .i64 ((n:Nat):Int),.int .i64 (k:Int),j 23,j 24,j 25,j 26,j 27,j 28,j 29,j 30,j 31,j 32,j 33,j 34,j 35,j 36,j 37,j 38,j 39,j 40,j 41,j 42,j 43,j 44]
def tg_X_b (l:List Tm) (m:LL) (n cp:Nat) (i k:Nat) (S Q:P4) (t:Tm) (j:Nat→Value):List Value:= [.slice (some ⟨0,0,none⟩) n cp,.slice (some ⟨1,0,none⟩) n n,j 2,j 3,.pointer (some ⟨2,0,none⟩),.pointer (some ⟨3,0,none⟩),.int .i64 (i:Int),j 7,j 8,j 9,j 10,.int .i64 (i:Int),j 12,j 13,j 14,j 15,j 16,j 17,j 18,j 19,.slice (some ⟨0,0,none⟩) n cp,.int .i64 ((n:Nat):Int),.int .i64 (k:Int),.bool false,j 24,j 25,j 26,j 27,j 28,j 29,j 30,j 31,j 32,j 33,j 34,j 35,j 36,j 37,j 38,j 39,j 40,j 41,j 42,j 43,j 44]
theorem tg_X_0 (l:List Tm) (m:LL) (n cp:Nat) (i k:Nat) (S Q:P4) (t:Tm) (j:Nat→Value):evC (yty.enf tab24 2) tg_X_h (cAt [1,1,0,1,0,0,1,1,0,0,1,1,1,0,0] (bdy Tryz.f44)) ⟨tg_X_a l m n cp i k S Q t j,[((tlC l),41),((mlC m),64),((ptC (⟨0,0,0,0⟩:P4)),60),((ptC S),60)],True,[some (.bool false)]⟩=some ((.exit 4),⟨tg_X_b l m n cp i k S Q t j,[((tlC l),41),((mlC m),64),((ptC (⟨0,0,0,0⟩:P4)),60),((ptC S),60)],(True∧(True∧(decide ((k:Int)<((n:Nat):Int)))=false)),[]⟩):=by kernel_rfl
theorem tg_X_r (l:List Tm) (m:LL) (n cp:Nat) (i k:Nat) (S Q:P4) (t:Tm) (j:Nat→Value) (hS:Ok4 S) (h0:(decide ((k:Int)<((n:Nat):Int)))=false) {c0:Prop} {ch0:List (Option Value)}:Runs Tryz.prog (cAt [1,1,0,1,0,0,1,1,0,0,1,1,1,0,0] (bdy Tryz.f44)) ⟨tg_X_a l m n cp i k S Q t j,[((tlC l),41),((mlC m),64),((ptC (⟨0,0,0,0⟩:P4)),60),((ptC S),60)],c0,ch0⟩ (fun e s=>e=(.exit 4)∧∃ c ch,s=⟨tg_X_b l m n cp i k S Q t j,[((tlC l),41),((mlC m),64),((ptC (⟨0,0,0,0⟩:P4)),60),((ptC S),60)],c,ch⟩) 2:=by
  refine(runs_ev mixed [some (.bool false)] (tg_X_0 l m n cp i k S Q t j) ⟨trivial,⟨trivial,h0⟩⟩).mono ?_
  rintro e s ⟨rfl,rfl⟩
  exact⟨rfl,_,_,rfl⟩
def tg_Y_h (i:Nat):Hn:=if i=14 then⟨8,[],[],[],[]⟩ else⟨0,[],[],[],[]⟩
def tg_Y_a (l:List Tm) (m:LL) (n cp:Nat) (i:Nat) (S:P4) (j:Nat→Value):List Value:= [.slice (some ⟨0,0,none⟩) n cp,.slice (some ⟨1,0,none⟩) n n,j 2,j 3,.pointer (some ⟨2,0,none⟩),.pointer (some ⟨3,0,none⟩),.int .i64 (i:Int),j 7,j 8,j 9,j 10,.int .i64 (i:Int),j 12,j 13,j 14,j 15,j 16,j 17,j 18,j 19,j 20,j 21,j 22,j 23,j 24,j 25,j 26,j 27,j 28,j 29,j 30,j 31,j 32,j 33,j 34,j 35,j 36,j 37,j 38,j 39,j 40,j 41,j 42,j 43,j 44]
def tg_Y_b (l:List Tm) (m:LL) (n cp:Nat) (i:Nat) (S:P4) (j:Nat→Value):List Value:= [.slice (some ⟨0,0,none⟩) n cp,.slice (some ⟨1,0,none⟩) n n,j 2,j 3,.pointer (some ⟨2,0,none⟩),.pointer (some ⟨3,0,none⟩),.int .i64 (i:Int),j 7,j 8,j 9,j 10,.int .i64 ((i+1:Nat):Int),j 12,j 13,j 14,j 15,j 16,j 17,j 18,j 19,j 20,j 21,j 22,j 23,j 24,j 25,j 26,j 27,j 28,j 29,j 30,j 31,j 32,j 33,j 34,j 35,j 36,j 37,j 38,j 39,j 40,j 41,j 42,.int .i64 ((i+1:Nat):Int),j 44]
theorem tg_Y_0 (l:List Tm) (m:LL) (n cp:Nat) (i:Nat) (S:P4) (j:Nat→Value):evC (yty.enf tab24 2) tg_Y_h (cAt [1,1,0,1,0,0,1,1,1] (bdy Tryz.f44)) ⟨tg_Y_a l m n cp i S j,[((tlC l),41),((mlC m),64),((ptC (⟨0,0,0,0⟩:P4)),60),((ptC S),60)],True,[some (.int .i64 ((i+1:Nat):Int))]⟩=some (.normal,⟨tg_Y_b l m n cp i S j,[((tlC l),41),((mlC m),64),((ptC (⟨0,0,0,0⟩:P4)),60),((ptC S),60)],((True∧(True∧(IntKind.i64.wrap ((i:Int)+1))=((i+1:Nat):Int)))∧True),[]⟩):=by kernel_rfl
theorem tg_Y_r (l:List Tm) (m:LL) (n cp:Nat) (i:Nat) (S:P4) (j:Nat→Value) (hS:Ok4 S) (hi:i<64)  {c0:Prop} {ch0:List (Option Value)}:Runs Tryz.prog (cAt [1,1,0,1,0,0,1,1,1] (bdy Tryz.f44)) ⟨tg_Y_a l m n cp i S j,[((tlC l),41),((mlC m),64),((ptC (⟨0,0,0,0⟩:P4)),60),((ptC S),60)],c0,ch0⟩ (fun e s=>e= .normal∧∃ c ch,s=⟨tg_Y_b l m n cp i S j,[((tlC l),41),((mlC m),64),((ptC (⟨0,0,0,0⟩:P4)),60),((ptC S),60)],c,ch⟩) 2:=by
  refine(runs_ev mixed [some (.int .i64 ((i+1:Nat):Int))] (tg_Y_0 l m n cp i S j) ⟨⟨trivial,⟨trivial,tg_add64 hi⟩⟩,trivial⟩).mono ?_
  rintro e s ⟨rfl,rfl⟩
  exact⟨rfl,_,_,rfl⟩
def tg_Z_h (i:Nat):Hn:=if i=14 then⟨8,[],[],[],[]⟩ else⟨0,[],[],[],[]⟩
def tg_Z_a (l:List Tm) (m:LL) (n cp:Nat) (i:Nat) (S:P4) (j:Nat→Value):List Value:= [.slice (some ⟨0,0,none⟩) n cp,.slice (some ⟨1,0,none⟩) n n,j 2,j 3,.pointer (some ⟨2,0,none⟩),.pointer (some ⟨3,0,none⟩),j 6,j 7,j 8,j 9,j 10,.int .i64 (i:Int),j 12,j 13,j 14,j 15,j 16,j 17,j 18,j 19,j 20,j 21,j 22,j 23,j 24,j 25,j 26,j 27,j 28,j 29,j 30,j 31,j 32,j 33,j 34,j 35,j 36,j 37,j 38,j 39,j 40,j 41,j 42,j 43,j 44]
def tg_Z_b (l:List Tm) (m:LL) (n cp:Nat) (i:Nat) (S:P4) (j:Nat→Value):List Value:= [.slice (some ⟨0,0,none⟩) n cp,.slice (some ⟨1,0,none⟩) n n,j 2,j 3,.pointer (some ⟨2,0,none⟩),.pointer (some ⟨3,0,none⟩),j 6,j 7,j 8,j 9,j 10,.int .i64 (i:Int),j 12,j 13,j 14,j 15,j 16,j 17,j 18,j 19,j 20,j 21,j 22,j 23,j 24,j 25,j 26,j 27,j 28,j 29,j 30,j 31,j 32,j 33,j 34,j 35,j 36,j 37,j 38,j 39,j 40,j 41,j 42,j 43,.agg (ptC S)]
theorem tg_Z_0 (l:List Tm) (m:LL) (n cp:Nat) (i:Nat) (S:P4) (j:Nat→Value):evC (yty.enf tab24 2) tg_Z_h (cAt [1,1,1] (bdy Tryz.f44)) ⟨tg_Z_a l m n cp i S j,[((tlC l),41),((mlC m),64),((ptC (⟨0,0,0,0⟩:P4)),60),((ptC S),60)],True,[]⟩=some (.ret,⟨tg_Z_b l m n cp i S j,[((tlC l),41),((mlC m),64),((ptC S),60),((ptC S),60)],((True∧True)∧((ptC S).all (fun v=>v.oneCell')=true)),[]⟩):=by kernel_rfl
theorem tg_Z_r (l:List Tm) (m:LL) (n cp:Nat) (i:Nat) (S:P4) (j:Nat→Value) (hS:Ok4 S)  {c0:Prop} {ch0:List (Option Value)}:Runs Tryz.prog (cAt [1,1,1] (bdy Tryz.f44)) ⟨tg_Z_a l m n cp i S j,[((tlC l),41),((mlC m),64),((ptC (⟨0,0,0,0⟩:P4)),60),((ptC S),60)],c0,ch0⟩ (fun e s=>e= .ret∧∃ c ch,s=⟨tg_Z_b l m n cp i S j,[((tlC l),41),((mlC m),64),((ptC S),60),((ptC S),60)],c,ch⟩) 2:=by
  refine(runs_ev mixed [] (tg_Z_0 l m n cp i S j) ⟨⟨trivial,trivial⟩,ptC_one _⟩).mono ?_
  rintro e s ⟨rfl,rfl⟩
  exact⟨rfl,_,_,rfl⟩
end Go.Proofs.YtdebkddhpogkgaaGreat

set_option linter.unusedSimpArgs false
set_option linter.unusedVariables false
/-! together: the loops. -/
namespace Go.Proofs.YtdebkddhpogkgaaGreat
open Go.RowKit Go.Ev
def tgO (n cp i:Nat) (j:Nat→Value):List Value:= [.slice (some ⟨0,0,none⟩) n cp,.slice (some ⟨1,0,none⟩) n n,j 2,j 3,.pointer (some ⟨2,0,none⟩),.pointer (some ⟨3,0,none⟩),j 6,j 7,j 8,j 9,j 10,.int .i64 (i:Int),j 12,j 13,j 14,j 15,j 16,j 17,j 18,j 19,j 20,j 21,j 22,j 23,j 24,j 25,j 26,j 27,j 28,j 29,j 30,j 31,j 32,j 33,j 34,j 35,j 36,j 37,j 38,j 39,j 40,j 41,j 42,j 43,j 44]
def tgE (n cp i:Nat) (j:Nat→Value):List Value:= [.slice (some ⟨0,0,none⟩) n cp,.slice (some ⟨1,0,none⟩) n n,j 2,j 3,.pointer (some ⟨2,0,none⟩),.pointer (some ⟨3,0,none⟩),j 6,j 7,j 8,j 9,j 10,.int .i64 (i:Int),.bool true,j 13,j 14,j 15,j 16,j 17,j 18,j 19,j 20,j 21,j 22,j 23,j 24,j 25,j 26,j 27,j 28,j 29,j 30,j 31,j 32,j 33,j 34,j 35,j 36,j 37,j 38,j 39,j 40,j 41,j 42,j 43,j 44]
def tgX (n cp i:Nat) (j:Nat→Value):List Value:= [.slice (some ⟨0,0,none⟩) n cp,.slice (some ⟨1,0,none⟩) n n,j 2,j 3,.pointer (some ⟨2,0,none⟩),.pointer (some ⟨3,0,none⟩),j 6,j 7,j 8,j 9,j 10,.int .i64 (i:Int),.bool false,j 13,j 14,j 15,j 16,j 17,j 18,j 19,j 20,j 21,j 22,j 23,j 24,j 25,j 26,j 27,j 28,j 29,j 30,j 31,j 32,j 33,j 34,j 35,j 36,j 37,j 38,j 39,j 40,j 41,j 42,j 43,j 44]
def tg3 (n cp i:Nat) (j:Nat→Value):List Value:= [.slice (some ⟨0,0,none⟩) n cp,.slice (some ⟨1,0,none⟩) n n,j 2,j 3,.pointer (some ⟨2,0,none⟩),.pointer (some ⟨3,0,none⟩),.int .i64 (i:Int),j 7,j 8,j 9,j 10,.int .i64 (i:Int),j 12,j 13,j 14,j 15,j 16,j 17,j 18,j 19,j 20,j 21,j 22,j 23,j 24,j 25,j 26,j 27,j 28,j 29,j 30,j 31,j 32,j 33,j 34,j 35,j 36,j 37,j 38,j 39,j 40,j 41,j 42,j 43,j 44]
def tgI (n cp i k:Nat) (j:Nat→Value):List Value:= [.slice (some ⟨0,0,none⟩) n cp,.slice (some ⟨1,0,none⟩) n n,j 2,j 3,.pointer (some ⟨2,0,none⟩),.pointer (some ⟨3,0,none⟩),.int .i64 (i:Int),j 7,j 8,j 9,j 10,.int .i64 (i:Int),j 12,j 13,j 14,j 15,j 16,j 17,j 18,j 19,.slice (some ⟨0,0,none⟩) n cp,.int .i64 ((n:Nat):Int),.int .i64 (k:Int),j 23,j 24,j 25,j 26,j 27,j 28,j 29,j 30,j 31,j 32,j 33,j 34,j 35,j 36,j 37,j 38,j 39,j 40,j 41,j 42,j 43,j 44]
def tgM (l:List Tm) (m:LL) (S:P4):List (Array Value×TypeId):= [((tlC l),41),((mlC m),64),((ptC (⟨0,0,0,0⟩:P4)),60),((ptC S),60)]
theorem tgd (l:List Tm) (m:LL) (n cp i:Nat) (S:P4) (hS:Ok4 S) (hi:i<64) (j:Nat→Value) {c0:Prop} {ch0:List (Option Value)}:Runs Tryz.prog (cAt [1,1,0,1,0,0,0] (bdy Tryz.f44)) ⟨tgO n cp i j,tgM l m S,c0,ch0⟩ (fun e s=>e= .normal∧∃ j c ch,s=⟨tgE n cp i j,tgM l m S,c,ch⟩) 2:=by
  refine(tg_D_r l m n cp i S j hS (decide_eq_true (by omega))).mono ?_
  rintro e s ⟨rfl,c,ch,hs⟩
  refine⟨rfl,fun q=>s.tm.getD q undef,c,ch,?_⟩
  subst hs
  rfl
theorem tgde (l:List Tm) (m:LL) (n cp i:Nat) (S:P4) (hS:Ok4 S) (hi:¬ i<64) (j:Nat→Value) {c0:Prop} {ch0:List (Option Value)}:Runs Tryz.prog (cAt [1,1,0,1,0,0,0] (bdy Tryz.f44)) ⟨tgO n cp i j,tgM l m S,c0,ch0⟩ (fun e s=>e= .normal∧∃ j c ch,s=⟨tgX n cp i j,tgM l m S,c,ch⟩) 2:=by
  refine(tg_De_r l m n cp i S j hS (decide_eq_false (by omega))).mono ?_
  rintro e s ⟨rfl,c,ch,hs⟩
  refine⟨rfl,fun q=>s.tm.getD q undef,c,ch,?_⟩
  subst hs
  rfl
theorem tge (l:List Tm) (m:LL) (n cp i:Nat) (S:P4) (hS:Ok4 S)  (j:Nat→Value) {c0:Prop} {ch0:List (Option Value)}:Runs Tryz.prog (cAt [1,1,0,1,0,0,1,0] (bdy Tryz.f44)) ⟨tgE n cp i j,tgM l m S,c0,ch0⟩ (fun e s=>e= .normal∧∃ j c ch,s=⟨tgO n cp i j,tgM l m S,c,ch⟩) 2:=by
  refine(tg_E_r l m n cp i S j hS ).mono ?_
  rintro e s ⟨rfl,c,ch,hs⟩
  refine⟨rfl,fun q=>s.tm.getD q undef,c,ch,?_⟩
  subst hs
  rfl
theorem tgee (l:List Tm) (m:LL) (n cp i:Nat) (S:P4) (hS:Ok4 S)  (j:Nat→Value) {c0:Prop} {ch0:List (Option Value)}:Runs Tryz.prog (cAt [1,1,0,1,0,0,1,0] (bdy Tryz.f44)) ⟨tgX n cp i j,tgM l m S,c0,ch0⟩ (fun e s=>e= .exit 0∧∃ j c ch,s=⟨tgO n cp i j,tgM l m S,c,ch⟩) 2:=by
  refine(tg_Ee_r l m n cp i S j hS ).mono ?_
  rintro e s ⟨rfl,c,ch,hs⟩
  refine⟨rfl,fun q=>s.tm.getD q undef,c,ch,?_⟩
  subst hs
  rfl
theorem tgf (l:List Tm) (m:LL) (n cp i:Nat) (S:P4) (hS:Ok4 S)  (j:Nat→Value) {c0:Prop} {ch0:List (Option Value)}:Runs Tryz.prog (cAt [1,1,0,1,0,0,1,1,0,0,0] (bdy Tryz.f44)) ⟨tgO n cp i j,tgM l m S,c0,ch0⟩ (fun e s=>e= .normal∧∃ j c ch,s=⟨tg3 n cp i j,tgM l m S,c,ch⟩) 2:=by
  refine(tg_F_r l m n cp i S j hS ).mono ?_
  rintro e s ⟨rfl,c,ch,hs⟩
  refine⟨rfl,fun q=>s.tm.getD q undef,c,ch,?_⟩
  subst hs
  rfl
def dbl4 (S:P4):P4:=addP (addP (addP (addP S S) (addP S S)) (addP (addP S S) (addP S S))) (addP (addP (addP S S) (addP S S)) (addP (addP S S) (addP S S)))
theorem ok4_dbl4 (S:P4):Ok4 (dbl4 S):=ok4_add _ _
theorem tgg (l:List Tm) (m:LL) (n cp i:Nat) (S:P4) (hS:Ok4 S)  (j:Nat→Value) {c0:Prop} {ch0:List (Option Value)}:Runs Tryz.prog (cAt [1,1,0,1,0,0,1,1,0,0,1,0] (bdy Tryz.f44)) ⟨tg3 n cp i j,tgM l m S,c0,ch0⟩ (fun e s=>e= .normal∧∃ j c ch,s=⟨tg3 n cp i j,tgM l m (dbl4 S),c,ch⟩) 2:=by
  refine(tg_G_r l m n cp i S j hS ).mono ?_
  rintro e s ⟨rfl,c,ch,hs⟩
  refine⟨rfl,fun q=>s.tm.getD q undef,c,ch,?_⟩
  subst hs
  have e1:addP (dp (ptC (addP (dp (ptC (addP (dp (ptC (addP (dp (ptC S)) (dp (ptC S))))) (dp (ptC (addP (dp (ptC S)) (dp (ptC S)))))))) (dp (ptC (addP (dp (ptC (addP (dp (ptC S)) (dp (ptC S))))) (dp (ptC (addP (dp (ptC S)) (dp (ptC S))))))))))) (dp (ptC (addP (dp (ptC (addP (dp (ptC (addP (dp (ptC S)) (dp (ptC S))))) (dp (ptC (addP (dp (ptC S)) (dp (ptC S)))))))) (dp (ptC (addP (dp (ptC (addP (dp (ptC S)) (dp (ptC S))))) (dp (ptC (addP (dp (ptC S)) (dp (ptC S)))))))))))=dbl4 S:=by simp only[dp_add,dp_ptC _ hS];rfl
  rw[e1]
  rfl
theorem tgh (l:List Tm) (m:LL) (n cp i:Nat) (S:P4) (hS:Ok4 S)  (j:Nat→Value) {c0:Prop} {ch0:List (Option Value)}:Runs Tryz.prog (cAt [1,1,0,1,0,0,1,1,0,0,1,1,0] (bdy Tryz.f44)) ⟨tg3 n cp i j,tgM l m S,c0,ch0⟩ (fun e s=>e= .normal∧∃ j c ch,s=⟨tgI n cp i 0 j,tgM l m S,c,ch⟩) 2:=by
  refine(tg_H_r l m n cp i S j hS ).mono ?_
  rintro e s ⟨rfl,c,ch,hs⟩
  refine⟨rfl,fun q=>s.tm.getD q undef,c,ch,?_⟩
  subst hs
  rfl
theorem tgy (l:List Tm) (m:LL) (n cp i:Nat) (S:P4) (hS:Ok4 S) (hi:i<64) (j:Nat→Value) {c0:Prop} {ch0:List (Option Value)}:Runs Tryz.prog (cAt [1,1,0,1,0,0,1,1,1] (bdy Tryz.f44)) ⟨tg3 n cp i j,tgM l m S,c0,ch0⟩ (fun e s=>e= .normal∧∃ j c ch,s=⟨tgO n cp (i+1) j,tgM l m S,c,ch⟩) 2:=by
  refine(tg_Y_r l m n cp i S j hS hi).mono ?_
  rintro e s ⟨rfl,c,ch,hs⟩
  refine⟨rfl,fun q=>s.tm.getD q undef,c,ch,?_⟩
  subst hs
  rfl
def tnth (l:List Tm) (k:Nat):Tm:=l.getD k ⟨0,0⟩
def pnth (m:LL) (k d:Nat):P4:=(m.getD k []).getD d ⟨0,0,0,0⟩
def stepJ (l:List Tm) (m:LL) (a:Nat) (S:P4):Nat→P4
  |0=>S
  |k+1=>cond (decide (dgN (tnth l k).K a=0)) (stepJ l m a S k) (addP (stepJ l m a S k) (pnth m k (dgN (tnth l k).K a)))
theorem ok_stepJ {l:List Tm} {m:LL} {a:Nat} {S:P4} (hS:Ok4 S):∀ k,Ok4 (stepJ l m a S k)
  |0=>hS
  | k + 1 => by
    unfold stepJ
    cases decide (dgN (tnth l k).K a=0) with
    |true=>exact ok_stepJ hS k
    |false=>exact ok4_add _ _
def togS (l:List Tm) (m:LL):Nat→P4
  |0=>ofP 0 1
  |i+1=>stepJ l m (63 - i) (dbl4 (togS l m i)) l.length
theorem ok_togS (l:List Tm) (m:LL):∀ i,Ok4 (togS l m i)
  |0=>ok4_id
  |i+1=>ok_stepJ (ok4_dbl4 _) _
theorem tnth_at {l:List Tm} {k:Nat} (h:k<l.length):l[k]? =some (tnth l k):=by
  unfold tnth
  rw[List.getD_eq_getElem?_getD,List.getElem?_eq_getElem h];rfl
def RowsOk (m:LL):Prop:=∀ r ∈ m,r.length=16∧∀ p ∈ r,Ok4 p
theorem pnth_at {m:LL} (hm:RowsOk m) {k d:Nat} (h:k<m.length) (hd:d<16):∃ r,m[k]? =some r∧r[d]? =some (pnth m k d)∧Ok4 (pnth m k d):=by
  have hr:m[k]? =some m[k]:=List.getElem?_eq_getElem h
  obtain⟨h1,h2⟩:=hm m[k] (List.getElem_mem h)
  have hd':d<m[k].length:=by omega
  have e:pnth m k d=m[k][d]:=by
    have e0:m.getD k []=m[k]:=by rw[List.getD_eq_getElem?_getD,hr];rfl
    unfold pnth
    rw[e0,List.getD_eq_getElem?_getD,List.getElem?_eq_getElem hd'];rfl
  rw[e]
  exact⟨_,hr,List.getElem?_eq_getElem hd',h2 _ (List.getElem_mem hd')⟩
theorem dg_lt (K:Int) (k:Nat):dgN K k<16:=Nat.mod_lt _ (by omega)
theorem tgi_loop (l : List Tm) (m : LL) (n cp i : Nat) (S : P4) (hS : Ok4 S) (hl : l.length = n) (hn : n ≤ 64) (hi : i < 64) (ho : ∀ t ∈ l, OkT t) (hm : m.length = n) (hr : RowsOk m) (j0 : Nat → Value) {c0 : Prop} {ch0 : List (Option Value)} : Runs Tryz.prog (.loop (cAt [1, 1, 0, 1, 0, 0, 1, 1, 0, 0, 1, 1, 1, 0, 0] (bdy Tryz.f44))) ⟨tgI n cp i 0 j0, tgM l m S, c0, ch0⟩ (fun e s => e = .exit 4 ∧ ∃ k j c ch, s = ⟨tgI n cp i k j, tgM l m (stepJ l m (63 - i) S n), c, ch⟩) 2 := by
  refine runs_loop (fun M s=>∃ k j c ch,k≤n∧M=n - k∧s=⟨tgI n cp i k j,tgM l m (stepJ l m (63 - i) S k),c,ch⟩) n ⟨0,j0,c0,ch0,by omega,by omega,rfl⟩ ?_
  rintro M s ⟨k,j,c,ch,hk,rfl,rfl⟩
  have hs:=ok_stepJ (l:=l) (m:=m) (a:=63 - i) hS k
  by_cases h:k<n
  · have ht := tnth_at (l := l) (k := k) (by omega)
    have hto:=ho _ (List.mem_of_getElem? ht)
    have hD:dgN (db (byC (tnth l k).K)) (Int.toNat ((63 - i:Nat):Int))=dgN (tnth l k).K (63 - i):=by rw[db_byC _ hto.1,Int.toNat_natCast]
    obtain⟨r,hr1,hr2,hr3⟩:=pnth_at hr (k:=k) (d:=dgN (tnth l k).K (63 - i)) (by omega) (dg_lt _ _)
    cases hd:decide (dgN (tnth l k).K (63 - i)=0) with
    | true =>
      have hz:=of_decide_eq_true hd
      refine Runs.drop (tg_U_r l m n cp i k (stepJ l m (63 - i) S k) (ofP 0 1) (tnth l k) j hs ok4_id hto hi h (tl_at ht) hn (decide_eq_true (by omega)) (by rw[hD,hz];rfl)) ?_
      rintro e s ⟨rfl,c,ch,hs'⟩
      refine⟨tgM l m (stepJ l m (63 - i) S k),[(teC (tnth l k),41)],by subst hs';rfl,fun M=> .inl ⟨rfl,n - (k+1),by omega,k+1,fun q=>(s.tm.map (dn 4 M)).getD q undef,s.c,s.ch,by omega,rfl,?_⟩⟩
      have e1:stepJ l m (63 - i) S (k+1)=stepJ l m (63 - i) S k:=by
        show cond (decide (dgN (tnth l k).K (63 - i)=0)) _ _=_
        rw[hd];rfl
      rw[e1]
      subst hs'
      rfl
    | false =>
      have hz:=of_decide_eq_false hd
      refine Runs.drop (tg_T_r l m n cp i k (stepJ l m (63 - i) S k) (pnth m k (dgN (tnth l k).K (63 - i))) (tnth l k) j hs hr3 hto hi h (tl_at ht) hn (by rw[hD];exact ml_at (fun r h=>(hr r h).1) hr1 hr2) (decide_eq_true (by omega)) (by rw[hD,decide_eq_false (by omega)];rfl)) ?_
      rintro e s ⟨rfl,c,ch,hs'⟩
      have e1:stepJ l m (63 - i) S (k+1)=addP (stepJ l m (63 - i) S k) (pnth m k (dgN (tnth l k).K (63 - i))):=by
        show cond (decide (dgN (tnth l k).K (63 - i)=0)) _ _=_
        rw[hd];rfl
      refine⟨tgM l m (stepJ l m (63 - i) S (k+1)),[(teC (tnth l k),41)],?_,fun M=> .inl ⟨rfl,n - (k+1),by omega,k+1,fun q=>(s.tm.map (dn 4 M)).getD q undef,s.c,s.ch,by omega,rfl,?_⟩⟩
      · rw [e1]
        subst hs'
        rw[dp_ptC _ hs,dp_ptC _ hr3]
        rfl
      · subst hs'
        rfl
  · have : k = n := by omega
    subst this
    refine(tg_X_r l m k cp i k (stepJ l m (63 - i) S k) (ofP 0 1) ⟨0,0⟩ j hs (decide_eq_false (by omega))).mono ?_
    rintro e s ⟨rfl,c,ch,hs'⟩
    refine .inr ⟨by simp,rfl,k,fun q=>s.tm.getD q undef,c,ch,?_⟩
    subst hs'
    rfl
theorem tg_shape:bdy Tryz.f44= .seq (cAt [0] (bdy Tryz.f44)) (.seq (cAt [1,0] (bdy Tryz.f44)) (.seq (.seq (cAt [1,1,0,0] (bdy Tryz.f44)) (.block 0 (.loop (cAt [1,1,0,1,0,0] (bdy Tryz.f44))))) (cAt [1,1,1] (bdy Tryz.f44)))):=by kernel_rfl
theorem tg_shape2:cAt [1,1,0,1,0,0] (bdy Tryz.f44)= .seq (cAt [1,1,0,1,0,0,0] (bdy Tryz.f44)) (.seq (cAt [1,1,0,1,0,0,1,0] (bdy Tryz.f44)) (.seq (.block 1 (.seq (cAt [1,1,0,1,0,0,1,1,0,0,0] (bdy Tryz.f44)) (.seq (cAt [1,1,0,1,0,0,1,1,0,0,1,0] (bdy Tryz.f44)) (.seq (cAt [1,1,0,1,0,0,1,1,0,0,1,1,0] (bdy Tryz.f44)) (.block 4 (.loop (cAt [1,1,0,1,0,0,1,1,0,0,1,1,1,0,0] (bdy Tryz.f44)))))))) (cAt [1,1,0,1,0,0,1,1,1] (bdy Tryz.f44)))):=by kernel_rfl
theorem tgo_loop (l:List Tm) (m:LL) (n cp:Nat) (hl:l.length=n) (hn:n≤64) (ho:∀ t ∈ l,OkT t) (hm:m.length=n) (hr:RowsOk m) (j0:Nat→Value) {c0:Prop} {ch0:List (Option Value)}:Runs Tryz.prog (.loop (cAt [1,1,0,1,0,0] (bdy Tryz.f44))) ⟨tgO n cp 0 j0,tgM l m (togS l m 0),c0,ch0⟩ (fun e s=>e= .exit 0∧∃ i j c ch,s=⟨tgO n cp i j,tgM l m (togS l m 64),c,ch⟩) 2:=by
  refine runs_loop (fun M s=>∃ i j c ch,i≤64∧M=64 - i∧s=⟨tgO n cp i j,tgM l m (togS l m i),c,ch⟩) 64 ⟨0,j0,c0,ch0,by omega,by omega,rfl⟩ ?_
  rintro M s ⟨i,j,c,ch,hi,rfl,rfl⟩
  have hS:=ok_togS l m i
  rw[tg_shape2]
  by_cases h:i<64
  · refine runs_seq (tgd l m n cp i _ hS h j) (fun s q => ?_) (fun e s hne q => absurd q.1 hne)
    obtain⟨_,j,c,ch,rfl⟩:=q
    refine runs_seq (tge l m n cp i _ hS j) (fun s q=> ?_) (fun e s hne q=>absurd q.1 hne)
    obtain⟨_,j,c,ch,rfl⟩:=q
    refine runs_seq (K1:=fun e s=>e= .normal∧∃ j c ch,s=⟨tg3 n cp i j,tgM l m (togS l m (i+1)),c,ch⟩) ?_ (fun s q=> ?_) (fun e s hne q=>absurd q.1 hne)
    · refine runs_block (K1 := fun e s => e = .normal ∧ ∃ j c ch, s = ⟨tg3 n cp i j, tgM l m (togS l m (i + 1)), c, ch⟩) ?_ (fun e s q => .inr (.inl ⟨q.1, rfl, q.2⟩))
      refine runs_seq (tgf l m n cp i _ hS j) (fun s q=> ?_) (fun e s hne q=>absurd q.1 hne)
      obtain⟨_,j,c,ch,rfl⟩:=q
      refine runs_seq (tgg l m n cp i _ hS j) (fun s q=> ?_) (fun e s hne q=>absurd q.1 hne)
      obtain⟨_,j,c,ch,rfl⟩:=q
      refine runs_seq (tgh l m n cp i _ (ok4_dbl4 _) j) (fun s q=> ?_) (fun e s hne q=>absurd q.1 hne)
      obtain⟨_,j,c,ch,rfl⟩:=q
      refine runs_block (tgi_loop l m n cp i _ (ok4_dbl4 _) hl hn h ho hm hr j) ?_
      rintro e s ⟨rfl,k,j,c,ch,rfl⟩
      refine .inl ⟨rfl,rfl,fun q=>(tgI n cp i k j).getD q undef,c,ch,?_⟩
      rw[show togS l m (i+1)=stepJ l m (63 - i) (dbl4 (togS l m i)) n by rw[← hl];rfl]
      rfl
    · obtain ⟨_, j, c, ch, rfl⟩ := q
      refine(tgy l m n cp i _ (ok_togS l m (i+1)) h j).mono ?_
      rintro e s ⟨rfl,j,c,ch,rfl⟩
      exact .inl ⟨rfl,64 - (i+1),by omega,i+1,j,c,ch,by omega,rfl,rfl⟩
  · have : i = 64 := by omega
    subst this
    refine runs_seq (tgde l m n cp 64 _ hS h j) (fun s q=> ?_) (fun e s hne q=>absurd q.1 hne)
    obtain⟨_,j,c,ch,rfl⟩:=q
    refine runs_seq (tgee l m n cp 64 _ hS j) (fun s q=>by cases q.1) (fun e s hne q=> ?_)
    obtain⟨rfl,j,c,ch,rfl⟩:=q
    exact .inr ⟨by simp,rfl,64,j,c,ch,rfl⟩
theorem Together_c (l:List Tm) (m:LL) (cp:Nat) (hn:l.length≤64) (ho:∀ t ∈ l,OkT t) (hm:m.length=l.length) (hr:RowsOk m):Reads Tryz.prog 44 [(tlC l,41),(mlC m,64)] [.slice (some ⟨0,0,none⟩) l.length cp,.slice (some ⟨1,0,none⟩) l.length l.length] (.agg (ptC (togS l m 64))):=by
  refine reads_runs (fk:=2) (yty.enf tab24 2) Tryz.func44 (c:=bdy Tryz.f44) (by kernel_rfl) ⟨rfl,by decide⟩ rfl (K:=fun e s=>e= .ret∧resS (yty.enf tab24 2) s Tryz.f44.results.toList=some [.agg (ptC (togS l m 64))]) ?_ (fun e s h=>⟨h.1,_,h.2,rfl⟩)
  rw[tg_shape]
  refine runs_seq (tg_A_r l m l.length cp) (fun s h=> ?_) (fun e s hne h=>absurd h.1 hne)
  obtain⟨_,c,ch,rfl⟩:=h
  refine runs_seq (tg_B_r l m l.length cp) (fun s h=> ?_) (fun e s hne h=>absurd h.1 hne)
  obtain⟨_,c,ch,rfl⟩:=h
  refine runs_seq (K1:=fun e s=>e= .normal∧∃ i j c ch,s=⟨tgO l.length cp i j,tgM l m (togS l m 64),c,ch⟩) ?_ (fun s h=> ?_) (fun e s hne h=>absurd h.1 hne)
  · refine runs_seq (tg_C_r l m l.length cp) (fun s h => ?_) (fun e s hne h => absurd h.1 hne)
    obtain⟨_,c,ch,hs⟩:=h
    have hs':s=⟨tgO l.length cp 0 (fun q=>s.tm.getD q undef),tgM l m (togS l m 0),c,ch⟩:=by subst hs;rfl
    rw[hs']
    refine runs_block (tgo_loop l m l.length cp rfl hn ho hm hr _) ?_
    rintro e s ⟨rfl,i,j,c,ch,rfl⟩
    exact .inl ⟨rfl,rfl,i,j,c,ch,rfl⟩
  · obtain ⟨_, i, j, c, ch, rfl⟩ := h
    refine(tg_Z_r l m l.length cp i (togS l m 64) j (ok_togS l m 64)).mono ?_
    rintro e s ⟨rfl,c,ch,rfl⟩
    exact⟨rfl,by kernel_rfl⟩
end Go.Proofs.YtdebkddhpogkgaaGreat

set_option linter.unusedSimpArgs false
set_option linter.unusedVariables false
/-! What Sum calls. -/
namespace Go.Proofs.YtdebkddhpogkgaaGreat
open Go.RowKit Go.Ev
theorem by_arr (n:Int):byC n=Go.Arr.arr .u8 32 (Go.Arr.dig 256 n):=by kernel_rfl
theorem May_p (A:Int) (hA:Ok A):Pure Tryz.prog 38 #[.agg (byC A)] (.bool (decide (A<el))):=fun w=>by
  rw[by_arr];exact May_c A hA w
theorem RMay_p (A:Int) (hA:Ok A):Pure Tryz.prog 21 #[.agg (byC A)] (.bool (decide (A<el))):=fun w=>by
  rw[by_arr];exact RMay_c A hA w
def pMay:Entry Tryz.prog:=ent1 Tryz.func38 (by kernel_rfl) (by kernel_rfl) byD (fun A:Int=> .bool (decide (A<el))) May_p
def qMay:Entry Tryz.prog:=ent1 Tryz.func21 (by kernel_rfl) (by kernel_rfl) byD (fun A:Int=> .bool (decide (A<el))) RMay_p
def pSOf:Entry Tryz.prog:=entN Tryz.func27 (by kernel_rfl) (by kernel_rfl) (fun n=> .agg (byC n)) w64 (k:= .u64) (fun n h w=>by rw[by_arr];exact SOf_c n h.1 h.2 w)
def tab25:List (Entry Tryz.prog):=pMay :: qMay :: pSOf :: tab24
def isS_h (i:Nat):Hn:=⟨0,[],[],[],[]⟩
theorem isS_0 (K:Int):evF (yty.en tab25) isS_h Tryz.f19 [.agg (byC K)] []=some (.bool (decide (db (byC K)<el)),((((True∧True)∧True)∧byD.is (byC K))∧True)):=by kernel_rfl
def isS_F (K:Int):Value:= .bool (decide (db (byC K)<el))
set_option maxHeartbeats 4000000 in
theorem isS_p (K:Int) (hK:Ok K):Pure Tryz.prog 19 #[.agg (byC K)] (isS_F K):=by
  unfold isS_F
  exact pure_of mixed Tryz.func19 _ (isS_0 K) rfl ⟨⟨⟨⟨trivial,trivial⟩,trivial⟩,(byD.is_enc (hK))⟩,trivial⟩
def isS_S (K:Int):Value:= .bool (decide (K<el))
theorem isS_e (K:Int) (hK:Ok K):isS_F K=isS_S K:=by
  unfold isS_F isS_S
  try simp only[nm_mod,nn_mod,nm_inv,nn_inv,nm_d,nn_d,nm_1,nn_1,nm_root,nn_quo,db_byC _ hK]
theorem IsScalar_c (K:Int) (hK:Ok K):Pure Tryz.prog 19 #[.agg (byC K)] (.bool (decide (K<el))):=by
  have h:=isS_p K hK
  rwa[isS_e K hK] at h
def pIsS:Entry Tryz.prog:=ent1 Tryz.func19 (by kernel_rfl) (by kernel_rfl) byD (fun A:Int=> .bool (decide (A<el))) IsScalar_c
def mP (p:P4):Nat→P4
  |0=>ofP 0 1
  |i+1=>addP (mP p i) p
def muR (p:P4):List P4:=(List.range 16).map (mP p)
theorem Mults_c (p:P4) (hp:Ok4 p):Pure Tryz.prog 42 #[.agg (ptC p)] (.agg (muC (muR p))):=by
  have h:=muo_p p hp
  rw[muo_e p hp] at h
  exact h
theorem len_muR (p:P4):(muR p).length=16:=by simp[muR]
theorem ok_mP (p:P4):∀ i,Ok4 (mP p i)
  |0=>ok4_id
  |i+1=>ok4_add _ _
theorem ok_muR (p:P4):∀ q ∈ muR p,Ok4 q:=fun q hq=>by
  obtain⟨i,_,rfl⟩:=List.mem_map.1 hq
  exact ok_mP p i
def pMults:Entry Tryz.prog:=ent1 Tryz.func42 (by kernel_rfl) (by kernel_rfl) ptD (fun p=> .agg (muC (muR p))) Mults_c
def togOk (l:List Tm) (m:LL) (n:Nat) (a b:Array Value):Prop:=a=tlC l∧b=mlC m∧l.length=n∧n≤64∧(∀ t ∈ l,OkT t)∧m.length=n∧RowsOk m
theorem reads2 {f:FuncId} {cs cs':Array Value} {t t':TypeId} {o l c o' l' c':Nat} {v:Value} (h:Reads Tryz.prog f [(cs,t),(cs',t')] [.slice (some ⟨0,o,none⟩) l c,.slice (some ⟨1,o',none⟩) l' c'] v) {mem:List (Array Value×TypeId)} {i i':Nat} (hm:mem[i]? =some (cs,t)) (hm':mem[i']? =some (cs',t')) {w:World} {β:Nat→Nat} (hw:Has w β mem):Calls Tryz.prog f ([Value.slice (some ⟨i,o,none⟩) l c,Value.slice (some ⟨i',o',none⟩) l' c'].map (rn β)).toArray w (fun e w'=>e= .returned v∧Below w.heap.size w w'):=
  h w (fun k => if k = 0 then β i else β i') (fun j x hx => by
    match j,hx with
    |0,hx=>simp only[List.getElem?_cons_zero,Option.some.injEq] at hx;subst hx;exact hw i _ hm
    |1,hx=>simp only[List.getElem?_cons_succ,List.getElem?_cons_zero,Option.some.injEq] at hx;subst hx;exact hw i' _ hm'
    |j+2,hx=>simp at hx)
def dtl (n:Nat) (cs:Array Value):List Tm:=(List.range n).map fun k=>dte (cs.extract (k*64) (k*64+64))
def dml (n:Nat) (cs:Array Value):LL:=(List.range n).map fun k=>(List.range 16).map fun d=>dp (cs.extract (k*256+d*16) (k*256+d*16+16))
theorem dtl_tl (l:List Tm) (ho:∀ t ∈ l,OkT t):dtl l.length (tlC l)=l:=by
  unfold dtl
  refine List.ext_getElem (by simp) fun i h1 h2=> ?_
  have h:=tnth_at (l:=l) h2
  have:=(tl_at h).1
  rw[Int.toNat_natCast,Nat.zero_add] at this
  simp only[List.getElem_map,List.getElem_range]
  rw[this,dte_teC _ (ho _ (List.mem_of_getElem? h))]
  rw[List.getElem?_eq_getElem h2] at h
  exact(Option.some.inj h).symm
theorem dml_ml (m:LL) (hm:RowsOk m):dml m.length (mlC m)=m:=by
  unfold dml
  refine List.ext_getElem (by simp) fun i h1 h2=> ?_
  have hrow:m[i]? =some m[i]:=List.getElem?_eq_getElem h2
  obtain⟨q1,q2⟩:=hm m[i] (List.getElem_mem h2)
  simp only[List.getElem_map,List.getElem_range]
  refine List.ext_getElem (by simp[q1]) fun d h3 h4=> ?_
  have:=(ml_at (fun r h=>(hm r h).1) hrow (List.getElem?_eq_getElem h4)).1
  rw[Int.toNat_natCast,Int.toNat_natCast,Nat.zero_add] at this
  simp only[List.getElem_map,List.getElem_range]
  rw[this,dp_ptC _ (q2 _ (List.getElem_mem h4))]
def pTog : Entry Tryz.prog where
  f:=44
  g := fun mem xs => match xs with
    | [.slice (some ⟨i, o, none⟩) n c, .slice (some ⟨i', o', none⟩) n' c'] => (match mem[i]?, mem[i']? with
      |some (cs,t),some (cs',t')=>if o=0∧o'=0 then some (.agg (ptC (togS (dtl n cs) (dml n cs') 64)),t=41∧t'=64∧n'=n∧c'=n∧togOk (dtl n cs) (dml n cs') n cs cs') else none
      |_,_=>none)
    |_=>none
  ok := fun mem xs v c e hc w β hw => by
    split at e
    · rename_i i o n c0 i' o' n' c'
      split at e
      · rename_i cs t cs' t' hm hm'
        split at e
        · rename_i h0
          obtain⟨rfl,rfl⟩:=h0
          simp only[Option.some.injEq,Prod.mk.injEq] at e
          obtain⟨rfl,rfl⟩:=e
          obtain⟨rfl,rfl,rfl,rfl,e1,e2,e3,h64,ho,hl,hr⟩:=hc
          have:=Together_c (dtl c' cs) (dml c' cs') c0 (by rw[e3];exact h64) ho (by rw[hl,e3]) hr
          rw[e3,← e1,← e2] at this
          exact reads2 this hm hm' hw
        · cases e
      · cases e
    · cases e
  call:=call_of Tryz.func44 (by kernel_rfl) (by kernel_rfl)
def tab26:List (Entry Tryz.prog):=pTog :: pMults :: pIsS :: tab25
end Go.Proofs.YtdebkddhpogkgaaGreat

set_option linter.unusedSimpArgs false
set_option linter.unusedVariables false
/-! Sum: pieces. -/
namespace Go.Proofs.YtdebkddhpogkgaaGreat
open Go.RowKit Go.Ev
theorem sm_mk {n:Nat} (hn:n≤64):0≤((n:Nat):Int)∧((n:Nat):Int)=((n:Nat):Int)∧2048*(Int.toNat ((n:Nat):Int))≤281474976710656∧(Int.toNat ((n:Nat):Int))≤9223372036854775807:=by omega
theorem spl_pt (z p:P4):0+(ptC p).size≤(ptC z).size∧Calm.splice (ptC z) (0) (ptC p)=(ptC p)∧(ptC p).all (fun v=>v.oneCell')=true:=⟨by rw[ptC_size,ptC_size];omega,by kernel_rfl,ptC_one p⟩
def sm_A_h (i:Nat):Hn:=⟨0,[],[],[],[]⟩
def sm_A_a (l:List Tm) (n cp:Nat):List Value:= [.slice (some ⟨0,0,none⟩) n cp,undef,undef,undef,undef,undef,undef,undef,undef,undef,undef,undef,undef,undef,undef,undef,undef,undef,undef,undef,undef,undef,undef,undef,undef,undef,undef,undef,undef,undef,undef,undef,undef,undef,undef,undef,undef,undef,undef,undef,undef,undef,undef,undef,undef,undef,undef]
def sm_A_b (l:List Tm) (n cp:Nat):List Value:= [.slice (some ⟨0,0,none⟩) n cp,undef,.pointer (some ⟨1,0,none⟩),.int .i64 0,undef,undef,undef,undef,undef,undef,undef,undef,undef,undef,undef,undef,undef,undef,undef,undef,undef,undef,undef,undef,undef,undef,undef,undef,undef,undef,undef,undef,undef,undef,undef,undef,undef,undef,undef,undef,undef,undef,undef,undef,undef,undef,undef]
theorem sm_A_0 (l:List Tm) (n cp:Nat):evC (yty.enf tab26 1) sm_A_h (cAt [0] (bdy Tryz.f28)) ⟨sm_A_a l n cp,[((tlC l),41)],True,[]⟩=some (.normal,⟨sm_A_b l n cp,[((tlC l),41),((byC 0),36)],(True∧True),[]⟩):=by kernel_rfl
theorem sm_A_r (l:List Tm) (n cp:Nat)    {c0:Prop} {ch0:List (Option Value)}:Runs Tryz.prog (cAt [0] (bdy Tryz.f28)) ⟨sm_A_a l n cp,[((tlC l),41)],c0,ch0⟩ (fun e s=>e= .normal∧∃ c ch,s=⟨sm_A_b l n cp,[((tlC l),41),((byC 0),36)],c,ch⟩) 1:=by
  refine(runs_ev mixed [] (sm_A_0 l n cp ) ⟨trivial,trivial⟩).mono ?_
  rintro e s ⟨rfl,rfl⟩
  exact⟨rfl,_,_,rfl⟩
def sm_L_h (i:Nat):Hn:=⟨0,[],[],[],[]⟩
def sm_L_a (l:List Tm) (n cp:Nat):List Value:= [.slice (some ⟨0,0,none⟩) n cp,undef,.pointer (some ⟨1,0,none⟩),.int .i64 0,undef,undef,undef,undef,undef,undef,undef,undef,undef,undef,undef,undef,undef,undef,undef,undef,undef,undef,undef,undef,undef,undef,undef,undef,undef,undef,undef,undef,undef,undef,undef,undef,undef,undef,undef,undef,undef,undef,undef,undef,undef,undef,undef]
def sm_L_b (l:List Tm) (n cp:Nat):List Value:= [.slice (some ⟨0,0,none⟩) n cp,undef,.pointer (some ⟨1,0,none⟩),.int .i64 3,undef,undef,undef,undef,undef,.slice (some ⟨0,0,none⟩) n cp,.int .i64 ((n:Nat):Int),.bool true,.agg (byC 0),undef,undef,undef,undef,undef,undef,undef,undef,undef,undef,undef,undef,undef,undef,undef,undef,undef,undef,undef,undef,undef,undef,undef,undef,undef,undef,undef,undef,undef,undef,undef,undef,undef,undef]
theorem sm_L_0 (l:List Tm) (n cp:Nat):evC (yty.enf tab26 1) sm_L_h (cAt [1,0] (bdy Tryz.f28)) ⟨sm_L_a l n cp,[((tlC l),41),((byC 0),36)],True,[some (.bool true)]⟩=some (.ret,⟨sm_L_b l n cp,[((tlC l),41),((byC 0),36)],((((((True∧True)∧True)∧(True∧(decide (64<((n:Nat):Int)))=true))∧True)∧((byC 0).all (fun v=>v.oneCell')=true))∧True),[]⟩):=by kernel_rfl
theorem sm_L_r (l:List Tm) (n cp:Nat)   (h0:(decide (64<((n:Nat):Int)))=true) {c0:Prop} {ch0:List (Option Value)}:Runs Tryz.prog (cAt [1,0] (bdy Tryz.f28)) ⟨sm_L_a l n cp,[((tlC l),41),((byC 0),36)],c0,ch0⟩ (fun e s=>e= .ret∧∃ c ch,s=⟨sm_L_b l n cp,[((tlC l),41),((byC 0),36)],c,ch⟩) 1:=by
  refine(runs_ev mixed [some (.bool true)] (sm_L_0 l n cp ) ⟨⟨⟨⟨⟨⟨trivial,trivial⟩,trivial⟩,⟨trivial,h0⟩⟩,trivial⟩,byK_one _ _⟩,trivial⟩).mono ?_
  rintro e s ⟨rfl,rfl⟩
  exact⟨rfl,_,_,rfl⟩
def sm_B_h (i:Nat):Hn:=⟨0,[],[],[],[]⟩
def sm_B_a (l:List Tm) (n cp:Nat):List Value:= [.slice (some ⟨0,0,none⟩) n cp,undef,.pointer (some ⟨1,0,none⟩),.int .i64 0,undef,undef,undef,undef,undef,undef,undef,undef,undef,undef,undef,undef,undef,undef,undef,undef,undef,undef,undef,undef,undef,undef,undef,undef,undef,undef,undef,undef,undef,undef,undef,undef,undef,undef,undef,undef,undef,undef,undef,undef,undef,undef,undef]
def sm_B_b (l:List Tm) (n cp:Nat):List Value:= [.slice (some ⟨0,0,none⟩) n cp,undef,.pointer (some ⟨1,0,none⟩),.int .i64 0,undef,undef,undef,undef,undef,.slice (some ⟨0,0,none⟩) n cp,.int .i64 ((n:Nat):Int),.bool false,undef,undef,undef,undef,undef,undef,undef,undef,undef,undef,undef,undef,undef,undef,undef,undef,undef,undef,undef,undef,undef,undef,undef,undef,undef,undef,undef,undef,undef,undef,undef,undef,undef,undef,undef]
theorem sm_B_0 (l:List Tm) (n cp:Nat):evC (yty.enf tab26 1) sm_B_h (cAt [1,0] (bdy Tryz.f28)) ⟨sm_B_a l n cp,[((tlC l),41),((byC 0),36)],True,[some (.bool false)]⟩=some (.normal,⟨sm_B_b l n cp,[((tlC l),41),((byC 0),36)],(((True∧True)∧True)∧(True∧(decide (64<((n:Nat):Int)))=false)),[]⟩):=by kernel_rfl
theorem sm_B_r (l:List Tm) (n cp:Nat)   (h0:(decide (64<((n:Nat):Int)))=false) {c0:Prop} {ch0:List (Option Value)}:Runs Tryz.prog (cAt [1,0] (bdy Tryz.f28)) ⟨sm_B_a l n cp,[((tlC l),41),((byC 0),36)],c0,ch0⟩ (fun e s=>e= .normal∧∃ c ch,s=⟨sm_B_b l n cp,[((tlC l),41),((byC 0),36)],c,ch⟩) 1:=by
  refine(runs_ev mixed [some (.bool false)] (sm_B_0 l n cp ) ⟨⟨⟨trivial,trivial⟩,trivial⟩,⟨trivial,h0⟩⟩).mono ?_
  rintro e s ⟨rfl,rfl⟩
  exact⟨rfl,_,_,rfl⟩
def sm_C_h (i:Nat):Hn:=⟨0,[],[],[],[]⟩
def sm_C_a (l:List Tm) (n cp:Nat):List Value:= [.slice (some ⟨0,0,none⟩) n cp,undef,.pointer (some ⟨1,0,none⟩),.int .i64 0,undef,undef,undef,undef,undef,.slice (some ⟨0,0,none⟩) n cp,.int .i64 ((n:Nat):Int),.bool false,undef,undef,undef,undef,undef,undef,undef,undef,undef,undef,undef,undef,undef,undef,undef,undef,undef,undef,undef,undef,undef,undef,undef,undef,undef,undef,undef,undef,undef,undef,undef,undef,undef,undef,undef]
def sm_C_b (l:List Tm) (n cp:Nat):List Value:= [.slice (some ⟨0,0,none⟩) n cp,undef,.pointer (some ⟨1,0,none⟩),.int .i64 0,.slice (some ⟨2,0,none⟩) (Int.toNat ((n:Nat):Int)) (Int.toNat ((n:Nat):Int)),undef,undef,undef,undef,.slice (some ⟨0,0,none⟩) n cp,.int .i64 ((n:Nat):Int),.bool false,undef,.slice (some ⟨0,0,none⟩) n cp,.int .i64 ((n:Nat):Int),.slice (some ⟨2,0,none⟩) (Int.toNat ((n:Nat):Int)) (Int.toNat ((n:Nat):Int)),undef,undef,undef,undef,undef,undef,undef,undef,undef,undef,undef,undef,undef,undef,undef,undef,undef,undef,undef,undef,undef,undef,undef,undef,undef,undef,undef,undef,undef,undef,undef]
theorem sm_C_0 (l:List Tm) (n cp:Nat):evC (yty.enf tab26 1) sm_C_h (cAt [1,1,0] (bdy Tryz.f28)) ⟨sm_C_a l n cp,[((tlC l),41),((byC 0),36)],True,[]⟩=some (.normal,⟨sm_C_b l n cp,[((tlC l),41),((byC 0),36),((madeCells (muC zmu) ((Int.toNat ((n:Nat):Int))*256)),64)],((((True∧True)∧True)∧(0≤((n:Nat):Int)∧((n:Nat):Int)=((n:Nat):Int)∧2048*(Int.toNat ((n:Nat):Int))≤281474976710656∧(Int.toNat ((n:Nat):Int))≤9223372036854775807))∧True),[]⟩):=by kernel_rfl
theorem sm_C_r (l:List Tm) (n cp:Nat)  (hn:n≤64)  {c0:Prop} {ch0:List (Option Value)}:Runs Tryz.prog (cAt [1,1,0] (bdy Tryz.f28)) ⟨sm_C_a l n cp,[((tlC l),41),((byC 0),36)],c0,ch0⟩ (fun e s=>e= .normal∧∃ c ch,s=⟨sm_C_b l n cp,[((tlC l),41),((byC 0),36),((madeCells (muC zmu) ((Int.toNat ((n:Nat):Int))*256)),64)],c,ch⟩) 1:=by
  refine(runs_ev mixed [] (sm_C_0 l n cp ) ⟨⟨⟨⟨trivial,trivial⟩,trivial⟩,sm_mk hn⟩,trivial⟩).mono ?_
  rintro e s ⟨rfl,rfl⟩
  exact⟨rfl,_,_,rfl⟩
def sm_D_h (i:Nat):Hn:=⟨0,[],[],[],[]⟩
def sm_D_a (l:List Tm) (m:LL) (n cp:Nat) (j:Nat→Value):List Value:= [.slice (some ⟨0,0,none⟩) n cp,j 1,.pointer (some ⟨1,0,none⟩),.int .i64 0,.slice (some ⟨2,0,none⟩) n n,j 5,j 6,j 7,j 8,j 9,j 10,j 11,j 12,j 13,j 14,j 15,j 16,j 17,j 18,j 19,j 20,j 21,j 22,j 23,j 24,j 25,j 26,j 27,j 28,j 29,j 30,j 31,j 32,j 33,j 34,j 35,j 36,j 37,j 38,j 39,j 40,j 41,j 42,j 43,j 44,j 45,j 46]
def sm_D_b (l:List Tm) (m:LL) (n cp:Nat) (j:Nat→Value):List Value:= [.slice (some ⟨0,0,none⟩) n cp,j 1,.pointer (some ⟨1,0,none⟩),.int .i64 0,.slice (some ⟨2,0,none⟩) n n,j 5,j 6,j 7,j 8,j 9,j 10,j 11,j 12,j 13,j 14,j 15,.slice (some ⟨0,0,none⟩) n cp,.int .i64 ((n:Nat):Int),.int .i64 0,j 19,j 20,j 21,j 22,j 23,j 24,j 25,j 26,j 27,j 28,j 29,j 30,j 31,j 32,j 33,j 34,j 35,j 36,j 37,j 38,j 39,j 40,j 41,j 42,j 43,j 44,j 45,j 46]
theorem sm_D_0 (l:List Tm) (m:LL) (n cp:Nat) (j:Nat→Value):evC (yty.enf tab26 1) sm_D_h (cAt [1,1,1,0,0] (bdy Tryz.f28)) ⟨sm_D_a l m n cp j,[((tlC l),41),((byC 0),36),((mlC m),64)],True,[]⟩=some (.normal,⟨sm_D_b l m n cp j,[((tlC l),41),((byC 0),36),((mlC m),64)],(((True∧True)∧True)∧True),[]⟩):=by kernel_rfl
theorem sm_D_r (l:List Tm) (m:LL) (n cp:Nat) (j:Nat→Value)   {c0:Prop} {ch0:List (Option Value)}:Runs Tryz.prog (cAt [1,1,1,0,0] (bdy Tryz.f28)) ⟨sm_D_a l m n cp j,[((tlC l),41),((byC 0),36),((mlC m),64)],c0,ch0⟩ (fun e s=>e= .normal∧∃ c ch,s=⟨sm_D_b l m n cp j,[((tlC l),41),((byC 0),36),((mlC m),64)],c,ch⟩) 1:=by
  refine(runs_ev mixed [] (sm_D_0 l m n cp j) ⟨⟨⟨trivial,trivial⟩,trivial⟩,trivial⟩).mono ?_
  rintro e s ⟨rfl,rfl⟩
  exact⟨rfl,_,_,rfl⟩
def sm_T_h (i:Nat):Hn:=⟨0,[],[],[],[]⟩
def sm_T_a (l:List Tm) (m:LL) (n cp k:Nat) (t:Tm) (j:Nat→Value):List Value:= [.slice (some ⟨0,0,none⟩) n cp,j 1,.pointer (some ⟨1,0,none⟩),.int .i64 0,.slice (some ⟨2,0,none⟩) n n,j 5,j 6,j 7,j 8,j 9,j 10,j 11,j 12,j 13,j 14,j 15,.slice (some ⟨0,0,none⟩) n cp,.int .i64 ((n:Nat):Int),.int .i64 (k:Int),j 19,j 20,j 21,j 22,j 23,j 24,j 25,j 26,j 27,j 28,j 29,j 30,j 31,j 32,j 33,j 34,j 35,j 36,j 37,j 38,j 39,j 40,j 41,j 42,j 43,j 44,j 45,j 46]
def sm_T_b (l:List Tm) (m:LL) (n cp k:Nat) (t:Tm) (j:Nat→Value):List Value:= [.slice (some ⟨0,0,none⟩) n cp,j 1,.pointer (some ⟨1,0,none⟩),.int .i64 0,.slice (some ⟨2,0,none⟩) n n,.int .i64 (k:Int),.pointer (some ⟨3,0,none⟩),.pointer (some ⟨4,0,none⟩),.bool true,j 9,j 10,j 11,j 12,j 13,j 14,j 15,.slice (some ⟨0,0,none⟩) n cp,.int .i64 ((n:Nat):Int),.int .i64 ((k+1:Nat):Int),.bool true,.int .i64 (k:Int),.pointer (some ⟨0,0+Int.toNat (k:Int)*64,none⟩),.agg (teC t),.pointer (some ⟨3,0,none⟩),.agg (byC t.K),.bool true,.bool false,j 27,.tuple #[.agg (ptC (decI (db (byC t.P)))),.bool (decB (db (byC t.P)))],.pointer (some ⟨3,32,none⟩),.agg (byC t.P),.tuple #[.agg (ptC (decI (db (byC t.P)))),.bool (decB (db (byC t.P)))],.agg (ptC (decI (db (byC t.P)))),.bool true,.bool true,.bool false,j 36,.slice (some ⟨2,0,none⟩) n n,.int .i64 (k:Int),.agg (ptC (decI (db (byC t.P)))),.agg (muC (muR (dp (ptC (decI (db (byC t.P))))))),.pointer (some ⟨2,0+Int.toNat (k:Int)*256,none⟩),.int .i64 ((k+1:Nat):Int),j 43,j 44,j 45,j 46]
theorem sm_T_0 (l:List Tm) (m:LL) (n cp k:Nat) (t:Tm) (j:Nat→Value):evC (yty.enf tab26 1) sm_T_h (cAt [1,1,1,0,1,0,0] (bdy Tryz.f28)) ⟨sm_T_a l m n cp k t j,[((tlC l),41),((byC 0),36),((mlC m),64)],True,[some (.bool true),some (.tuple #[.agg (teC t)]),some (.bool true),some (.bool true),some (.agg (ptC (decI (db (byC t.P))))),some (.agg (mlC (List.set m k (muR (dp (ptC (decI (db (byC t.P))))))))),some (.int .i64 ((k+1:Nat):Int))]⟩=some (.normal,⟨sm_T_b l m n cp k t j,[((tlC l),41),((byC 0),36),((mlC (List.set m k (muR (dp (ptC (decI (db (byC t.P)))))))),64),((teC t),41),((ptC (decI (db (byC t.P)))),60)],((((((((((((((((((((((((((((True∧(True∧(decide ((k:Int)<((n:Nat):Int)))=true))∧True)∧((0:Int)≤(k:Int)∧((k:Int):Int)<((n:Nat):Int)))∧((tlC l).extract (0+Int.toNat (k:Int)*64) ((0+Int.toNat (k:Int)*64)+64)=(teC t)∧64=(teC t).size))∧True)∧((teC t).all (fun v=>v.oneCell')=true))∧True)∧True)∧(byD.is (byC t.K)∧(decide (db (byC t.K)<el))=true))∧True)∧True)∧True)∧byD.is (byC t.P))∧True)∧True)∧(True∧(decB (db (byC t.P)))=true))∧(0+(ptC (decI (db (byC t.P)))).size≤(ptC (⟨0,0,0,0⟩:P4)).size∧Calm.splice (ptC (⟨0,0,0,0⟩:P4)) (0) (ptC (decI (db (byC t.P))))=(ptC (decI (db (byC t.P))))∧(ptC (decI (db (byC t.P)))).all (fun v=>v.oneCell')=true))∧True)∧True)∧True)∧True)∧True)∧True)∧ptD.is (ptC (decI (db (byC t.P)))))∧((0:Int)≤(k:Int)∧((k:Int):Int)<((n:Nat):Int)))∧((0+Int.toNat (k:Int)*256)+(muC (muR (dp (ptC (decI (db (byC t.P))))))).size≤(mlC m).size∧Calm.splice (mlC m) (0+Int.toNat (k:Int)*256) (muC (muR (dp (ptC (decI (db (byC t.P)))))))=(mlC (List.set m k (muR (dp (ptC (decI (db (byC t.P))))))))∧(muC (muR (dp (ptC (decI (db (byC t.P))))))).all (fun v=>v.oneCell')=true))∧(True∧(IntKind.i64.wrap ((k:Int)+1))=((k+1:Nat):Int)))∧True),[]⟩):=by kernel_rfl
theorem sm_T_r (l:List Tm) (m:LL) (n cp k:Nat) (t:Tm) (j:Nat→Value) (ht:OkT t) (hk:k<n) (hn:n≤64) (e1:(tlC l).extract (0+Int.toNat (k:Int)*64) ((0+Int.toNat (k:Int)*64)+64)=teC t∧64=(teC t).size) (e2:(0+Int.toNat (k:Int)*256)+(muC (muR (dp (ptC (decI (db (byC t.P))))))).size≤(mlC m).size∧Calm.splice (mlC m) (0+Int.toNat (k:Int)*256) (muC (muR (dp (ptC (decI (db (byC t.P)))))))=(mlC (List.set m k (muR (dp (ptC (decI (db (byC t.P))))))))∧(muC (muR (dp (ptC (decI (db (byC t.P))))))).all (fun v=>v.oneCell')=true) (h0:(decide ((k:Int)<((n:Nat):Int)))=true) (h1:(decide (db (byC t.K)<el))=true) (h2:(decB (db (byC t.P)))=true) {c0:Prop} {ch0:List (Option Value)}:Runs Tryz.prog (cAt [1,1,1,0,1,0,0] (bdy Tryz.f28)) ⟨sm_T_a l m n cp k t j,[((tlC l),41),((byC 0),36),((mlC m),64)],c0,ch0⟩ (fun e s=>e= .normal∧∃ c ch,s=⟨sm_T_b l m n cp k t j,[((tlC l),41),((byC 0),36),((mlC (List.set m k (muR (dp (ptC (decI (db (byC t.P)))))))),64),((teC t),41),((ptC (decI (db (byC t.P)))),60)],c,ch⟩) 1:=by
  refine(runs_ev mixed [some (.bool true),some (.tuple #[.agg (teC t)]),some (.bool true),some (.bool true),some (.agg (ptC (decI (db (byC t.P))))),some (.agg (mlC (List.set m k (muR (dp (ptC (decI (db (byC t.P))))))))),some (.int .i64 ((k+1:Nat):Int))] (sm_T_0 l m n cp k t j) ⟨⟨⟨⟨⟨⟨⟨⟨⟨⟨⟨⟨⟨⟨⟨⟨⟨⟨⟨⟨⟨⟨⟨⟨⟨⟨⟨⟨trivial,⟨trivial,h0⟩⟩,trivial⟩,tg_ix hk⟩,e1⟩,trivial⟩,one_te _⟩,trivial⟩,trivial⟩,⟨(byD.is_enc (ht.1)),h1⟩⟩,trivial⟩,trivial⟩,trivial⟩,(byD.is_enc (ht.2))⟩,trivial⟩,trivial⟩,⟨trivial,h2⟩⟩,spl_pt _ _⟩,trivial⟩,trivial⟩,trivial⟩,trivial⟩,trivial⟩,trivial⟩,(ptD.is_enc (ok4_dec _))⟩,tg_ix hk⟩,e2⟩,⟨trivial,tg_add hn hk⟩⟩,trivial⟩).mono ?_
  rintro e s ⟨rfl,rfl⟩
  exact⟨rfl,_,_,rfl⟩
def sm_S_h (i:Nat):Hn:=⟨0,[],[],[],[]⟩
def sm_S_a (l:List Tm) (m:LL) (n cp k:Nat) (t:Tm) (j:Nat→Value):List Value:= [.slice (some ⟨0,0,none⟩) n cp,j 1,.pointer (some ⟨1,0,none⟩),.int .i64 0,.slice (some ⟨2,0,none⟩) n n,j 5,j 6,j 7,j 8,j 9,j 10,j 11,j 12,j 13,j 14,j 15,.slice (some ⟨0,0,none⟩) n cp,.int .i64 ((n:Nat):Int),.int .i64 (k:Int),j 19,j 20,j 21,j 22,j 23,j 24,j 25,j 26,j 27,j 28,j 29,j 30,j 31,j 32,j 33,j 34,j 35,j 36,j 37,j 38,j 39,j 40,j 41,j 42,j 43,j 44,j 45,j 46]
def sm_S_b (l:List Tm) (m:LL) (n cp k:Nat) (t:Tm) (j:Nat→Value):List Value:= [.slice (some ⟨0,0,none⟩) n cp,j 1,.pointer (some ⟨1,0,none⟩),.int .i64 50,.slice (some ⟨2,0,none⟩) n n,.int .i64 (k:Int),.pointer (some ⟨3,0,none⟩),j 7,j 8,j 9,j 10,j 11,j 12,j 13,j 14,j 15,.slice (some ⟨0,0,none⟩) n cp,.int .i64 ((n:Nat):Int),.int .i64 (k:Int),.bool true,.int .i64 (k:Int),.pointer (some ⟨0,0+Int.toNat (k:Int)*64,none⟩),.agg (teC t),.pointer (some ⟨3,0,none⟩),.agg (byC t.K),.bool false,.bool true,.agg (byC 0),j 28,j 29,j 30,j 31,j 32,j 33,j 34,j 35,j 36,j 37,j 38,j 39,j 40,j 41,j 42,j 43,j 44,j 45,j 46]
theorem sm_S_0 (l:List Tm) (m:LL) (n cp k:Nat) (t:Tm) (j:Nat→Value):evC (yty.enf tab26 1) sm_S_h (cAt [1,1,1,0,1,0,0] (bdy Tryz.f28)) ⟨sm_S_a l m n cp k t j,[((tlC l),41),((byC 0),36),((mlC m),64)],True,[some (.bool true),some (.tuple #[.agg (teC t)]),some (.bool false)]⟩=some (.ret,⟨sm_S_b l m n cp k t j,[((tlC l),41),((byC 0),36),((mlC m),64),((teC t),41)],(((((((((((((True∧(True∧(decide ((k:Int)<((n:Nat):Int)))=true))∧True)∧((0:Int)≤(k:Int)∧((k:Int):Int)<((n:Nat):Int)))∧((tlC l).extract (0+Int.toNat (k:Int)*64) ((0+Int.toNat (k:Int)*64)+64)=(teC t)∧64=(teC t).size))∧True)∧((teC t).all (fun v=>v.oneCell')=true))∧True)∧True)∧(byD.is (byC t.K)∧(decide (db (byC t.K)<el))=false))∧True)∧True)∧((byC 0).all (fun v=>v.oneCell')=true))∧True),[]⟩):=by kernel_rfl
theorem sm_S_r (l:List Tm) (m:LL) (n cp k:Nat) (t:Tm) (j:Nat→Value) (ht:OkT t) (hk:k<n) (hn:n≤64) (e1:(tlC l).extract (0+Int.toNat (k:Int)*64) ((0+Int.toNat (k:Int)*64)+64)=teC t∧64=(teC t).size) (h0:(decide ((k:Int)<((n:Nat):Int)))=true) (h1:(decide (db (byC t.K)<el))=false) {c0:Prop} {ch0:List (Option Value)}:Runs Tryz.prog (cAt [1,1,1,0,1,0,0] (bdy Tryz.f28)) ⟨sm_S_a l m n cp k t j,[((tlC l),41),((byC 0),36),((mlC m),64)],c0,ch0⟩ (fun e s=>e= .ret∧∃ c ch,s=⟨sm_S_b l m n cp k t j,[((tlC l),41),((byC 0),36),((mlC m),64),((teC t),41)],c,ch⟩) 1:=by
  refine(runs_ev mixed [some (.bool true),some (.tuple #[.agg (teC t)]),some (.bool false)] (sm_S_0 l m n cp k t j) ⟨⟨⟨⟨⟨⟨⟨⟨⟨⟨⟨⟨⟨trivial,⟨trivial,h0⟩⟩,trivial⟩,tg_ix hk⟩,e1⟩,trivial⟩,one_te _⟩,trivial⟩,trivial⟩,⟨(byD.is_enc (ht.1)),h1⟩⟩,trivial⟩,trivial⟩,byK_one _ _⟩,trivial⟩).mono ?_
  rintro e s ⟨rfl,rfl⟩
  exact⟨rfl,_,_,rfl⟩
def sm_P_h (i:Nat):Hn:=⟨0,[],[],[],[]⟩
def sm_P_a (l:List Tm) (m:LL) (n cp k:Nat) (t:Tm) (j:Nat→Value):List Value:= [.slice (some ⟨0,0,none⟩) n cp,j 1,.pointer (some ⟨1,0,none⟩),.int .i64 0,.slice (some ⟨2,0,none⟩) n n,j 5,j 6,j 7,j 8,j 9,j 10,j 11,j 12,j 13,j 14,j 15,.slice (some ⟨0,0,none⟩) n cp,.int .i64 ((n:Nat):Int),.int .i64 (k:Int),j 19,j 20,j 21,j 22,j 23,j 24,j 25,j 26,j 27,j 28,j 29,j 30,j 31,j 32,j 33,j 34,j 35,j 36,j 37,j 38,j 39,j 40,j 41,j 42,j 43,j 44,j 45,j 46]
def sm_P_b (l:List Tm) (m:LL) (n cp k:Nat) (t:Tm) (j:Nat→Value):List Value:= [.slice (some ⟨0,0,none⟩) n cp,j 1,.pointer (some ⟨1,0,none⟩),.int .i64 51,.slice (some ⟨2,0,none⟩) n n,.int .i64 (k:Int),.pointer (some ⟨3,0,none⟩),.pointer (some ⟨4,0,none⟩),.bool false,j 9,j 10,j 11,j 12,j 13,j 14,j 15,.slice (some ⟨0,0,none⟩) n cp,.int .i64 ((n:Nat):Int),.int .i64 (k:Int),.bool true,.int .i64 (k:Int),.pointer (some ⟨0,0+Int.toNat (k:Int)*64,none⟩),.agg (teC t),.pointer (some ⟨3,0,none⟩),.agg (byC t.K),.bool true,.bool false,j 27,.tuple #[.agg (ptC (decI (db (byC t.P)))),.bool (decB (db (byC t.P)))],.pointer (some ⟨3,32,none⟩),.agg (byC t.P),.tuple #[.agg (ptC (decI (db (byC t.P)))),.bool (decB (db (byC t.P)))],.agg (ptC (decI (db (byC t.P)))),.bool false,.bool false,.bool true,.agg (byC 0),j 37,j 38,j 39,j 40,j 41,j 42,j 43,j 44,j 45,j 46]
theorem sm_P_0 (l:List Tm) (m:LL) (n cp k:Nat) (t:Tm) (j:Nat→Value):evC (yty.enf tab26 1) sm_P_h (cAt [1,1,1,0,1,0,0] (bdy Tryz.f28)) ⟨sm_P_a l m n cp k t j,[((tlC l),41),((byC 0),36),((mlC m),64)],True,[some (.bool true),some (.tuple #[.agg (teC t)]),some (.bool true),some (.bool false)]⟩=some (.ret,⟨sm_P_b l m n cp k t j,[((tlC l),41),((byC 0),36),((mlC m),64),((teC t),41),((ptC (decI (db (byC t.P)))),60)],(((((((((((((((((((((((True∧(True∧(decide ((k:Int)<((n:Nat):Int)))=true))∧True)∧((0:Int)≤(k:Int)∧((k:Int):Int)<((n:Nat):Int)))∧((tlC l).extract (0+Int.toNat (k:Int)*64) ((0+Int.toNat (k:Int)*64)+64)=(teC t)∧64=(teC t).size))∧True)∧((teC t).all (fun v=>v.oneCell')=true))∧True)∧True)∧(byD.is (byC t.K)∧(decide (db (byC t.K)<el))=true))∧True)∧True)∧True)∧byD.is (byC t.P))∧True)∧True)∧(True∧(decB (db (byC t.P)))=false))∧((ptC (decI (db (byC t.P)))).all (fun v=>v.oneCell')=true))∧True)∧True)∧True)∧True)∧((byC 0).all (fun v=>v.oneCell')=true))∧True),[]⟩):=by kernel_rfl
theorem sm_P_r (l:List Tm) (m:LL) (n cp k:Nat) (t:Tm) (j:Nat→Value) (ht:OkT t) (hk:k<n) (hn:n≤64) (e1:(tlC l).extract (0+Int.toNat (k:Int)*64) ((0+Int.toNat (k:Int)*64)+64)=teC t∧64=(teC t).size) (h0:(decide ((k:Int)<((n:Nat):Int)))=true) (h1:(decide (db (byC t.K)<el))=true) (h2:(decB (db (byC t.P)))=false) {c0:Prop} {ch0:List (Option Value)}:Runs Tryz.prog (cAt [1,1,1,0,1,0,0] (bdy Tryz.f28)) ⟨sm_P_a l m n cp k t j,[((tlC l),41),((byC 0),36),((mlC m),64)],c0,ch0⟩ (fun e s=>e= .ret∧∃ c ch,s=⟨sm_P_b l m n cp k t j,[((tlC l),41),((byC 0),36),((mlC m),64),((teC t),41),((ptC (decI (db (byC t.P)))),60)],c,ch⟩) 1:=by
  refine(runs_ev mixed [some (.bool true),some (.tuple #[.agg (teC t)]),some (.bool true),some (.bool false)] (sm_P_0 l m n cp k t j) ⟨⟨⟨⟨⟨⟨⟨⟨⟨⟨⟨⟨⟨⟨⟨⟨⟨⟨⟨⟨⟨⟨⟨trivial,⟨trivial,h0⟩⟩,trivial⟩,tg_ix hk⟩,e1⟩,trivial⟩,one_te _⟩,trivial⟩,trivial⟩,⟨(byD.is_enc (ht.1)),h1⟩⟩,trivial⟩,trivial⟩,trivial⟩,(byD.is_enc (ht.2))⟩,trivial⟩,trivial⟩,⟨trivial,h2⟩⟩,ptC_one _⟩,trivial⟩,trivial⟩,trivial⟩,trivial⟩,byK_one _ _⟩,trivial⟩).mono ?_
  rintro e s ⟨rfl,rfl⟩
  exact⟨rfl,_,_,rfl⟩
def sm_X_h (i:Nat):Hn:=⟨0,[],[],[],[]⟩
def sm_X_a (l:List Tm) (m:LL) (n cp k:Nat) (t:Tm) (j:Nat→Value):List Value:= [.slice (some ⟨0,0,none⟩) n cp,j 1,.pointer (some ⟨1,0,none⟩),.int .i64 0,.slice (some ⟨2,0,none⟩) n n,j 5,j 6,j 7,j 8,j 9,j 10,j 11,j 12,j 13,j 14,j 15,.slice (some ⟨0,0,none⟩) n cp,.int .i64 ((n:Nat):Int),.int .i64 (k:Int),j 19,j 20,j 21,j 22,j 23,j 24,j 25,j 26,j 27,j 28,j 29,j 30,j 31,j 32,j 33,j 34,j 35,j 36,j 37,j 38,j 39,j 40,j 41,j 42,j 43,j 44,j 45,j 46]
def sm_X_b (l:List Tm) (m:LL) (n cp k:Nat) (t:Tm) (j:Nat→Value):List Value:= [.slice (some ⟨0,0,none⟩) n cp,j 1,.pointer (some ⟨1,0,none⟩),.int .i64 0,.slice (some ⟨2,0,none⟩) n n,j 5,j 6,j 7,j 8,j 9,j 10,j 11,j 12,j 13,j 14,j 15,.slice (some ⟨0,0,none⟩) n cp,.int .i64 ((n:Nat):Int),.int .i64 (k:Int),.bool false,j 20,j 21,j 22,j 23,j 24,j 25,j 26,j 27,j 28,j 29,j 30,j 31,j 32,j 33,j 34,j 35,j 36,j 37,j 38,j 39,j 40,j 41,j 42,j 43,j 44,j 45,j 46]
theorem sm_X_0 (l:List Tm) (m:LL) (n cp k:Nat) (t:Tm) (j:Nat→Value):evC (yty.enf tab26 1) sm_X_h (cAt [1,1,1,0,1,0,0] (bdy Tryz.f28)) ⟨sm_X_a l m n cp k t j,[((tlC l),41),((byC 0),36),((mlC m),64)],True,[some (.bool false)]⟩=some ((.exit 0),⟨sm_X_b l m n cp k t j,[((tlC l),41),((byC 0),36),((mlC m),64)],(True∧(True∧(decide ((k:Int)<((n:Nat):Int)))=false)),[]⟩):=by kernel_rfl
theorem sm_X_r (l:List Tm) (m:LL) (n cp k:Nat) (t:Tm) (j:Nat→Value)  (h0:(decide ((k:Int)<((n:Nat):Int)))=false) {c0:Prop} {ch0:List (Option Value)}:Runs Tryz.prog (cAt [1,1,1,0,1,0,0] (bdy Tryz.f28)) ⟨sm_X_a l m n cp k t j,[((tlC l),41),((byC 0),36),((mlC m),64)],c0,ch0⟩ (fun e s=>e=(.exit 0)∧∃ c ch,s=⟨sm_X_b l m n cp k t j,[((tlC l),41),((byC 0),36),((mlC m),64)],c,ch⟩) 1:=by
  refine(runs_ev mixed [some (.bool false)] (sm_X_0 l m n cp k t j) ⟨trivial,⟨trivial,h0⟩⟩).mono ?_
  rintro e s ⟨rfl,rfl⟩
  exact⟨rfl,_,_,rfl⟩
def sm_Z_h (i:Nat):Hn:=⟨0,[],[],[],[]⟩
def sm_Z_a (l:List Tm) (m:LL) (n cp:Nat) (j:Nat→Value):List Value:= [.slice (some ⟨0,0,none⟩) n cp,j 1,.pointer (some ⟨1,0,none⟩),.int .i64 0,.slice (some ⟨2,0,none⟩) n n,j 5,j 6,j 7,j 8,j 9,j 10,j 11,j 12,j 13,j 14,j 15,j 16,j 17,j 18,j 19,j 20,j 21,j 22,j 23,j 24,j 25,j 26,j 27,j 28,j 29,j 30,j 31,j 32,j 33,j 34,j 35,j 36,j 37,j 38,j 39,j 40,j 41,j 42,j 43,j 44,j 45,j 46]
def sm_Z_b (l:List Tm) (m:LL) (n cp:Nat) (j:Nat→Value):List Value:= [.slice (some ⟨0,0,none⟩) n cp,j 1,.pointer (some ⟨1,0,none⟩),.int .i64 0,.slice (some ⟨2,0,none⟩) n n,j 5,j 6,j 7,j 8,j 9,j 10,j 11,j 12,j 13,j 14,j 15,j 16,j 17,j 18,j 19,j 20,j 21,j 22,j 23,j 24,j 25,j 26,j 27,j 28,j 29,j 30,j 31,j 32,j 33,j 34,j 35,j 36,j 37,j 38,j 39,j 40,j 41,j 42,.slice (some ⟨0,0,none⟩) n cp,.slice (some ⟨2,0,none⟩) n n,.agg (ptC (togS (dtl n (tlC l)) (dml n (mlC m)) 64)),.agg (byC (encI (dp (ptC (togS (dtl n (tlC l)) (dml n (mlC m)) 64)))))]
theorem sm_Z_0 (l:List Tm) (m:LL) (n cp:Nat) (j:Nat→Value):evC (yty.enf tab26 1) sm_Z_h (cAt [1,1,1,1] (bdy Tryz.f28)) ⟨sm_Z_a l m n cp j,[((tlC l),41),((byC 0),36),((mlC m),64)],True,[]⟩=some (.ret,⟨sm_Z_b l m n cp j,[((tlC l),41),((byC (encI (dp (ptC (togS (dtl n (tlC l)) (dml n (mlC m)) 64))))),36),((mlC m),64)],((((((True∧True)∧True)∧(41=41∧64=64∧n=n∧n=n∧togOk (dtl n (tlC l)) (dml n (mlC m)) n (tlC l) (mlC m)))∧ptD.is (ptC (togS (dtl n (tlC l)) (dml n (mlC m)) 64)))∧((byC (encI (dp (ptC (togS (dtl n (tlC l)) (dml n (mlC m)) 64))))).all (fun v=>v.oneCell')=true))∧True),[]⟩):=by kernel_rfl
theorem sm_Z_r (l:List Tm) (m:LL) (n cp:Nat) (j:Nat→Value) (hg:togOk (dtl n (tlC l)) (dml n (mlC m)) n (tlC l) (mlC m))  {c0:Prop} {ch0:List (Option Value)}:Runs Tryz.prog (cAt [1,1,1,1] (bdy Tryz.f28)) ⟨sm_Z_a l m n cp j,[((tlC l),41),((byC 0),36),((mlC m),64)],c0,ch0⟩ (fun e s=>e= .ret∧∃ c ch,s=⟨sm_Z_b l m n cp j,[((tlC l),41),((byC (encI (dp (ptC (togS (dtl n (tlC l)) (dml n (mlC m)) 64))))),36),((mlC m),64)],c,ch⟩) 1:=by
  refine(runs_ev mixed [] (sm_Z_0 l m n cp j) ⟨⟨⟨⟨⟨⟨trivial,trivial⟩,trivial⟩,⟨rfl,rfl,rfl,rfl,hg⟩⟩,(ptD.is_enc (ok_togS _ _ _))⟩,byK_one _ _⟩,trivial⟩).mono ?_
  rintro e s ⟨rfl,rfl⟩
  exact⟨rfl,_,_,rfl⟩
end Go.Proofs.YtdebkddhpogkgaaGreat

set_option linter.unusedSimpArgs false
set_option linter.unusedVariables false
/-! Sum: its loop. -/
namespace Go.Proofs.YtdebkddhpogkgaaGreat
open Go.RowKit Go.Ev
def smO (n cp:Nat) (j:Nat→Value):List Value:= [.slice (some ⟨0,0,none⟩) n cp,j 1,.pointer (some ⟨1,0,none⟩),.int .i64 0,.slice (some ⟨2,0,none⟩) n n,j 5,j 6,j 7,j 8,j 9,j 10,j 11,j 12,j 13,j 14,j 15,j 16,j 17,j 18,j 19,j 20,j 21,j 22,j 23,j 24,j 25,j 26,j 27,j 28,j 29,j 30,j 31,j 32,j 33,j 34,j 35,j 36,j 37,j 38,j 39,j 40,j 41,j 42,j 43,j 44,j 45,j 46]
def smI (n cp k:Nat) (j:Nat→Value):List Value:= [.slice (some ⟨0,0,none⟩) n cp,j 1,.pointer (some ⟨1,0,none⟩),.int .i64 0,.slice (some ⟨2,0,none⟩) n n,j 5,j 6,j 7,j 8,j 9,j 10,j 11,j 12,j 13,j 14,j 15,.slice (some ⟨0,0,none⟩) n cp,.int .i64 ((n:Nat):Int),.int .i64 (k:Int),j 19,j 20,j 21,j 22,j 23,j 24,j 25,j 26,j 27,j 28,j 29,j 30,j 31,j 32,j 33,j 34,j 35,j 36,j 37,j 38,j 39,j 40,j 41,j 42,j 43,j 44,j 45,j 46]
def smM (l:List Tm) (m:LL):List (Array Value×TypeId):= [((tlC l),41),((byC 0),36),((mlC m),64)]
def bad (t:Tm):Int:=cond (decide (t.K<el)) (cond (decB t.P) 0 51) 50
def chk:List Tm→Int
  | []=>0
  |t :: r=>if bad t=0 then chk r else bad t
theorem chk_drop {l:List Tm}:∀ {k:Nat},(∀ i,i<k→i<l.length→bad (tnth l i)=0)→k≤l.length→chk l=chk (l.drop k)
  |0,_,_=>rfl
  | k + 1, h, hk => by
    rw[chk_drop (fun i hi hl=>h i (by omega) hl) (by omega:k≤l.length)]
    have hlt:k<l.length:=by omega
    have e:tnth l k=l[k]:=by
      have:=tnth_at hlt
      rw[List.getElem?_eq_getElem hlt] at this
      exact(Option.some.inj this).symm
    rw[List.drop_eq_getElem_cons hlt,chk,← e,if_pos (h k (by omega) hlt)]
theorem chk_at {l:List Tm} {k:Nat} (hk:k<l.length) (h:∀ i,i<k→bad (tnth l i)=0) (hb:bad (tnth l k)≠0):chk l=bad (tnth l k):=by
  have e:tnth l k=l[k]:=by
    have:=tnth_at hk
    rw[List.getElem?_eq_getElem hk] at this
    exact(Option.some.inj this).symm
  rw[chk_drop (fun i hi _=>h i hi) (by omega:k≤l.length),List.drop_eq_getElem_cons hk,chk,← e,if_neg hb]
theorem chk_all {l:List Tm} (h:∀ i,i<l.length→bad (tnth l i)=0):chk l=0:=by
  rw[chk_drop (k:=l.length) (fun i hi _=>h i hi) (by omega),List.drop_length];rfl
def rows (l:List Tm):LL:=l.map fun t=>muR (decI t.P)
def rowK (l:List Tm) (k:Nat):LL:=(rows l).take k ++ List.replicate (l.length - k) zmu
theorem rowK_len {l:List Tm} {k:Nat} (h:k≤l.length):(rowK l k).length=l.length:=by
  simp only[rowK,rows,List.length_append,List.length_take,List.length_map,List.length_replicate];omega
theorem rowK_ok (l:List Tm) (k:Nat):RowsOk (rowK l k):=fun r hr=>by
  rcases List.mem_append.1 hr with h|h
  · obtain ⟨t, _, rfl⟩ := List.mem_map.1 (List.mem_of_mem_take h)
    exact⟨len_muR _,ok_muR _⟩
  · rw [(List.mem_replicate.1 h).2]
    refine⟨by simp[zmu],fun p hp=> ?_⟩
    rw[(List.mem_replicate.1 hp).2]
    exact⟨ok_0,ok_0,ok_0,ok_0⟩
theorem rowK_set {l:List Tm} {k:Nat} (h:k<l.length):(rowK l k).set k (muR (decI (tnth l k).P))=rowK l (k+1):=by
  have e:tnth l k=l[k]:=by
    have:=tnth_at h
    rw[List.getElem?_eq_getElem h] at this
    exact(Option.some.inj this).symm
  have hl:(rows l).length=l.length:=by simp[rows]
  unfold rowK
  rw[List.set_append_right _ _ (by simp only[List.length_take];omega),List.length_take,Nat.min_eq_left (by omega),Nat.sub_self,show l.length - k=(l.length - (k+1))+1 by omega,List.replicate_succ,List.set_cons_zero,List.take_succ_eq_append_getElem (by omega),List.append_assoc]
  congr 1
  simp[rows,e]
theorem rowK_all (l:List Tm):rowK l l.length=rows l:=by
  have hl:(rows l).length=l.length:=by simp[rows]
  unfold rowK
  rw[Nat.sub_self,List.replicate_zero,List.append_nil,← hl,List.take_length]
theorem bad_50 {t:Tm} (h:decide (t.K<el)=false):bad t=50:=by unfold bad;rw[h];rfl
theorem bad_51 {t:Tm} (h:decide (t.K<el)=true) (h2:decB t.P=false):bad t=51:=by unfold bad;rw[h,h2];rfl
theorem bad_0 {t:Tm} (h:decide (t.K<el)=true) (h2:decB t.P=true):bad t=0:=by unfold bad;rw[h,h2];rfl
theorem sm_loop (l : List Tm) (n cp : Nat) (hl : l.length = n) (hn : n ≤ 64) (ho : ∀ t ∈ l, OkT t) (j0 : Nat → Value) {c0 : Prop} {ch0 : List (Option Value)} : Runs Tryz.prog (.loop (cAt [1, 1, 1, 0, 1, 0, 0] (bdy Tryz.f28))) ⟨smI n cp 0 j0, smM l (rowK l 0), c0, ch0⟩ (fun e s => (e = .exit 0 ∧ chk l = 0 ∧ ∃ k j c ch, s = ⟨smI n cp k j, smM l (rows l), c, ch⟩) ∨ (e = .ret ∧ chk l ≠ 0 ∧ resS (yty.enf tab26 1) s Tryz.f28.results.toList = some [.agg (byC 0), .int .i64 (chk l)])) 1 := by
  refine runs_loop (fun M s=>∃ k j c ch,k≤n∧M=n - k∧(∀ i,i<k→bad (tnth l i)=0)∧s=⟨smI n cp k j,smM l (rowK l k),c,ch⟩) n ⟨0,j0,c0,ch0,by omega,by omega,fun i hi=>absurd hi (by omega),rfl⟩ ?_
  rintro M s ⟨k,j,c,ch,hk,rfl,hg,rfl⟩
  by_cases h:k<n
  · have ht := tnth_at (l := l) (k := k) (by omega)
    have hto:=ho _ (List.mem_of_getElem? ht)
    have eK:db (byC (tnth l k).K)=(tnth l k).K:=db_byC _ hto.1
    have eP:db (byC (tnth l k).P)=(tnth l k).P:=db_byC _ hto.2
    have eD:dp (ptC (decI (tnth l k).P))=decI (tnth l k).P:=dp_dec _
    cases h1:decide ((tnth l k).K<el) with
    | false =>
      have hb:=bad_50 h1
      refine(sm_S_r l (rowK l k) n cp k (tnth l k) j hto h hn (tl_at ht) (decide_eq_true (by omega)) (by rw[eK];exact h1)).mono ?_
      rintro e s ⟨rfl,c,ch,hs'⟩
      have hc:=chk_at (l:=l) (by omega) hg (by rw[hb];decide)
      refine .inr ⟨by simp,.inr ⟨rfl,by rw[hc,hb];decide,?_⟩⟩
      subst hs'
      rw[hc,hb]
      kernel_rfl
    | true =>
      cases h2:decB (tnth l k).P with
      | false =>
        have hb:=bad_51 h1 h2
        refine(sm_P_r l (rowK l k) n cp k (tnth l k) j hto h hn (tl_at ht) (decide_eq_true (by omega)) (by rw[eK];exact h1) (by rw[eP];exact h2)).mono ?_
        rintro e s ⟨rfl,c,ch,hs'⟩
        have hc:=chk_at (l:=l) (by omega) hg (by rw[hb];decide)
        refine .inr ⟨by simp,.inr ⟨rfl,by rw[hc,hb];decide,?_⟩⟩
        subst hs'
        rw[hc,hb]
        kernel_rfl
      | true =>
        refine Runs.drop (sm_T_r l (rowK l k) n cp k (tnth l k) j hto h hn (tl_at ht) (ml_set (fun r hr=>(rowK_ok l k r hr).1) (len_muR _) (by rw[rowK_len (by omega)];omega)) (decide_eq_true (by omega)) (by rw[eK];exact h1) (by rw[eP];exact h2)) ?_
        rintro e s ⟨rfl,c,ch,hs'⟩
        refine⟨smM l (rowK l (k+1)),[(teC (tnth l k),41),(ptC (decI (tnth l k).P),60)],?_,fun M=> .inl ⟨rfl,n - (k+1),by omega,k+1,fun q=>(s.tm.map (dn 3 M)).getD q undef,s.c,s.ch,by omega,rfl,?_,?_⟩⟩
        · subst hs'
          rw[eP,eD,rowK_set (by omega)]
          rfl
        · intro i hi
          by_cases hik:i<k
          · exact hg i hik
          · rw[show i=k by omega];exact bad_0 h1 h2
        · subst hs'
          rfl
  · have : k = n := by omega
    subst this
    refine(sm_X_r l (rowK l k) k cp k ⟨0,0⟩ j (decide_eq_false (by omega))).mono ?_
    rintro e s ⟨rfl,c,ch,hs'⟩
    refine .inr ⟨by simp,.inl ⟨rfl,chk_all (fun i hi=>hg i (by omega)),k,fun q=>s.tm.getD q undef,c,ch,?_⟩⟩
    rw[← rowK_all l,hl]
    subst hs'
    rfl
def smE (l:List Tm):Int:=if 64<l.length then 3 else chk l
def smP (l:List Tm):Int:=if 64<l.length then 0 else if chk l=0 then encI (togS l (rows l) 64) else 0
theorem sm_shape:bdy Tryz.f28= .seq (cAt [0] (bdy Tryz.f28)) (.seq (cAt [1,0] (bdy Tryz.f28)) (.seq (cAt [1,1,0] (bdy Tryz.f28)) (.seq (.seq (cAt [1,1,1,0,0] (bdy Tryz.f28)) (.block 0 (.loop (cAt [1,1,1,0,1,0,0] (bdy Tryz.f28))))) (cAt [1,1,1,1] (bdy Tryz.f28))))):=by kernel_rfl
theorem Sum_c (l : List Tm) (cp : Nat) (ho : ∀ t ∈ l, OkT t) : Reads Tryz.prog 28 [(tlC l, 41)] [.slice (some ⟨0, 0, none⟩) l.length cp] (.tuple #[.agg (byC (smP l)), .int .i64 (smE l)]) := by
  refine reads_runs (fk:=1) (yty.enf tab26 1) Tryz.func28 (c:=bdy Tryz.f28) (by kernel_rfl) ⟨rfl,by decide⟩ rfl (K:=fun e s=>e= .ret∧resS (yty.enf tab26 1) s Tryz.f28.results.toList=some [.agg (byC (smP l)),.int .i64 (smE l)]) ?_ (fun e s h=>⟨h.1,_,h.2,rfl⟩)
  rw[sm_shape]
  refine runs_seq (sm_A_r l l.length cp) (fun s h=> ?_) (fun e s hne h=>absurd h.1 hne)
  obtain⟨_,c,ch,rfl⟩:=h
  by_cases h64:64<l.length
  · refine runs_seq (sm_L_r l l.length cp (decide_eq_true (by omega))) (fun s h => by cases h.1) (fun e s hne h => ?_)
    obtain⟨rfl,c,ch,rfl⟩:=h
    have e1:smP l=0:=if_pos h64
    have e2:smE l=3:=if_pos h64
    rw[e1,e2]
    exact⟨rfl,by kernel_rfl⟩
  · have hn : l.length ≤ 64 := by omega
    have e1:smP l=if chk l=0 then encI (togS l (rows l) 64) else 0:=if_neg h64
    have e2:smE l=chk l:=if_neg h64
    rw[e1,e2]
    refine runs_seq (sm_B_r l l.length cp (decide_eq_false (by omega))) (fun s h=> ?_) (fun e s hne h=>absurd h.1 hne)
    obtain⟨_,c,ch,rfl⟩:=h
    refine runs_seq (sm_C_r l l.length cp hn) (fun s h=> ?_) (fun e s hne h=>absurd h.1 hne)
    obtain⟨_,c,ch,hs⟩:=h
    have hr0:mlC (List.replicate l.length zmu)=mlC (rowK l 0):=by
      unfold rowK
      rw[List.take_zero,List.nil_append,Nat.sub_zero]
    rw[ml_made,hr0] at hs
    have hs':s=⟨smO l.length cp (fun q=>s.tm.getD q undef),smM l (rowK l 0),c,ch⟩:=by subst hs;rfl
    rw[hs']
    generalize(fun q=>s.tm.getD q undef)=j
    refine runs_seq (K1:=fun e s=>(e= .normal∧chk l=0∧∃ j c ch,s=⟨smO l.length cp j,smM l (rows l),c,ch⟩)∨(e= .ret∧chk l≠0∧resS (yty.enf tab26 1) s Tryz.f28.results.toList=some [.agg (byC 0),.int .i64 (chk l)])) ?_ (fun s h=> ?_) (fun e s hne h=> ?_)
    · refine runs_seq (sm_D_r l (rowK l 0) l.length cp j) (fun s h => ?_) (fun e s hne h => absurd h.1 hne)
      obtain⟨_,c,ch,hs⟩:=h
      have hs':s=⟨smI l.length cp 0 (fun q=>s.tm.getD q undef),smM l (rowK l 0),c,ch⟩:=by subst hs;rfl
      rw[hs']
      refine runs_block (sm_loop l l.length cp rfl hn ho _) ?_
      rintro e s (⟨rfl,h0,k,j,c,ch,rfl⟩|⟨rfl,h0,h1⟩)
      · exact .inl ⟨rfl,.inl ⟨rfl,h0,fun q=>(smI l.length cp k j).getD q undef,c,ch,rfl⟩⟩
      · exact .inr (.inr ⟨rfl,.inr ⟨rfl,h0,h1⟩⟩)
    · rcases h with ⟨_, h0, j, c, ch, rfl⟩ | ⟨h, _⟩
      · have hR := rowK_ok l l.length
        rw[rowK_all] at hR
        have hlr:(rows l).length=l.length:=by simp[rows]
        have eL:=dtl_tl l ho
        have eM:=dml_ml (rows l) hR
        rw[hlr] at eM
        have hg:togOk (dtl l.length (tlC l)) (dml l.length (mlC (rows l))) l.length (tlC l) (mlC (rows l)):=by
          rw[eL,eM]
          exact⟨rfl,rfl,rfl,hn,ho,hlr,hR⟩
        refine(sm_Z_r l (rows l) l.length cp j hg).mono ?_
        rintro e s ⟨rfl,c,ch,hs⟩
        rw[eL,eM,dp_ptC _ (ok_togS _ _ _)] at hs
        rw[h0,if_pos rfl]
        subst hs
        exact⟨rfl,by kernel_rfl⟩
      · cases h
    · rcases h with ⟨rfl, _⟩ | ⟨rfl, h0, h1⟩
      · exact absurd rfl hne
      · rw [if_neg h0]
        exact⟨rfl,h1⟩
end Go.Proofs.YtdebkddhpogkgaaGreat

set_option linter.unusedSimpArgs false
set_option linter.unusedVariables false
/-! What Sum's answer is in the group. -/
namespace Go.Proofs.YtdebkddhpogkgaaGreat
open Go.RowKit Go.Ev
theorem rep_mP {p:P4} {a:Pt} (h:RepP p a):∀ i,RepP (mP p i) (Pt.tm i a)
  |0=>by rw[Pt.tm_0];exact rep_id
  |i+1=>by rw[Pt.tm_s];exact rep_add (rep_mP h i) h
def psum (f:Nat→Pt):Nat→Pt
  |0=>Pt.zero
  |k+1=>(psum f k).add (f k)
theorem psum_0 (f:Nat→Pt):psum f 0=Pt.zero:=rfl
theorem psum_s (f:Nat→Pt) (k:Nat):psum f (k+1)=(psum f k).add (f k):=rfl
theorem psum_ext {f g:Nat→Pt} {n:Nat} (h:∀ i,i<n→f i=g i):psum f n=psum g n:=by
  induction n with
  |zero=>rfl
  |succ n ih=>rw[psum_s,psum_s,ih (fun i hi=>h i (by omega)),h n (by omega)]
theorem psum_zero {f:Nat→Pt} {n:Nat} (h:∀ i,i<n→f i=Pt.zero):psum f n=Pt.zero:=by
  induction n with
  |zero=>rfl
  |succ n ih=>rw[psum_s,ih (fun i hi=>h i (by omega)),h n (by omega),Pt.zero_add]
theorem psum_tm (m:Nat) (f:Nat→Pt) (n:Nat):Pt.tm m (psum f n)=psum (fun i=>Pt.tm m (f i)) n:=by
  induction n with
  |zero=>rw[psum_0,psum_0,Pt.tm_zero]
  |succ n ih=>rw[psum_s,psum_s,Pt.tm_sum,ih]
theorem add4 (a b c d:Pt):(a.add b).add (c.add d)=(a.add c).add (b.add d):=by
  rw[Pt.add_assoc,← Pt.add_assoc b c d,Pt.add_comm b c,Pt.add_assoc c b d,← Pt.add_assoc]
theorem psum_add (f g:Nat→Pt) (n:Nat):(psum f n).add (psum g n)=psum (fun i=>(f i).add (g i)) n:=by
  induction n with
  |zero=>rw[psum_0,psum_0,psum_0,Pt.zero_add]
  |succ n ih=>rw[psum_s,psum_s,psum_s,add4,ih]
theorem rep_dbl4 {S:P4} {s:Pt} (h:RepP S s):RepP (dbl4 S) (Pt.tm 16 s):=by
  have r0:RepP S (Pt.tm 1 s):=by rw[Pt.tm_one];exact h
  have r1:=rep_add r0 r0
  rw[← Pt.tm_dbl] at r1
  have r2:=rep_add r1 r1
  rw[← Pt.tm_dbl] at r2
  have r3:=rep_add r2 r2
  rw[← Pt.tm_dbl] at r3
  have r4:=rep_add r3 r3
  rw[← Pt.tm_dbl] at r4
  exact r4
theorem pnth_rows {l:List Tm} {k d:Nat} (hk:k<l.length) (hd:d<16):pnth (rows l) k d=mP (decI (tnth l k).P) d:=by
  have e:tnth l k=l[k]:=by
    have:=tnth_at hk
    rw[List.getElem?_eq_getElem hk] at this
    exact(Option.some.inj this).symm
  unfold pnth rows
  rw[List.getD_eq_getElem?_getD (l:=List.map _ l),List.getElem?_map,List.getElem?_eq_getElem hk,Option.map_some,Option.getD_some,e]
  unfold muR
  rw[List.getD_eq_getElem?_getD,List.getElem?_map,List.getElem?_range hd]
  rfl
section
theorem rep_stepJ {l:List Tm} {A:Nat→Pt} (hA:∀ k,k<l.length→RepP (decI (tnth l k).P) (A k)) {a:Nat} {S:P4} {s:Pt} (h:RepP S s) (k:Nat) (hk:k≤l.length):RepP (stepJ l (rows l) a S k) (s.add (psum (fun i=>Pt.tm (dgN (tnth l i).K a) (A i)) k)):=by
  induction k with
  | zero =>
    rw[psum_0,Pt.add_comm,Pt.zero_add]
    exact h
  | succ k ih =>
    have ih:=ih (by omega)
    rw[psum_s,← Pt.add_assoc]
    unfold stepJ
    cases hd:decide (dgN (tnth l k).K a=0) with
    | true =>
      have hz:=of_decide_eq_true hd
      rw[hz,Pt.tm_0,Pt.add_comm _ Pt.zero,Pt.zero_add]
      exact ih
    | false =>
      rw[pnth_rows (by omega) (dg_lt _ _)]
      exact rep_add ih (rep_mP (hA k (by omega)) _)
theorem rep_togS {l:List Tm} {A:Nat→Pt} (hA:∀ k,k<l.length→RepP (decI (tnth l k).P) (A k)) (ho:∀ t ∈ l,OkT t) (i:Nat) (hi:i≤64):RepP (togS l (rows l) i) (psum (fun j=>Pt.tm ((tnth l j).K.toNat / 16 ^ (64 - i)) (A j)) l.length):=by
  induction i with
  | zero =>
    rw[psum_zero (fun j hj=> ?_)]
    · exact rep_id
    · have hK := (ho _ (List.mem_of_getElem? (tnth_at hj))).1
      rw[Nat.div_eq_of_lt (by have:=hK.2;rw[show(16:Nat) ^ (64 - 0)=115792089237316195423570985008687907853269984665640564039457584007913129639936 by decide];omega),Pt.tm_0]
  | succ i ih =>
    have ih:=ih (by omega)
    have h2:=rep_stepJ hA (a:=63 - i) (rep_dbl4 ih) l.length (Nat.le_refl _)
    rw[psum_tm,psum_add] at h2
    have e:psum (fun j=>Pt.tm ((tnth l j).K.toNat / 16 ^ (64 - (i+1))) (A j)) l.length=psum (fun j=>(Pt.tm 16 (Pt.tm ((tnth l j).K.toNat / 16 ^ (64 - i)) (A j))).add (Pt.tm (dgN (tnth l j).K (63 - i)) (A j))) l.length:=by
      refine psum_ext fun j hj=> ?_
      show Pt.tm _ _=_
      rw[← Pt.tm_mul,← Pt.tm_add]
      congr 1
      unfold dgN
      rw[show 64 - (i+1)=63 - i by omega,show 64 - i=(63 - i)+1 by omega,Nat.pow_succ,← Nat.div_div_eq_div_mul]
      omega
    rw[e]
    exact h2
theorem rep_tog {l:List Tm} {A:Nat→Pt} (hA:∀ k,k<l.length→RepP (decI (tnth l k).P) (A k)) (ho:∀ t ∈ l,OkT t):RepP (togS l (rows l) 64) (psum (fun j=>Pt.tm (tnth l j).K.toNat (A j)) l.length):=by
  have:=rep_togS hA ho 64 (by omega)
  rwa[psum_ext (g:=fun j=>Pt.tm (tnth l j).K.toNat (A j)) (fun j hj=>by rw[Nat.sub_self,Nat.pow_zero,Nat.div_one])] at this
end
end Go.Proofs.YtdebkddhpogkgaaGreat

set_option linter.unusedSimpArgs false
set_option linter.unusedVariables false
/-! known; may any bytes be? -/
namespace Go.Proofs.YtdebkddhpogkgaaGreat
open Go.RowKit Go.Ev
def tlOk (n:Nat) (cs:Array Value):Prop:=cs=tlC (dtl n cs)∧(dtl n cs).length=n∧∀ t ∈ dtl n cs,OkT t
theorem tl_ok (l:List Tm) (ho:∀ t ∈ l,OkT t):tlOk l.length (tlC l):=by
  unfold tlOk
  rw[dtl_tl l ho]
  exact⟨rfl,rfl,ho⟩
theorem okT {K Q:Int} (h:Ok K) (k:Ok Q):OkT ⟨K,Q⟩:=⟨h,k⟩
theorem ho1 {t:Tm} (h:OkT t):∀ x ∈ [t],OkT x:=fun x hx=>by rw[List.mem_singleton.1 hx];exact h
theorem tl_ok1 {t:Tm} (h:OkT t):tlOk 1 (tlC [t]):=tl_ok [t] (ho1 h)
theorem dtl1 {t:Tm} (h:OkT t):dtl 1 (tlC [t])= [t]:=dtl_tl [t] (ho1 h)
def pSum : Entry Tryz.prog where
  f:=28
  g := fun mem xs => match xs with
    | [.slice (some ⟨i, o, none⟩) n c] => (match mem[i]? with
      |some (cs,t)=>if o=0 then some (.tuple #[.agg (byC (smP (dtl n cs))),.int .i64 (smE (dtl n cs))],t=41∧tlOk n cs) else none
      |none=>none)
    |_=>none
  ok := fun mem xs v c e hc w β hw => by
    split at e
    · rename_i i o n c0
      split at e
      · rename_i cs t hm
        split at e
        · rename_i h0
          subst h0
          simp only[Option.some.injEq,Prod.mk.injEq] at e
          obtain⟨rfl,rfl⟩:=e
          obtain⟨rfl,e1,e2,ho⟩:=hc
          have:=Sum_c (dtl n cs) c0 ho
          rw[e2,← e1] at this
          exact reads1 this hm hw
        · cases e
      · cases e
    · cases e
  call:=call_of Tryz.func28 (by kernel_rfl) (by kernel_rfl)
theorem ok_smP (l:List Tm):Ok (smP l):=by
  unfold smP
  split
  · exact ok_0
  · split
    · exact ok_encI _
    · exact ok_0
theorem w64_okI {n:Int} (h:w64 n):Ok n:=⟨h.1,by have:=h.2;omega⟩
def aof_h (i:Nat):Hn:=⟨0,[],[],[],[]⟩
theorem aof_0 (n:Int):evF (yty.en tab26) aof_h Tryz.f12 [.int .u64 n] []=some (.agg (byC n),(((True∧True)∧(IntKind.u64=IntKind.u64∧w64 n))∧((byC n).all (fun v=>v.oneCell')=true))):=by kernel_rfl
def aof_F (n:Int):Value:= .agg (byC n)
set_option maxHeartbeats 4000000 in
theorem aof_p (n:Int) (hn:w64 n):Pure Tryz.prog 12 #[.int .u64 n] (aof_F n):=by
  unfold aof_F
  exact pure_of mixed Tryz.func12 _ (aof_0 n) rfl ⟨⟨⟨trivial,trivial⟩,⟨rfl,hn⟩⟩,byK_one _ _⟩
theorem AOf_c (n:Int) (h:w64 n):Pure Tryz.prog 12 #[.int .u64 n] (.agg (byC n)):=aof_p n h
def pAOf:Entry Tryz.prog:=entN Tryz.func12 (by kernel_rfl) (by kernel_rfl) (fun n=> .agg (byC n)) w64 (k:= .u64) AOf_c
def aba_h (i:Nat):Hn:=⟨0,[],[],[],[]⟩
theorem aba_0:evF (yty.en tab26) aba_h Tryz.f29 [] []=some (.agg (byC (encI (dp (ptC (ofP bxN byN))))),(((True∧True)∧ptD.is (ptC (ofP bxN byN)))∧((byC (encI (dp (ptC (ofP bxN byN))))).all (fun v=>v.oneCell')=true))):=by kernel_rfl
def aba_F:Value:= .agg (byC (encI (dp (ptC (ofP bxN byN)))))
set_option maxHeartbeats 4000000 in
theorem aba_p:Pure Tryz.prog 29 #[] (aba_F):=by
  unfold aba_F
  exact pure_of mixed Tryz.func29 _ (aba_0) rfl ⟨⟨⟨trivial,trivial⟩,(ptD.is_enc (ok4_base))⟩,byK_one _ _⟩
def aba_R:Int:=encI ((ofP bxN byN))
def aba_S:Value:= .agg (byC (aba_R))
theorem aba_e:aba_F=aba_S:=by
  unfold aba_F aba_S aba_R
  try simp only[nm_mod,nn_mod,nm_inv,nn_inv,nm_d,nn_d,nm_1,nn_1,nm_root,nn_quo,dp_ptC _ ok4_base]
theorem ABase_c:Pure Tryz.prog 29 #[] (.agg (byC eBN)):=by
  have h:=aba_p
  rw[aba_e] at h
  have e:aba_S= .agg (byC eBN):=by
    unfold aba_S aba_R
    rw[encI_base]
  rwa[e] at h
def pABase:Entry Tryz.prog:=ent0 Tryz.func29 (by kernel_rfl) (by kernel_rfl) (.agg (byC eBN)) ABase_c
def aid_h (i:Nat):Hn:=⟨0,[],[],[],[]⟩
theorem aid_0:evF (yty.en tab26) aid_h Tryz.f31 [] []=some (.agg (byC 0),((True∧True)∧((byC 0).all (fun v=>v.oneCell')=true))):=by kernel_rfl
def aid_F:Value:= .agg (byC 0)
set_option maxHeartbeats 4000000 in
theorem aid_p:Pure Tryz.prog 31 #[] (aid_F):=by
  unfold aid_F
  exact pure_of mixed Tryz.func31 _ (aid_0) rfl ⟨⟨trivial,trivial⟩,byK_one _ _⟩
theorem AId_c:Pure Tryz.prog 31 #[] (.agg (byC 0)):=aid_p
def pAId:Entry Tryz.prog:=ent0 Tryz.func31 (by kernel_rfl) (by kernel_rfl) (.agg (byC 0)) AId_c
theorem eB_ok:Ok eBN:=⟨by decide,by decide⟩
theorem eB_val:((fp eBN).val:Int)=eBN:=by
  rw[fp_val];decide
def rbq_h (i:Nat):Hn:=⟨0,[],[],[],[]⟩
theorem rbq_0:evF (yty.en tab26) rbq_h Tryz.f30 [] []=some (.agg (byC (rencI (dr (rpC rbP)))),(((True∧True)∧rpD.is (rpC rbP))∧((byC (rencI (dr (rpC rbP)))).all (fun v=>v.oneCell')=true))):=by kernel_rfl
def rbq_F:Value:= .agg (byC (rencI (dr (rpC rbP))))
set_option maxHeartbeats 4000000 in
theorem rbq_p:Pure Tryz.prog 30 #[] (rbq_F):=by
  unfold rbq_F
  exact pure_of mixed Tryz.func30 _ (rbq_0) rfl ⟨⟨⟨trivial,trivial⟩,(rpD.is_enc (nu3_rb))⟩,byK_one _ _⟩
def rbq_R:Int:=rencI (rbP)
def rbq_S:Value:= .agg (byC (rbq_R))
theorem rbq_e:rbq_F=rbq_S:=by
  unfold rbq_F rbq_S rbq_R
  try simp only[nm_mod,nn_mod,nm_inv,nn_inv,nm_d,nn_d,nm_1,nn_1,nm_root,nn_quo,dr_rpC _ nu3_rb]
theorem RABase_c:Pure Tryz.prog 30 #[] (.agg (byC eBN)):=by
  have h:=rbq_p
  rw[rbq_e] at h
  have e:rbq_S= .agg (byC eBN):=by
    unfold rbq_S rbq_R
    rw[renc_rep repn_base,enc_base,eB_val]
  rwa[e] at h
def qABase:Entry Tryz.prog:=ent0 Tryz.func30 (by kernel_rfl) (by kernel_rfl) (.agg (byC eBN)) RABase_c
theorem chk_good {l:List Tm} (h:∀ t ∈ l,bad t=0):chk l=0:=chk_all fun i hi=>h _ (List.mem_of_getElem? (tnth_at hi))
theorem sum1 {t:Tm} (ht:OkT t) (hb:bad t=0) {a:Pt} (ha:RepP (decI t.P) a):smE [t]=0∧smP [t]=((enc (Pt.tm t.K.toNat a)).val:Int):=by
  have hc:chk [t]=0:=chk_good (fun x hx=>by rw[List.mem_singleton.1 hx];exact hb)
  have hl:¬ 64< [t].length:=by simp
  refine⟨(if_neg hl).trans hc,?_⟩
  have e:smP [t]=encI (togS [t] (rows [t]) 64):=by
    unfold smP
    rw[if_neg hl,if_pos hc]
  have R:=rep_tog (l:= [t]) (A:=fun _=>a) (fun k hk=>by
    have:k=0:=by simpa using hk
    subst this
    exact ha) (ho1 ht)
  rw[e,enc_repP R]
  have e2:psum (fun j=>Pt.tm (tnth [t] j).K.toNat a) [t].length=Pt.tm t.K.toNat a:=by
    show psum _ (0+1)=_
    rw[psum_s,psum_0,Pt.zero_add];rfl
  rw[e2]
theorem base_dec:decB eBN=true∧RepP (decI eBN) (can base):=by
  have h1:=decB_enc evn_base
  have h2:=dec_enc_rep evn_base
  rw[enc_base,eB_val] at h1 h2
  exact⟨h1,h2⟩
theorem el_big:(1:Int)<el:=by decide
def tB1:Tm:=⟨1,eBN⟩
theorem okT_B1:OkT tB1:=⟨⟨by decide,by decide⟩,eB_ok⟩
theorem sum_B1:smE [tB1]=0∧smP [tB1]=eBN:=by
  have hb:bad tB1=0:=bad_0 (decide_eq_true el_big) base_dec.1
  obtain⟨h1,h2⟩:=sum1 okT_B1 hb base_dec.2
  refine⟨h1,?_⟩
  rw[h2,show tB1.K.toNat=1 from rfl,Pt.tm_one,enc_cos evn_base (can_cos base),enc_base,eB_val]
def tab27:List (Entry Tryz.prog):=pSum :: pAOf :: pABase :: pAId :: qABase :: tab26
theorem db_smP (l:List Tm):db (byC (smP l))=smP l:=db_byC _ (ok_smP l)
def kn5_h (i:Nat):Hn:=if i=2 then⟨18,[],[],[],[]⟩ else⟨0,[],[],[],[]⟩
theorem kn5_0:evF (yty.en tab27) kn5_h Tryz.f14 [] [some (.bool true),some (.bool true),some (.bool true),some (.bool true)]=some (.bool true,((((((((((((((((((((((((((((True∧True)∧(IntKind.u64=IntKind.u64∧w64 1))∧True)∧True)∧(41=41∧tlOk 1 (tlC [(⟨1,eBN⟩:Tm)])))∧True)∧True)∧True)∧((byC (smP (dtl 1 (tlC [(⟨1,eBN⟩:Tm)])))).all (fun v=>v.oneCell')=true))∧True)∧True)∧(True∧(decide ((smE (dtl 1 (tlC [(⟨1,eBN⟩:Tm)])))=0))=true))∧True)∧True)∧True)∧((byD.is (byC (smP (dtl 1 (tlC [(⟨1,eBN⟩:Tm)]))))∧byD.is (byC eBN))∧(decide (db (byC (smP (dtl 1 (tlC [(⟨1,eBN⟩:Tm)]))))=db (byC eBN)))=true))∧True)∧True)∧True)∧True)∧((byD.is (byC (smP (dtl 1 (tlC [(⟨1,eBN⟩:Tm)]))))∧byD.is (byC 0))∧(!(decide (db (byC (smP (dtl 1 (tlC [(⟨1,eBN⟩:Tm)]))))=db (byC 0))))=true))∧True)∧True)∧True)∧True)∧((byD.is (byC 0)∧byD.is (byC 0))∧(decide (db (byC 0)=db (byC 0)))=true))∧True)∧True)):=by kernel_rfl
set_option maxHeartbeats 4000000 in
theorem kn5_p   (h0:(decide ((smE (dtl 1 (tlC [(⟨1,eBN⟩:Tm)])))=0))=true) (h1:(decide ((smP (dtl 1 (tlC [(⟨1,eBN⟩:Tm)])))=eBN))=true) (h2:(!(decide ((smP (dtl 1 (tlC [(⟨1,eBN⟩:Tm)])))=0)))=true) (h3:(decide (0=0))=true):Pure Tryz.prog 14 #[] (.bool true):=by
  have h1:(decide (db (byC (smP (dtl 1 (tlC [(⟨1,eBN⟩:Tm)]))))=db (byC eBN)))=true:=by
    simp only[nm_mod,nn_mod,nm_inv,nn_inv,nm_d,nn_d,nm_1,nn_1,nm_root,nn_quo,db_smP]
    first|exact h1|simp
  have h2:(!(decide (db (byC (smP (dtl 1 (tlC [(⟨1,eBN⟩:Tm)]))))=db (byC 0))))=true:=by
    simp only[nm_mod,nn_mod,nm_inv,nn_inv,nm_d,nn_d,nm_1,nn_1,nm_root,nn_quo,db_smP]
    first|exact h2|simp
  have h3:(decide (db (byC 0)=db (byC 0)))=true:=by
    simp only[nm_mod,nn_mod,nm_inv,nn_inv,nm_d,nn_d,nm_1,nn_1,nm_root,nn_quo,db_smP]
    first|exact h3|simp
  exact pure_of mixed Tryz.func14 _ (kn5_0) rfl ⟨⟨⟨⟨⟨⟨⟨⟨⟨⟨⟨⟨⟨⟨⟨⟨⟨⟨⟨⟨⟨⟨⟨⟨⟨⟨⟨⟨trivial,trivial⟩,⟨rfl,⟨by decide,by decide⟩⟩⟩,trivial⟩,trivial⟩,⟨rfl,tl_ok1 (okT ((show Ok 1 from⟨by decide,by decide⟩)) (eB_ok))⟩⟩,trivial⟩,trivial⟩,trivial⟩,byK_one _ _⟩,trivial⟩,trivial⟩,⟨trivial,h0⟩⟩,trivial⟩,trivial⟩,trivial⟩,⟨⟨(byD.is_enc (ok_smP _)),(byD.is_enc (eB_ok))⟩,h1⟩⟩,trivial⟩,trivial⟩,trivial⟩,trivial⟩,⟨⟨(byD.is_enc (ok_smP _)),(byD.is_enc (ok_0))⟩,h2⟩⟩,trivial⟩,trivial⟩,trivial⟩,trivial⟩,⟨⟨(byD.is_enc (ok_0)),(byD.is_enc (ok_0))⟩,h3⟩⟩,trivial⟩,trivial⟩
theorem Known5_c:Pure Tryz.prog 14 #[] (.bool true):=by
  have e:dtl 1 (tlC [(⟨1,eBN⟩:Tm)])= [tB1]:=dtl1 okT_B1
  refine kn5_p ?_ ?_ ?_ ?_
  all_goals(try rw[e])
  · rw[sum_B1.1];rfl
  · rw[sum_B1.2];exact decide_eq_true rfl
  · rw[sum_B1.2];decide
  · rfl
def pKn5:Entry Tryz.prog:=ent0 Tryz.func14 (by kernel_rfl) (by kernel_rfl) (.bool true) Known5_c
def tab28:List (Entry Tryz.prog):=pKn5 :: tab27
end Go.Proofs.YtdebkddhpogkgaaGreat

set_option linter.unusedSimpArgs false
set_option linter.unusedVariables false
/-! The scalar, and the point, of 64 bytes. -/
namespace Go.Proofs.YtdebkddhpogkgaaGreat
open Go.RowKit Go.Ev
theorem el_pos:0<el:=by decide
theorem ok_el (n:Int):Ok (n%el):=by
  have h1:=Int.emod_nonneg n (show el≠0 by decide)
  have h2:=Int.emod_lt_of_pos n el_pos
  have h3:el<115792089237316195423570985008687907853269984665640564039457584007913129639936:=by decide
  exact⟨h1,by omega⟩
def tab29:List (Entry Tryz.prog):=tab28
def tab30:List (Entry Tryz.prog):=tab29
end Go.Proofs.YtdebkddhpogkgaaGreat

set_option linter.unusedSimpArgs false
set_option linter.unusedVariables false
/-! Scalars and points together. -/
namespace Go.Proofs.YtdebkddhpogkgaaGreat
open Go.RowKit Go.Ev
theorem ok_invE (A:Int):Ok (invE A):=ok_el _
theorem Inverse_p (A:Int) (hA:Ok A):Pure Tryz.prog 20 #[.agg (byC A)] (.agg (byC (invE A))):=fun w=>by
  rw[by_arr,by_arr (invE A)];exact Inverse_c A hA w
theorem STimes_p (A B:Int) (hA:Ok A) (hB:Ok B):Pure Tryz.prog 18 #[.agg (byC A),.agg (byC B)] (.agg (byC (A*B%el))):=fun w=>by
  rw[by_arr,by_arr B,by_arr (A*B%el)];exact Times_c A B hA hB w
theorem SPlus_p (A B:Int) (hA:Ok A) (hB:Ok B):Pure Tryz.prog 16 #[.agg (byC A),.agg (byC B)] (.agg (byC ((A+B)%el))):=fun w=>by
  rw[by_arr,by_arr B,by_arr ((A+B)%el)];exact Plus_c A B hA hB w
theorem SMinus_p (A B:Int) (hA:Ok A) (hB:Ok B):Pure Tryz.prog 17 #[.agg (byC A),.agg (byC B)] (.agg (byC ((A - B)%el))):=fun w=>by
  rw[by_arr,by_arr B,by_arr ((A - B)%el)];exact Minus_c A B hA hB w
def pInv5:Entry Tryz.prog:=ent1 Tryz.func20 (by kernel_rfl) (by kernel_rfl) byD (fun A:Int=> .agg (byC (invE A))) Inverse_p
def pTim5:Entry Tryz.prog:=ent2 Tryz.func18 (by kernel_rfl) (by kernel_rfl) byD byD (fun A B:Int=> .agg (byC (A*B%el))) STimes_p
def pPlu5:Entry Tryz.prog:=ent2 Tryz.func16 (by kernel_rfl) (by kernel_rfl) byD byD (fun A B:Int=> .agg (byC ((A+B)%el))) SPlus_p
def pMin5:Entry Tryz.prog:=ent2 Tryz.func17 (by kernel_rfl) (by kernel_rfl) byD byD (fun A B:Int=> .agg (byC ((A - B)%el))) SMinus_p
def tab31:List (Entry Tryz.prog):=pInv5 :: pTim5 :: pPlu5 :: pMin5 :: tab30
def aiv_h (i:Nat):Hn:=if i=1 then⟨8,[],[],[],[]⟩ else⟨0,[],[],[],[]⟩
theorem aiv_0 (K:Int):evF (yty.en tab31) aiv_h Tryz.f7 [.agg (byC K)] [some (.bool true),some (.bool true)]=some (.tuple #[.agg (byC 0),.int .i64 50],((((((((((((True∧True)∧True)∧(byD.is (byC K)∧(decide (db (byC K)<el))=true))∧True)∧True)∧True)∧(IntKind.u64=IntKind.u64∧w64 0))∧((byD.is (byC K)∧byD.is (byC 0))∧(decide (db (byC K)=db (byC 0)))=true))∧True)∧True)∧((byC 0).all (fun v=>v.oneCell')=true))∧True)):=by kernel_rfl
theorem aiv_1 (K:Int):evF (yty.en tab31) aiv_h Tryz.f7 [.agg (byC K)] [some (.bool true),some (.bool false)]=some (.tuple #[.agg (byC (invE (db (byC K)))),.int .i64 0],(((((((((((((True∧True)∧True)∧(byD.is (byC K)∧(decide (db (byC K)<el))=true))∧True)∧True)∧True)∧(IntKind.u64=IntKind.u64∧w64 0))∧((byD.is (byC K)∧byD.is (byC 0))∧(decide (db (byC K)=db (byC 0)))=false))∧True)∧True)∧byD.is (byC K))∧((byC (invE (db (byC K)))).all (fun v=>v.oneCell')=true))∧True)):=by kernel_rfl
theorem aiv_2 (K:Int):evF (yty.en tab31) aiv_h Tryz.f7 [.agg (byC K)] [some (.bool false)]=some (.tuple #[.agg (byC 0),.int .i64 50],(((((((((True∧True)∧True)∧(byD.is (byC K)∧(decide (db (byC K)<el))=false))∧True)∧True)∧True)∧True)∧((byC 0).all (fun v=>v.oneCell')=true))∧True)):=by kernel_rfl
def aiv_F (K:Int):Value:=cond (decide (db (byC K)<el)) (cond (decide (db (byC K)=db (byC 0))) (.tuple #[.agg (byC 0),.int .i64 50]) (.tuple #[.agg (byC (invE (db (byC K)))),.int .i64 0])) (.tuple #[.agg (byC 0),.int .i64 50])
set_option maxHeartbeats 4000000 in
theorem aiv_p (K:Int) (hK:Ok K):Pure Tryz.prog 7 #[.agg (byC K)] (aiv_F K):=by
  unfold aiv_F
  cases h0:(decide (db (byC K)<el))
  · skip
    exact pure_of mixed Tryz.func7 _ (aiv_2 K) rfl ⟨⟨⟨⟨⟨⟨⟨⟨⟨trivial,trivial⟩,trivial⟩,⟨(byD.is_enc (hK)),h0⟩⟩,trivial⟩,trivial⟩,trivial⟩,trivial⟩,byK_one _ _⟩,trivial⟩
  · skip
    cases h1:(decide (db (byC K)=db (byC 0)))
    · skip
      exact pure_of mixed Tryz.func7 _ (aiv_1 K) rfl ⟨⟨⟨⟨⟨⟨⟨⟨⟨⟨⟨⟨⟨trivial,trivial⟩,trivial⟩,⟨(byD.is_enc (hK)),h0⟩⟩,trivial⟩,trivial⟩,trivial⟩,⟨rfl,⟨by decide,by decide⟩⟩⟩,⟨⟨(byD.is_enc (hK)),(byD.is_enc (show Ok 0 from⟨by decide,by decide⟩))⟩,h1⟩⟩,trivial⟩,trivial⟩,(byD.is_enc (hK))⟩,byK_one _ _⟩,trivial⟩
    · skip
      exact pure_of mixed Tryz.func7 _ (aiv_0 K) rfl ⟨⟨⟨⟨⟨⟨⟨⟨⟨⟨⟨⟨trivial,trivial⟩,trivial⟩,⟨(byD.is_enc (hK)),h0⟩⟩,trivial⟩,trivial⟩,trivial⟩,⟨rfl,⟨by decide,by decide⟩⟩⟩,⟨⟨(byD.is_enc (hK)),(byD.is_enc (show Ok 0 from⟨by decide,by decide⟩))⟩,h1⟩⟩,trivial⟩,trivial⟩,byK_one _ _⟩,trivial⟩
def aiv_S (K:Int):Value:=cond (decide (K<el)) (cond (decide (K=0)) (.tuple #[.agg (byC 0),.int .i64 50]) (.tuple #[.agg (byC (invE (K))),.int .i64 0])) (.tuple #[.agg (byC 0),.int .i64 50])
theorem aiv_e (K:Int) (hK:Ok K):aiv_F K=aiv_S K:=by
  unfold aiv_F aiv_S
  try simp only[nm_mod,nn_mod,nm_inv,nn_inv,nm_d,nn_d,nm_1,nn_1,nm_root,nn_quo,db_byC _ hK,db_byC _ ok_0]
def ars_h (i:Nat):Hn:=⟨0,[],[],[],[]⟩
theorem ars_0 (A B:Int):evF (yty.en tab31) ars_h Tryz.f15 [.agg (byC A),.agg (byC B)] [some (.bool true)]=some (.bool (decide (db (byC B)<el)),((((((((True∧True)∧True)∧(byD.is (byC A)∧(decide (db (byC A)<el))=true))∧True)∧True)∧byD.is (byC B))∧True)∧True)):=by kernel_rfl
theorem ars_1 (A B:Int):evF (yty.en tab31) ars_h Tryz.f15 [.agg (byC A),.agg (byC B)] [some (.bool false)]=some (.bool false,((((((True∧True)∧True)∧(byD.is (byC A)∧(decide (db (byC A)<el))=false))∧True)∧True)∧True)):=by kernel_rfl
def ars_F (A B:Int):Value:=cond (decide (db (byC A)<el)) (.bool (decide (db (byC B)<el))) (.bool false)
set_option maxHeartbeats 4000000 in
theorem ars_p (A B:Int) (hA:Ok A) (hB:Ok B):Pure Tryz.prog 15 #[.agg (byC A),.agg (byC B)] (ars_F A B):=by
  unfold ars_F
  cases h0:(decide (db (byC A)<el))
  · skip
    exact pure_of mixed Tryz.func15 _ (ars_1 A B) rfl ⟨⟨⟨⟨⟨⟨trivial,trivial⟩,trivial⟩,⟨(byD.is_enc (hA)),h0⟩⟩,trivial⟩,trivial⟩,trivial⟩
  · skip
    exact pure_of mixed Tryz.func15 _ (ars_0 A B) rfl ⟨⟨⟨⟨⟨⟨⟨⟨trivial,trivial⟩,trivial⟩,⟨(byD.is_enc (hA)),h0⟩⟩,trivial⟩,trivial⟩,(byD.is_enc (hB))⟩,trivial⟩,trivial⟩
def ars_S (A B:Int):Value:=cond (decide (A<el)) (.bool (decide (B<el))) (.bool false)
theorem ars_e (A B:Int) (hA:Ok A) (hB:Ok B):ars_F A B=ars_S A B:=by
  unfold ars_F ars_S
  try simp only[nm_mod,nn_mod,nm_inv,nn_inv,nm_d,nn_d,nm_1,nn_1,nm_root,nn_quo,db_byC _ hA,db_byC _ hB]
def scB (A B:Int):Bool:=cond (decide (A<el)) (decide (B<el)) false
theorem Are_c (A B:Int) (hA:Ok A) (hB:Ok B):Pure Tryz.prog 15 #[.agg (byC A),.agg (byC B)] (.bool (scB A B)):=by
  have h:=ars_p A B hA hB
  rw[ars_e A B hA hB] at h
  have e:ars_S A B= .bool (scB A B):=by
    unfold ars_S scB
    cases decide (A<el)<;>rfl
  rwa[e] at h
def pAre:Entry Tryz.prog:=ent2 Tryz.func15 (by kernel_rfl) (by kernel_rfl) byD byD (fun A B:Int=> .bool (scB A B)) Are_c
def aInvP (K:Int):Int:=cond (decide (K<el)) (cond (decide (K=0)) 0 (invE K)) 0
def aInvE (K:Int):Int:=cond (decide (K<el)) (cond (decide (K=0)) 50 0) 50
theorem AInv_c (K:Int) (hK:Ok K):Pure Tryz.prog 7 #[.agg (byC K)] (.tuple #[.agg (byC (aInvP K)),.int .i64 (aInvE K)]):=by
  have h:=aiv_p K hK
  rw[aiv_e K hK] at h
  have e:aiv_S K= .tuple #[.agg (byC (aInvP K)),.int .i64 (aInvE K)]:=by
    unfold aiv_S aInvP aInvE
    cases decide (K<el)<;>cases decide (K=0)<;>rfl
  rwa[e] at h
def pAInv:Entry Tryz.prog:=ent1 Tryz.func7 (by kernel_rfl) (by kernel_rfl) byD (fun K:Int=> .tuple #[.agg (byC (aInvP K)),.int .i64 (aInvE K)]) AInv_c
theorem ok_aInv (K:Int):Ok (aInvP K):=by
  unfold aInvP
  cases decide (K<el) with
  |false=>exact ok_0
  | true =>
    cases decide (K=0) with
    |true=>exact ok_0
    |false=>exact ok_invE K
def tab32:List (Entry Tryz.prog):=pAre :: pAInv :: tab31
def atm_h (i:Nat):Hn:=⟨0,[],[],[],[]⟩
theorem atm_0 (A B:Int):evF (yty.en tab32) atm_h Tryz.f6 [.agg (byC A),.agg (byC B)] [some (.bool true)]=some (.tuple #[.agg (byC (db (byC A)*db (byC B)%el)),.int .i64 0],((((((((((True∧True)∧True)∧True)∧((byD.is (byC A)∧byD.is (byC B))∧(scB (db (byC A)) (db (byC B)))=true))∧True)∧True)∧True)∧(byD.is (byC A)∧byD.is (byC B)))∧((byC (db (byC A)*db (byC B)%el)).all (fun v=>v.oneCell')=true))∧True)):=by kernel_rfl
theorem atm_1 (A B:Int):evF (yty.en tab32) atm_h Tryz.f6 [.agg (byC A),.agg (byC B)] [some (.bool false)]=some (.tuple #[.agg (byC 0),.int .i64 50],((((((((True∧True)∧True)∧True)∧((byD.is (byC A)∧byD.is (byC B))∧(scB (db (byC A)) (db (byC B)))=false))∧True)∧True)∧((byC 0).all (fun v=>v.oneCell')=true))∧True)):=by kernel_rfl
def atm_F (A B:Int):Value:=cond (scB (db (byC A)) (db (byC B))) (.tuple #[.agg (byC (db (byC A)*db (byC B)%el)),.int .i64 0]) (.tuple #[.agg (byC 0),.int .i64 50])
set_option maxHeartbeats 4000000 in
theorem atm_p (A B:Int) (hA:Ok A) (hB:Ok B):Pure Tryz.prog 6 #[.agg (byC A),.agg (byC B)] (atm_F A B):=by
  unfold atm_F
  cases h0:(scB (db (byC A)) (db (byC B)))
  · skip
    exact pure_of mixed Tryz.func6 _ (atm_1 A B) rfl ⟨⟨⟨⟨⟨⟨⟨⟨trivial,trivial⟩,trivial⟩,trivial⟩,⟨⟨(byD.is_enc (hA)),(byD.is_enc (hB))⟩,h0⟩⟩,trivial⟩,trivial⟩,byK_one _ _⟩,trivial⟩
  · skip
    exact pure_of mixed Tryz.func6 _ (atm_0 A B) rfl ⟨⟨⟨⟨⟨⟨⟨⟨⟨⟨trivial,trivial⟩,trivial⟩,trivial⟩,⟨⟨(byD.is_enc (hA)),(byD.is_enc (hB))⟩,h0⟩⟩,trivial⟩,trivial⟩,trivial⟩,⟨(byD.is_enc (hA)),(byD.is_enc (hB))⟩⟩,byK_one _ _⟩,trivial⟩
def atm_S (A B:Int):Value:=cond (scB (A) (B)) (.tuple #[.agg (byC (A*B%el)),.int .i64 0]) (.tuple #[.agg (byC 0),.int .i64 50])
theorem atm_e (A B:Int) (hA:Ok A) (hB:Ok B):atm_F A B=atm_S A B:=by
  unfold atm_F atm_S
  try simp only[nm_mod,nn_mod,nm_inv,nn_inv,nm_d,nn_d,nm_1,nn_1,nm_root,nn_quo,db_byC _ hA,db_byC _ hB]
def apl_h (i:Nat):Hn:=⟨0,[],[],[],[]⟩
theorem apl_0 (A B:Int):evF (yty.en tab32) apl_h Tryz.f4 [.agg (byC A),.agg (byC B)] [some (.bool true)]=some (.tuple #[.agg (byC ((db (byC A)+db (byC B))%el)),.int .i64 0],((((((((((True∧True)∧True)∧True)∧((byD.is (byC A)∧byD.is (byC B))∧(scB (db (byC A)) (db (byC B)))=true))∧True)∧True)∧True)∧(byD.is (byC A)∧byD.is (byC B)))∧((byC ((db (byC A)+db (byC B))%el)).all (fun v=>v.oneCell')=true))∧True)):=by kernel_rfl
theorem apl_1 (A B:Int):evF (yty.en tab32) apl_h Tryz.f4 [.agg (byC A),.agg (byC B)] [some (.bool false)]=some (.tuple #[.agg (byC 0),.int .i64 50],((((((((True∧True)∧True)∧True)∧((byD.is (byC A)∧byD.is (byC B))∧(scB (db (byC A)) (db (byC B)))=false))∧True)∧True)∧((byC 0).all (fun v=>v.oneCell')=true))∧True)):=by kernel_rfl
def apl_F (A B:Int):Value:=cond (scB (db (byC A)) (db (byC B))) (.tuple #[.agg (byC ((db (byC A)+db (byC B))%el)),.int .i64 0]) (.tuple #[.agg (byC 0),.int .i64 50])
set_option maxHeartbeats 4000000 in
theorem apl_p (A B:Int) (hA:Ok A) (hB:Ok B):Pure Tryz.prog 4 #[.agg (byC A),.agg (byC B)] (apl_F A B):=by
  unfold apl_F
  cases h0:(scB (db (byC A)) (db (byC B)))
  · skip
    exact pure_of mixed Tryz.func4 _ (apl_1 A B) rfl ⟨⟨⟨⟨⟨⟨⟨⟨trivial,trivial⟩,trivial⟩,trivial⟩,⟨⟨(byD.is_enc (hA)),(byD.is_enc (hB))⟩,h0⟩⟩,trivial⟩,trivial⟩,byK_one _ _⟩,trivial⟩
  · skip
    exact pure_of mixed Tryz.func4 _ (apl_0 A B) rfl ⟨⟨⟨⟨⟨⟨⟨⟨⟨⟨trivial,trivial⟩,trivial⟩,trivial⟩,⟨⟨(byD.is_enc (hA)),(byD.is_enc (hB))⟩,h0⟩⟩,trivial⟩,trivial⟩,trivial⟩,⟨(byD.is_enc (hA)),(byD.is_enc (hB))⟩⟩,byK_one _ _⟩,trivial⟩
def apl_S (A B:Int):Value:=cond (scB (A) (B)) (.tuple #[.agg (byC ((A+B)%el)),.int .i64 0]) (.tuple #[.agg (byC 0),.int .i64 50])
theorem apl_e (A B:Int) (hA:Ok A) (hB:Ok B):apl_F A B=apl_S A B:=by
  unfold apl_F apl_S
  try simp only[nm_mod,nn_mod,nm_inv,nn_inv,nm_d,nn_d,nm_1,nn_1,nm_root,nn_quo,db_byC _ hA,db_byC _ hB]
def ami_h (i:Nat):Hn:=⟨0,[],[],[],[]⟩
theorem ami_0 (A B:Int):evF (yty.en tab32) ami_h Tryz.f5 [.agg (byC A),.agg (byC B)] [some (.bool true)]=some (.tuple #[.agg (byC ((db (byC A) - db (byC B))%el)),.int .i64 0],((((((((((True∧True)∧True)∧True)∧((byD.is (byC A)∧byD.is (byC B))∧(scB (db (byC A)) (db (byC B)))=true))∧True)∧True)∧True)∧(byD.is (byC A)∧byD.is (byC B)))∧((byC ((db (byC A) - db (byC B))%el)).all (fun v=>v.oneCell')=true))∧True)):=by kernel_rfl
theorem ami_1 (A B:Int):evF (yty.en tab32) ami_h Tryz.f5 [.agg (byC A),.agg (byC B)] [some (.bool false)]=some (.tuple #[.agg (byC 0),.int .i64 50],((((((((True∧True)∧True)∧True)∧((byD.is (byC A)∧byD.is (byC B))∧(scB (db (byC A)) (db (byC B)))=false))∧True)∧True)∧((byC 0).all (fun v=>v.oneCell')=true))∧True)):=by kernel_rfl
def ami_F (A B:Int):Value:=cond (scB (db (byC A)) (db (byC B))) (.tuple #[.agg (byC ((db (byC A) - db (byC B))%el)),.int .i64 0]) (.tuple #[.agg (byC 0),.int .i64 50])
set_option maxHeartbeats 4000000 in
theorem ami_p (A B:Int) (hA:Ok A) (hB:Ok B):Pure Tryz.prog 5 #[.agg (byC A),.agg (byC B)] (ami_F A B):=by
  unfold ami_F
  cases h0:(scB (db (byC A)) (db (byC B)))
  · skip
    exact pure_of mixed Tryz.func5 _ (ami_1 A B) rfl ⟨⟨⟨⟨⟨⟨⟨⟨trivial,trivial⟩,trivial⟩,trivial⟩,⟨⟨(byD.is_enc (hA)),(byD.is_enc (hB))⟩,h0⟩⟩,trivial⟩,trivial⟩,byK_one _ _⟩,trivial⟩
  · skip
    exact pure_of mixed Tryz.func5 _ (ami_0 A B) rfl ⟨⟨⟨⟨⟨⟨⟨⟨⟨⟨trivial,trivial⟩,trivial⟩,trivial⟩,⟨⟨(byD.is_enc (hA)),(byD.is_enc (hB))⟩,h0⟩⟩,trivial⟩,trivial⟩,trivial⟩,⟨(byD.is_enc (hA)),(byD.is_enc (hB))⟩⟩,byK_one _ _⟩,trivial⟩
def ami_S (A B:Int):Value:=cond (scB (A) (B)) (.tuple #[.agg (byC ((A - B)%el)),.int .i64 0]) (.tuple #[.agg (byC 0),.int .i64 50])
theorem ami_e (A B:Int) (hA:Ok A) (hB:Ok B):ami_F A B=ami_S A B:=by
  unfold ami_F ami_S
  try simp only[nm_mod,nn_mod,nm_inv,nn_inv,nm_d,nn_d,nm_1,nn_1,nm_root,nn_quo,db_byC _ hA,db_byC _ hB]
def scV (A B n:Int):Int:=cond (scB A B) (n%el) 0
def scE (A B:Int):Int:=cond (scB A B) 0 50
theorem ok_scV (A B n:Int):Ok (scV A B n):=by
  unfold scV
  cases scB A B with
  |true=>exact ok_el n
  |false=>exact ok_0
theorem ATim_c (A B:Int) (hA:Ok A) (hB:Ok B):Pure Tryz.prog 6 #[.agg (byC A),.agg (byC B)] (.tuple #[.agg (byC (scV A B (A*B))),.int .i64 (scE A B)]):=by
  have h:=atm_p A B hA hB
  rw[atm_e A B hA hB] at h
  have e:atm_S A B= .tuple #[.agg (byC (scV A B (A*B))),.int .i64 (scE A B)]:=by
    unfold atm_S scV scE
    cases scB A B<;>rfl
  rwa[e] at h
theorem APlu_c (A B:Int) (hA:Ok A) (hB:Ok B):Pure Tryz.prog 4 #[.agg (byC A),.agg (byC B)] (.tuple #[.agg (byC (scV A B (A+B))),.int .i64 (scE A B)]):=by
  have h:=apl_p A B hA hB
  rw[apl_e A B hA hB] at h
  have e:apl_S A B= .tuple #[.agg (byC (scV A B (A+B))),.int .i64 (scE A B)]:=by
    unfold apl_S scV scE
    cases scB A B<;>rfl
  rwa[e] at h
theorem AMin_c (A B:Int) (hA:Ok A) (hB:Ok B):Pure Tryz.prog 5 #[.agg (byC A),.agg (byC B)] (.tuple #[.agg (byC (scV A B (A - B))),.int .i64 (scE A B)]):=by
  have h:=ami_p A B hA hB
  rw[ami_e A B hA hB] at h
  have e:ami_S A B= .tuple #[.agg (byC (scV A B (A - B))),.int .i64 (scE A B)]:=by
    unfold ami_S scV scE
    cases scB A B<;>rfl
  rwa[e] at h
def pATim:Entry Tryz.prog:=ent2 Tryz.func6 (by kernel_rfl) (by kernel_rfl) byD byD (fun A B:Int=> .tuple #[.agg (byC (scV A B (A*B))),.int .i64 (scE A B)]) ATim_c
def pAPlu:Entry Tryz.prog:=ent2 Tryz.func4 (by kernel_rfl) (by kernel_rfl) byD byD (fun A B:Int=> .tuple #[.agg (byC (scV A B (A+B))),.int .i64 (scE A B)]) APlu_c
def pAMin:Entry Tryz.prog:=ent2 Tryz.func5 (by kernel_rfl) (by kernel_rfl) byD byD (fun A B:Int=> .tuple #[.agg (byC (scV A B (A - B))),.int .i64 (scE A B)]) AMin_c
def tab33:List (Entry Tryz.prog):=pATim :: pAPlu :: pAMin :: tab32
end Go.Proofs.YtdebkddhpogkgaaGreat

set_option linter.unusedSimpArgs false
set_option linter.unusedVariables false
/-! Scalars: the program's and the document's. -/
namespace Go.Proofs.YtdebkddhpogkgaaGreat
open Go.RowKit Go.Ev
theorem RInverse_p (A:Int) (hA:Ok A):Pure Tryz.prog 26 #[.agg (byC A)] (.agg (byC (invE A))):=fun w=>by
  rw[by_arr,by_arr (invE A)];exact RInverse_c A hA w
theorem RTimes_p (A B:Int) (hA:Ok A) (hB:Ok B):Pure Tryz.prog 24 #[.agg (byC A),.agg (byC B)] (.agg (byC (A*B%el))):=fun w=>by
  rw[by_arr,by_arr B,by_arr (A*B%el)];exact RTimes_c A B hA hB w
theorem RPlus_p (A B:Int) (hA:Ok A) (hB:Ok B):Pure Tryz.prog 22 #[.agg (byC A),.agg (byC B)] (.agg (byC ((A+B)%el))):=fun w=>by
  rw[by_arr,by_arr B,by_arr ((A+B)%el)];exact RPlus_c A B hA hB w
theorem RMinus_p (A B:Int) (hA:Ok A) (hB:Ok B):Pure Tryz.prog 23 #[.agg (byC A),.agg (byC B)] (.agg (byC ((A - B)%el))):=fun w=>by
  rw[by_arr,by_arr B,by_arr ((A - B)%el)];exact RMinus_c A B hA hB w
def qInv5:Entry Tryz.prog:=ent1 Tryz.func26 (by kernel_rfl) (by kernel_rfl) byD (fun A:Int=> .agg (byC (invE A))) RInverse_p
def qTim5:Entry Tryz.prog:=ent2 Tryz.func24 (by kernel_rfl) (by kernel_rfl) byD byD (fun A B:Int=> .agg (byC (A*B%el))) RTimes_p
def qPlu5:Entry Tryz.prog:=ent2 Tryz.func22 (by kernel_rfl) (by kernel_rfl) byD byD (fun A B:Int=> .agg (byC ((A+B)%el))) RPlus_p
def qMin5:Entry Tryz.prog:=ent2 Tryz.func23 (by kernel_rfl) (by kernel_rfl) byD byD (fun A B:Int=> .agg (byC ((A - B)%el))) RMinus_p
def qSOf:Entry Tryz.prog:=entN Tryz.func25 (by kernel_rfl) (by kernel_rfl) (fun n=> .agg (byC n)) w64 (k:= .u64) (fun n h w=>by rw[by_arr];exact ROf2_c n h.1 h.2 w)
def tab34:List (Entry Tryz.prog):=qInv5 :: qTim5 :: qPlu5 :: qMin5 :: qSOf :: tab33
def r5o_h (i:Nat):Hn:=⟨0,[],[],[],[]⟩
theorem r5o_0 (n:Int):evF (yty.en tab34) r5o_h Tryz.f13 [.int .u64 n] []=some (.agg (byC n),(((True∧True)∧(IntKind.u64=IntKind.u64∧w64 n))∧((byC n).all (fun v=>v.oneCell')=true))):=by kernel_rfl
def r5o_F (n:Int):Value:= .agg (byC n)
set_option maxHeartbeats 4000000 in
theorem r5o_p (n:Int) (hn:w64 n):Pure Tryz.prog 13 #[.int .u64 n] (r5o_F n):=by
  unfold r5o_F
  exact pure_of mixed Tryz.func13 _ (r5o_0 n) rfl ⟨⟨⟨trivial,trivial⟩,⟨rfl,hn⟩⟩,byK_one _ _⟩
theorem RAOf_c (n:Int) (h:w64 n):Pure Tryz.prog 13 #[.int .u64 n] (.agg (byC n)):=r5o_p n h
def qAOf:Entry Tryz.prog:=entN Tryz.func13 (by kernel_rfl) (by kernel_rfl) (fun n=> .agg (byC n)) w64 (k:= .u64) RAOf_c
def r5i_h (i:Nat):Hn:=if i=1 then⟨8,[],[],[],[]⟩ else⟨0,[],[],[],[]⟩
theorem r5i_0 (K:Int):evF (yty.en tab34) r5i_h Tryz.f11 [.agg (byC K)] [some (.bool true),some (.bool true)]=some (.tuple #[.agg (byC 0),.int .i64 50],((((((((((((True∧True)∧True)∧(byD.is (byC K)∧(decide (db (byC K)<el))=true))∧True)∧True)∧True)∧(IntKind.u64=IntKind.u64∧w64 0))∧((byD.is (byC K)∧byD.is (byC 0))∧(decide (db (byC K)=db (byC 0)))=true))∧True)∧True)∧((byC 0).all (fun v=>v.oneCell')=true))∧True)):=by kernel_rfl
theorem r5i_1 (K:Int):evF (yty.en tab34) r5i_h Tryz.f11 [.agg (byC K)] [some (.bool true),some (.bool false)]=some (.tuple #[.agg (byC (invE (db (byC K)))),.int .i64 0],(((((((((((((True∧True)∧True)∧(byD.is (byC K)∧(decide (db (byC K)<el))=true))∧True)∧True)∧True)∧(IntKind.u64=IntKind.u64∧w64 0))∧((byD.is (byC K)∧byD.is (byC 0))∧(decide (db (byC K)=db (byC 0)))=false))∧True)∧True)∧byD.is (byC K))∧((byC (invE (db (byC K)))).all (fun v=>v.oneCell')=true))∧True)):=by kernel_rfl
theorem r5i_2 (K:Int):evF (yty.en tab34) r5i_h Tryz.f11 [.agg (byC K)] [some (.bool false)]=some (.tuple #[.agg (byC 0),.int .i64 50],(((((((((True∧True)∧True)∧(byD.is (byC K)∧(decide (db (byC K)<el))=false))∧True)∧True)∧True)∧True)∧((byC 0).all (fun v=>v.oneCell')=true))∧True)):=by kernel_rfl
def r5i_F (K:Int):Value:=cond (decide (db (byC K)<el)) (cond (decide (db (byC K)=db (byC 0))) (.tuple #[.agg (byC 0),.int .i64 50]) (.tuple #[.agg (byC (invE (db (byC K)))),.int .i64 0])) (.tuple #[.agg (byC 0),.int .i64 50])
set_option maxHeartbeats 4000000 in
theorem r5i_p (K:Int) (hK:Ok K):Pure Tryz.prog 11 #[.agg (byC K)] (r5i_F K):=by
  unfold r5i_F
  cases h0:(decide (db (byC K)<el))
  · skip
    exact pure_of mixed Tryz.func11 _ (r5i_2 K) rfl ⟨⟨⟨⟨⟨⟨⟨⟨⟨trivial,trivial⟩,trivial⟩,⟨(byD.is_enc (hK)),h0⟩⟩,trivial⟩,trivial⟩,trivial⟩,trivial⟩,byK_one _ _⟩,trivial⟩
  · skip
    cases h1:(decide (db (byC K)=db (byC 0)))
    · skip
      exact pure_of mixed Tryz.func11 _ (r5i_1 K) rfl ⟨⟨⟨⟨⟨⟨⟨⟨⟨⟨⟨⟨⟨trivial,trivial⟩,trivial⟩,⟨(byD.is_enc (hK)),h0⟩⟩,trivial⟩,trivial⟩,trivial⟩,⟨rfl,⟨by decide,by decide⟩⟩⟩,⟨⟨(byD.is_enc (hK)),(byD.is_enc (show Ok 0 from⟨by decide,by decide⟩))⟩,h1⟩⟩,trivial⟩,trivial⟩,(byD.is_enc (hK))⟩,byK_one _ _⟩,trivial⟩
    · skip
      exact pure_of mixed Tryz.func11 _ (r5i_0 K) rfl ⟨⟨⟨⟨⟨⟨⟨⟨⟨⟨⟨⟨trivial,trivial⟩,trivial⟩,⟨(byD.is_enc (hK)),h0⟩⟩,trivial⟩,trivial⟩,trivial⟩,⟨rfl,⟨by decide,by decide⟩⟩⟩,⟨⟨(byD.is_enc (hK)),(byD.is_enc (show Ok 0 from⟨by decide,by decide⟩))⟩,h1⟩⟩,trivial⟩,trivial⟩,byK_one _ _⟩,trivial⟩
def r5i_S (K:Int):Value:=cond (decide (K<el)) (cond (decide (K=0)) (.tuple #[.agg (byC 0),.int .i64 50]) (.tuple #[.agg (byC (invE (K))),.int .i64 0])) (.tuple #[.agg (byC 0),.int .i64 50])
theorem r5i_e (K:Int) (hK:Ok K):r5i_F K=r5i_S K:=by
  unfold r5i_F r5i_S
  try simp only[nm_mod,nn_mod,nm_inv,nn_inv,nm_d,nn_d,nm_1,nn_1,nm_root,nn_quo,db_byC _ hK,db_byC _ ok_0]
theorem RAInv_c (K:Int) (hK:Ok K):Pure Tryz.prog 11 #[.agg (byC K)] (.tuple #[.agg (byC (aInvP K)),.int .i64 (aInvE K)]):=by
  have h:=r5i_p K hK
  rw[r5i_e K hK] at h
  have e:r5i_S K= .tuple #[.agg (byC (aInvP K)),.int .i64 (aInvE K)]:=by
    unfold r5i_S aInvP aInvE
    cases decide (K<el)<;>cases decide (K=0)<;>rfl
  rwa[e] at h
def r5t_h (i:Nat):Hn:=⟨0,[],[],[],[]⟩
theorem r5t_0 (A B:Int):evF (yty.en tab34) r5t_h Tryz.f10 [.agg (byC A),.agg (byC B)] [some (.bool true),some (.bool true)]=some (.tuple #[.agg (byC (db (byC A)*db (byC B)%el)),.int .i64 0],((((((((((((((True∧True)∧True)∧(byD.is (byC A)∧(decide (db (byC A)<el))=true))∧True)∧True)∧True)∧(byD.is (byC B)∧(decide (db (byC B)<el))=true))∧True)∧True)∧True)∧True)∧(byD.is (byC A)∧byD.is (byC B)))∧((byC (db (byC A)*db (byC B)%el)).all (fun v=>v.oneCell')=true))∧True)):=by kernel_rfl
theorem r5t_1 (A B:Int):evF (yty.en tab34) r5t_h Tryz.f10 [.agg (byC A),.agg (byC B)] [some (.bool true),some (.bool false)]=some (.tuple #[.agg (byC 0),.int .i64 50],((((((((((((True∧True)∧True)∧(byD.is (byC A)∧(decide (db (byC A)<el))=true))∧True)∧True)∧True)∧(byD.is (byC B)∧(decide (db (byC B)<el))=false))∧True)∧True)∧True)∧((byC 0).all (fun v=>v.oneCell')=true))∧True)):=by kernel_rfl
theorem r5t_2 (A B:Int):evF (yty.en tab34) r5t_h Tryz.f10 [.agg (byC A),.agg (byC B)] [some (.bool false)]=some (.tuple #[.agg (byC 0),.int .i64 50],(((((((((True∧True)∧True)∧(byD.is (byC A)∧(decide (db (byC A)<el))=false))∧True)∧True)∧True)∧True)∧((byC 0).all (fun v=>v.oneCell')=true))∧True)):=by kernel_rfl
def r5t_F (A B:Int):Value:=cond (decide (db (byC A)<el)) (cond (decide (db (byC B)<el)) (.tuple #[.agg (byC (db (byC A)*db (byC B)%el)),.int .i64 0]) (.tuple #[.agg (byC 0),.int .i64 50])) (.tuple #[.agg (byC 0),.int .i64 50])
set_option maxHeartbeats 4000000 in
theorem r5t_p (A B:Int) (hA:Ok A) (hB:Ok B):Pure Tryz.prog 10 #[.agg (byC A),.agg (byC B)] (r5t_F A B):=by
  unfold r5t_F
  cases h0:(decide (db (byC A)<el))
  · skip
    exact pure_of mixed Tryz.func10 _ (r5t_2 A B) rfl ⟨⟨⟨⟨⟨⟨⟨⟨⟨trivial,trivial⟩,trivial⟩,⟨(byD.is_enc (hA)),h0⟩⟩,trivial⟩,trivial⟩,trivial⟩,trivial⟩,byK_one _ _⟩,trivial⟩
  · skip
    cases h1:(decide (db (byC B)<el))
    · skip
      exact pure_of mixed Tryz.func10 _ (r5t_1 A B) rfl ⟨⟨⟨⟨⟨⟨⟨⟨⟨⟨⟨⟨trivial,trivial⟩,trivial⟩,⟨(byD.is_enc (hA)),h0⟩⟩,trivial⟩,trivial⟩,trivial⟩,⟨(byD.is_enc (hB)),h1⟩⟩,trivial⟩,trivial⟩,trivial⟩,byK_one _ _⟩,trivial⟩
    · skip
      exact pure_of mixed Tryz.func10 _ (r5t_0 A B) rfl ⟨⟨⟨⟨⟨⟨⟨⟨⟨⟨⟨⟨⟨⟨trivial,trivial⟩,trivial⟩,⟨(byD.is_enc (hA)),h0⟩⟩,trivial⟩,trivial⟩,trivial⟩,⟨(byD.is_enc (hB)),h1⟩⟩,trivial⟩,trivial⟩,trivial⟩,trivial⟩,⟨(byD.is_enc (hA)),(byD.is_enc (hB))⟩⟩,byK_one _ _⟩,trivial⟩
def r5t_S (A B:Int):Value:=cond (decide (A<el)) (cond (decide (B<el)) (.tuple #[.agg (byC (A*B%el)),.int .i64 0]) (.tuple #[.agg (byC 0),.int .i64 50])) (.tuple #[.agg (byC 0),.int .i64 50])
theorem r5t_e (A B:Int) (hA:Ok A) (hB:Ok B):r5t_F A B=r5t_S A B:=by
  unfold r5t_F r5t_S
  try simp only[nm_mod,nn_mod,nm_inv,nn_inv,nm_d,nn_d,nm_1,nn_1,nm_root,nn_quo,db_byC _ hA,db_byC _ hB]
def r5p_h (i:Nat):Hn:=⟨0,[],[],[],[]⟩
theorem r5p_0 (A B:Int):evF (yty.en tab34) r5p_h Tryz.f8 [.agg (byC A),.agg (byC B)] [some (.bool true),some (.bool true)]=some (.tuple #[.agg (byC ((db (byC A)+db (byC B))%el)),.int .i64 0],((((((((((((((True∧True)∧True)∧(byD.is (byC A)∧(decide (db (byC A)<el))=true))∧True)∧True)∧True)∧(byD.is (byC B)∧(decide (db (byC B)<el))=true))∧True)∧True)∧True)∧True)∧(byD.is (byC A)∧byD.is (byC B)))∧((byC ((db (byC A)+db (byC B))%el)).all (fun v=>v.oneCell')=true))∧True)):=by kernel_rfl
theorem r5p_1 (A B:Int):evF (yty.en tab34) r5p_h Tryz.f8 [.agg (byC A),.agg (byC B)] [some (.bool true),some (.bool false)]=some (.tuple #[.agg (byC 0),.int .i64 50],((((((((((((True∧True)∧True)∧(byD.is (byC A)∧(decide (db (byC A)<el))=true))∧True)∧True)∧True)∧(byD.is (byC B)∧(decide (db (byC B)<el))=false))∧True)∧True)∧True)∧((byC 0).all (fun v=>v.oneCell')=true))∧True)):=by kernel_rfl
theorem r5p_2 (A B:Int):evF (yty.en tab34) r5p_h Tryz.f8 [.agg (byC A),.agg (byC B)] [some (.bool false)]=some (.tuple #[.agg (byC 0),.int .i64 50],(((((((((True∧True)∧True)∧(byD.is (byC A)∧(decide (db (byC A)<el))=false))∧True)∧True)∧True)∧True)∧((byC 0).all (fun v=>v.oneCell')=true))∧True)):=by kernel_rfl
def r5p_F (A B:Int):Value:=cond (decide (db (byC A)<el)) (cond (decide (db (byC B)<el)) (.tuple #[.agg (byC ((db (byC A)+db (byC B))%el)),.int .i64 0]) (.tuple #[.agg (byC 0),.int .i64 50])) (.tuple #[.agg (byC 0),.int .i64 50])
set_option maxHeartbeats 4000000 in
theorem r5p_p (A B:Int) (hA:Ok A) (hB:Ok B):Pure Tryz.prog 8 #[.agg (byC A),.agg (byC B)] (r5p_F A B):=by
  unfold r5p_F
  cases h0:(decide (db (byC A)<el))
  · skip
    exact pure_of mixed Tryz.func8 _ (r5p_2 A B) rfl ⟨⟨⟨⟨⟨⟨⟨⟨⟨trivial,trivial⟩,trivial⟩,⟨(byD.is_enc (hA)),h0⟩⟩,trivial⟩,trivial⟩,trivial⟩,trivial⟩,byK_one _ _⟩,trivial⟩
  · skip
    cases h1:(decide (db (byC B)<el))
    · skip
      exact pure_of mixed Tryz.func8 _ (r5p_1 A B) rfl ⟨⟨⟨⟨⟨⟨⟨⟨⟨⟨⟨⟨trivial,trivial⟩,trivial⟩,⟨(byD.is_enc (hA)),h0⟩⟩,trivial⟩,trivial⟩,trivial⟩,⟨(byD.is_enc (hB)),h1⟩⟩,trivial⟩,trivial⟩,trivial⟩,byK_one _ _⟩,trivial⟩
    · skip
      exact pure_of mixed Tryz.func8 _ (r5p_0 A B) rfl ⟨⟨⟨⟨⟨⟨⟨⟨⟨⟨⟨⟨⟨⟨trivial,trivial⟩,trivial⟩,⟨(byD.is_enc (hA)),h0⟩⟩,trivial⟩,trivial⟩,trivial⟩,⟨(byD.is_enc (hB)),h1⟩⟩,trivial⟩,trivial⟩,trivial⟩,trivial⟩,⟨(byD.is_enc (hA)),(byD.is_enc (hB))⟩⟩,byK_one _ _⟩,trivial⟩
def r5p_S (A B:Int):Value:=cond (decide (A<el)) (cond (decide (B<el)) (.tuple #[.agg (byC ((A+B)%el)),.int .i64 0]) (.tuple #[.agg (byC 0),.int .i64 50])) (.tuple #[.agg (byC 0),.int .i64 50])
theorem r5p_e (A B:Int) (hA:Ok A) (hB:Ok B):r5p_F A B=r5p_S A B:=by
  unfold r5p_F r5p_S
  try simp only[nm_mod,nn_mod,nm_inv,nn_inv,nm_d,nn_d,nm_1,nn_1,nm_root,nn_quo,db_byC _ hA,db_byC _ hB]
def r5m_h (i:Nat):Hn:=⟨0,[],[],[],[]⟩
theorem r5m_0 (A B:Int):evF (yty.en tab34) r5m_h Tryz.f9 [.agg (byC A),.agg (byC B)] [some (.bool true),some (.bool true)]=some (.tuple #[.agg (byC ((db (byC A) - db (byC B))%el)),.int .i64 0],((((((((((((((True∧True)∧True)∧(byD.is (byC A)∧(decide (db (byC A)<el))=true))∧True)∧True)∧True)∧(byD.is (byC B)∧(decide (db (byC B)<el))=true))∧True)∧True)∧True)∧True)∧(byD.is (byC A)∧byD.is (byC B)))∧((byC ((db (byC A) - db (byC B))%el)).all (fun v=>v.oneCell')=true))∧True)):=by kernel_rfl
theorem r5m_1 (A B:Int):evF (yty.en tab34) r5m_h Tryz.f9 [.agg (byC A),.agg (byC B)] [some (.bool true),some (.bool false)]=some (.tuple #[.agg (byC 0),.int .i64 50],((((((((((((True∧True)∧True)∧(byD.is (byC A)∧(decide (db (byC A)<el))=true))∧True)∧True)∧True)∧(byD.is (byC B)∧(decide (db (byC B)<el))=false))∧True)∧True)∧True)∧((byC 0).all (fun v=>v.oneCell')=true))∧True)):=by kernel_rfl
theorem r5m_2 (A B:Int):evF (yty.en tab34) r5m_h Tryz.f9 [.agg (byC A),.agg (byC B)] [some (.bool false)]=some (.tuple #[.agg (byC 0),.int .i64 50],(((((((((True∧True)∧True)∧(byD.is (byC A)∧(decide (db (byC A)<el))=false))∧True)∧True)∧True)∧True)∧((byC 0).all (fun v=>v.oneCell')=true))∧True)):=by kernel_rfl
def r5m_F (A B:Int):Value:=cond (decide (db (byC A)<el)) (cond (decide (db (byC B)<el)) (.tuple #[.agg (byC ((db (byC A) - db (byC B))%el)),.int .i64 0]) (.tuple #[.agg (byC 0),.int .i64 50])) (.tuple #[.agg (byC 0),.int .i64 50])
set_option maxHeartbeats 4000000 in
theorem r5m_p (A B:Int) (hA:Ok A) (hB:Ok B):Pure Tryz.prog 9 #[.agg (byC A),.agg (byC B)] (r5m_F A B):=by
  unfold r5m_F
  cases h0:(decide (db (byC A)<el))
  · skip
    exact pure_of mixed Tryz.func9 _ (r5m_2 A B) rfl ⟨⟨⟨⟨⟨⟨⟨⟨⟨trivial,trivial⟩,trivial⟩,⟨(byD.is_enc (hA)),h0⟩⟩,trivial⟩,trivial⟩,trivial⟩,trivial⟩,byK_one _ _⟩,trivial⟩
  · skip
    cases h1:(decide (db (byC B)<el))
    · skip
      exact pure_of mixed Tryz.func9 _ (r5m_1 A B) rfl ⟨⟨⟨⟨⟨⟨⟨⟨⟨⟨⟨⟨trivial,trivial⟩,trivial⟩,⟨(byD.is_enc (hA)),h0⟩⟩,trivial⟩,trivial⟩,trivial⟩,⟨(byD.is_enc (hB)),h1⟩⟩,trivial⟩,trivial⟩,trivial⟩,byK_one _ _⟩,trivial⟩
    · skip
      exact pure_of mixed Tryz.func9 _ (r5m_0 A B) rfl ⟨⟨⟨⟨⟨⟨⟨⟨⟨⟨⟨⟨⟨⟨trivial,trivial⟩,trivial⟩,⟨(byD.is_enc (hA)),h0⟩⟩,trivial⟩,trivial⟩,trivial⟩,⟨(byD.is_enc (hB)),h1⟩⟩,trivial⟩,trivial⟩,trivial⟩,trivial⟩,⟨(byD.is_enc (hA)),(byD.is_enc (hB))⟩⟩,byK_one _ _⟩,trivial⟩
def r5m_S (A B:Int):Value:=cond (decide (A<el)) (cond (decide (B<el)) (.tuple #[.agg (byC ((A - B)%el)),.int .i64 0]) (.tuple #[.agg (byC 0),.int .i64 50])) (.tuple #[.agg (byC 0),.int .i64 50])
theorem r5m_e (A B:Int) (hA:Ok A) (hB:Ok B):r5m_F A B=r5m_S A B:=by
  unfold r5m_F r5m_S
  try simp only[nm_mod,nn_mod,nm_inv,nn_inv,nm_d,nn_d,nm_1,nn_1,nm_root,nn_quo,db_byC _ hA,db_byC _ hB]
theorem RATim_c (A B:Int) (hA:Ok A) (hB:Ok B):Pure Tryz.prog 10 #[.agg (byC A),.agg (byC B)] (.tuple #[.agg (byC (scV A B (A*B))),.int .i64 (scE A B)]):=by
  have h:=r5t_p A B hA hB
  rw[r5t_e A B hA hB] at h
  have e:r5t_S A B= .tuple #[.agg (byC (scV A B (A*B))),.int .i64 (scE A B)]:=by
    unfold r5t_S scV scE scB
    cases decide (A<el)<;>cases decide (B<el)<;>rfl
  rwa[e] at h
theorem RAPlu_c (A B:Int) (hA:Ok A) (hB:Ok B):Pure Tryz.prog 8 #[.agg (byC A),.agg (byC B)] (.tuple #[.agg (byC (scV A B (A+B))),.int .i64 (scE A B)]):=by
  have h:=r5p_p A B hA hB
  rw[r5p_e A B hA hB] at h
  have e:r5p_S A B= .tuple #[.agg (byC (scV A B (A+B))),.int .i64 (scE A B)]:=by
    unfold r5p_S scV scE scB
    cases decide (A<el)<;>cases decide (B<el)<;>rfl
  rwa[e] at h
theorem RAMin_c (A B:Int) (hA:Ok A) (hB:Ok B):Pure Tryz.prog 9 #[.agg (byC A),.agg (byC B)] (.tuple #[.agg (byC (scV A B (A - B))),.int .i64 (scE A B)]):=by
  have h:=r5m_p A B hA hB
  rw[r5m_e A B hA hB] at h
  have e:r5m_S A B= .tuple #[.agg (byC (scV A B (A - B))),.int .i64 (scE A B)]:=by
    unfold r5m_S scV scE scB
    cases decide (A<el)<;>cases decide (B<el)<;>rfl
  rwa[e] at h
def qAInv:Entry Tryz.prog:=ent1 Tryz.func11 (by kernel_rfl) (by kernel_rfl) byD (fun K:Int=> .tuple #[.agg (byC (aInvP K)),.int .i64 (aInvE K)]) RAInv_c
def qATim:Entry Tryz.prog:=ent2 Tryz.func10 (by kernel_rfl) (by kernel_rfl) byD byD (fun A B:Int=> .tuple #[.agg (byC (scV A B (A*B))),.int .i64 (scE A B)]) RATim_c
def qAPlu:Entry Tryz.prog:=ent2 Tryz.func8 (by kernel_rfl) (by kernel_rfl) byD byD (fun A B:Int=> .tuple #[.agg (byC (scV A B (A+B))),.int .i64 (scE A B)]) RAPlu_c
def qAMin:Entry Tryz.prog:=ent2 Tryz.func9 (by kernel_rfl) (by kernel_rfl) byD byD (fun A B:Int=> .tuple #[.agg (byC (scV A B (A - B))),.int .i64 (scE A B)]) RAMin_c
def tab35:List (Entry Tryz.prog):=qAOf :: qAInv :: qATim :: qAPlu :: qAMin :: tab34
def scl_h (i:Nat):Hn:=⟨0,[],[],[],[]⟩
theorem scl_0 (A B n:Int):evF (yty.en tab35) scl_h Tryz.f3 [.agg (byC A),.agg (byC B),.int .u64 n] [some (.bool true),some (.bool true),some (.bool true),some (.bool true),some (.bool true),some (.bool true),some (.bool true),some (.bool true),some (.bool true)]=some (.bool true,((((((((((((((((((((((((((((((((((((((((((((((((((((((((((((((((((((((((((((((((((((((((((((((((((((((((((((((((True∧True)∧True)∧True)∧(byD.is (byC A)∧byD.is (byC B)))∧True)∧True)∧True)∧((byC (scV (db (byC A)) (db (byC B)) (db (byC A)+db (byC B)))).all (fun v=>v.oneCell')=true))∧True)∧True)∧True)∧(byD.is (byC A)∧byD.is (byC B)))∧True)∧True)∧True)∧((byC (scV (db (byC A)) (db (byC B)) (db (byC A) - db (byC B)))).all (fun v=>v.oneCell')=true))∧True)∧True)∧True)∧(byD.is (byC A)∧byD.is (byC B)))∧True)∧True)∧True)∧((byC (scV (db (byC A)) (db (byC B)) (db (byC A)*db (byC B)))).all (fun v=>v.oneCell')=true))∧True)∧True)∧byD.is (byC A))∧True)∧True)∧True)∧((byC (aInvP (db (byC A)))).all (fun v=>v.oneCell')=true))∧True)∧True)∧True)∧(byD.is (byC A)∧byD.is (byC B)))∧True)∧True)∧True)∧((byC (scV (db (byC A)) (db (byC B)) (db (byC A)+db (byC B)))).all (fun v=>v.oneCell')=true))∧True)∧True)∧True)∧(byD.is (byC A)∧byD.is (byC B)))∧True)∧True)∧True)∧((byC (scV (db (byC A)) (db (byC B)) (db (byC A) - db (byC B)))).all (fun v=>v.oneCell')=true))∧True)∧True)∧True)∧(byD.is (byC A)∧byD.is (byC B)))∧True)∧True)∧True)∧((byC (scV (db (byC A)) (db (byC B)) (db (byC A)*db (byC B)))).all (fun v=>v.oneCell')=true))∧True)∧True)∧byD.is (byC A))∧True)∧True)∧True)∧((byC (aInvP (db (byC A)))).all (fun v=>v.oneCell')=true))∧True)∧True)∧True)∧((byD.is (byC (scV (db (byC A)) (db (byC B)) (db (byC A)+db (byC B))))∧byD.is (byC (scV (db (byC A)) (db (byC B)) (db (byC A)+db (byC B)))))∧(decide (db (byC (scV (db (byC A)) (db (byC B)) (db (byC A)+db (byC B))))=db (byC (scV (db (byC A)) (db (byC B)) (db (byC A)+db (byC B))))))=true))∧True)∧True)∧True)∧((byD.is (byC (scV (db (byC A)) (db (byC B)) (db (byC A) - db (byC B))))∧byD.is (byC (scV (db (byC A)) (db (byC B)) (db (byC A) - db (byC B)))))∧(decide (db (byC (scV (db (byC A)) (db (byC B)) (db (byC A) - db (byC B))))=db (byC (scV (db (byC A)) (db (byC B)) (db (byC A) - db (byC B))))))=true))∧True)∧True)∧True)∧True)∧((byD.is (byC (scV (db (byC A)) (db (byC B)) (db (byC A)*db (byC B))))∧byD.is (byC (scV (db (byC A)) (db (byC B)) (db (byC A)*db (byC B)))))∧(decide (db (byC (scV (db (byC A)) (db (byC B)) (db (byC A)*db (byC B))))=db (byC (scV (db (byC A)) (db (byC B)) (db (byC A)*db (byC B))))))=true))∧True)∧True)∧True)∧True)∧((byD.is (byC (aInvP (db (byC A))))∧byD.is (byC (aInvP (db (byC A)))))∧(decide (db (byC (aInvP (db (byC A))))=db (byC (aInvP (db (byC A))))))=true))∧True)∧True)∧True)∧True)∧(True∧(decide ((scE (db (byC A)) (db (byC B)))=(scE (db (byC A)) (db (byC B)))))=true))∧True)∧True)∧True)∧True)∧(True∧(decide ((scE (db (byC A)) (db (byC B)))=(scE (db (byC A)) (db (byC B)))))=true))∧True)∧True)∧True)∧True)∧(True∧(decide ((scE (db (byC A)) (db (byC B)))=(scE (db (byC A)) (db (byC B)))))=true))∧True)∧True)∧True)∧True)∧(True∧(decide ((aInvE (db (byC A)))=(aInvE (db (byC A)))))=true))∧True)∧True)∧True)∧(IntKind.u64=IntKind.u64∧w64 n))∧True)∧(IntKind.u64=IntKind.u64∧w64 n))∧((byD.is (byC n)∧byD.is (byC n))∧(decide (db (byC n)=db (byC n)))=true))∧True)∧True)∧True)∧True)∧True)):=by kernel_rfl
set_option maxHeartbeats 4000000 in
theorem scl_p (A B n:Int) (hA:Ok A) (hB:Ok B) (hn:w64 n) (h0:(decide ((scV (A) (B) (A+B))=(scV (A) (B) (A+B))))=true) (h1:(decide ((scV (A) (B) (A - B))=(scV (A) (B) (A - B))))=true) (h2:(decide ((scV (A) (B) (A*B))=(scV (A) (B) (A*B))))=true) (h3:(decide ((aInvP (A))=(aInvP (A))))=true) (h4:(decide ((scE (A) (B))=(scE (A) (B))))=true) (h5:(decide ((scE (A) (B))=(scE (A) (B))))=true) (h6:(decide ((scE (A) (B))=(scE (A) (B))))=true) (h7:(decide ((aInvE (A))=(aInvE (A))))=true) (h8:(decide (n=n))=true):Pure Tryz.prog 3 #[.agg (byC A),.agg (byC B),.int .u64 n] (.bool true):=by
  have h0:(decide (db (byC (scV (db (byC A)) (db (byC B)) (db (byC A)+db (byC B))))=db (byC (scV (db (byC A)) (db (byC B)) (db (byC A)+db (byC B))))))=true:=by
    simp only[nm_mod,nn_mod,nm_inv,nn_inv,nm_d,nn_d,nm_1,nn_1,nm_root,nn_quo,db_byC _ hA,db_byC _ hB,db_byC _ (ok_aInv A),db_byC _ (ok_scV _ _ _)]
    first|exact h0|simp
  have h1:(decide (db (byC (scV (db (byC A)) (db (byC B)) (db (byC A) - db (byC B))))=db (byC (scV (db (byC A)) (db (byC B)) (db (byC A) - db (byC B))))))=true:=by
    simp only[nm_mod,nn_mod,nm_inv,nn_inv,nm_d,nn_d,nm_1,nn_1,nm_root,nn_quo,db_byC _ hA,db_byC _ hB,db_byC _ (ok_aInv A),db_byC _ (ok_scV _ _ _)]
    first|exact h1|simp
  have h2:(decide (db (byC (scV (db (byC A)) (db (byC B)) (db (byC A)*db (byC B))))=db (byC (scV (db (byC A)) (db (byC B)) (db (byC A)*db (byC B))))))=true:=by
    simp only[nm_mod,nn_mod,nm_inv,nn_inv,nm_d,nn_d,nm_1,nn_1,nm_root,nn_quo,db_byC _ hA,db_byC _ hB,db_byC _ (ok_aInv A),db_byC _ (ok_scV _ _ _)]
    first|exact h2|simp
  have h3:(decide (db (byC (aInvP (db (byC A))))=db (byC (aInvP (db (byC A))))))=true:=by
    simp only[nm_mod,nn_mod,nm_inv,nn_inv,nm_d,nn_d,nm_1,nn_1,nm_root,nn_quo,db_byC _ hA,db_byC _ hB,db_byC _ (ok_aInv A),db_byC _ (ok_scV _ _ _)]
    first|exact h3|simp
  have h4:(decide ((scE (db (byC A)) (db (byC B)))=(scE (db (byC A)) (db (byC B)))))=true:=by
    simp only[nm_mod,nn_mod,nm_inv,nn_inv,nm_d,nn_d,nm_1,nn_1,nm_root,nn_quo,db_byC _ hA,db_byC _ hB,db_byC _ (ok_aInv A),db_byC _ (ok_scV _ _ _)]
    first|exact h4|simp
  have h5:(decide ((scE (db (byC A)) (db (byC B)))=(scE (db (byC A)) (db (byC B)))))=true:=by
    simp only[nm_mod,nn_mod,nm_inv,nn_inv,nm_d,nn_d,nm_1,nn_1,nm_root,nn_quo,db_byC _ hA,db_byC _ hB,db_byC _ (ok_aInv A),db_byC _ (ok_scV _ _ _)]
    first|exact h5|simp
  have h6:(decide ((scE (db (byC A)) (db (byC B)))=(scE (db (byC A)) (db (byC B)))))=true:=by
    simp only[nm_mod,nn_mod,nm_inv,nn_inv,nm_d,nn_d,nm_1,nn_1,nm_root,nn_quo,db_byC _ hA,db_byC _ hB,db_byC _ (ok_aInv A),db_byC _ (ok_scV _ _ _)]
    first|exact h6|simp
  have h7:(decide ((aInvE (db (byC A)))=(aInvE (db (byC A)))))=true:=by
    simp only[nm_mod,nn_mod,nm_inv,nn_inv,nm_d,nn_d,nm_1,nn_1,nm_root,nn_quo,db_byC _ hA,db_byC _ hB,db_byC _ (ok_aInv A),db_byC _ (ok_scV _ _ _)]
    first|exact h7|simp
  have h8:(decide (db (byC n)=db (byC n)))=true:=by
    simp only[nm_mod,nn_mod,nm_inv,nn_inv,nm_d,nn_d,nm_1,nn_1,nm_root,nn_quo,db_byC _ hA,db_byC _ hB,db_byC _ (ok_aInv A),db_byC _ (ok_scV _ _ _)]
    first|exact h8|simp
  exact pure_of mixed Tryz.func3 _ (scl_0 A B n) rfl ⟨⟨⟨⟨⟨⟨⟨⟨⟨⟨⟨⟨⟨⟨⟨⟨⟨⟨⟨⟨⟨⟨⟨⟨⟨⟨⟨⟨⟨⟨⟨⟨⟨⟨⟨⟨⟨⟨⟨⟨⟨⟨⟨⟨⟨⟨⟨⟨⟨⟨⟨⟨⟨⟨⟨⟨⟨⟨⟨⟨⟨⟨⟨⟨⟨⟨⟨⟨⟨⟨⟨⟨⟨⟨⟨⟨⟨⟨⟨⟨⟨⟨⟨⟨⟨⟨⟨⟨⟨⟨⟨⟨⟨⟨⟨⟨⟨⟨⟨⟨⟨⟨⟨⟨⟨⟨⟨⟨⟨⟨⟨⟨trivial,trivial⟩,trivial⟩,trivial⟩,⟨(byD.is_enc (hA)),(byD.is_enc (hB))⟩⟩,trivial⟩,trivial⟩,trivial⟩,byK_one _ _⟩,trivial⟩,trivial⟩,trivial⟩,⟨(byD.is_enc (hA)),(byD.is_enc (hB))⟩⟩,trivial⟩,trivial⟩,trivial⟩,byK_one _ _⟩,trivial⟩,trivial⟩,trivial⟩,⟨(byD.is_enc (hA)),(byD.is_enc (hB))⟩⟩,trivial⟩,trivial⟩,trivial⟩,byK_one _ _⟩,trivial⟩,trivial⟩,(byD.is_enc (hA))⟩,trivial⟩,trivial⟩,trivial⟩,byK_one _ _⟩,trivial⟩,trivial⟩,trivial⟩,⟨(byD.is_enc (hA)),(byD.is_enc (hB))⟩⟩,trivial⟩,trivial⟩,trivial⟩,byK_one _ _⟩,trivial⟩,trivial⟩,trivial⟩,⟨(byD.is_enc (hA)),(byD.is_enc (hB))⟩⟩,trivial⟩,trivial⟩,trivial⟩,byK_one _ _⟩,trivial⟩,trivial⟩,trivial⟩,⟨(byD.is_enc (hA)),(byD.is_enc (hB))⟩⟩,trivial⟩,trivial⟩,trivial⟩,byK_one _ _⟩,trivial⟩,trivial⟩,(byD.is_enc (hA))⟩,trivial⟩,trivial⟩,trivial⟩,byK_one _ _⟩,trivial⟩,trivial⟩,trivial⟩,⟨⟨(byD.is_enc (ok_scV _ _ _)),(byD.is_enc (ok_scV _ _ _))⟩,h0⟩⟩,trivial⟩,trivial⟩,trivial⟩,⟨⟨(byD.is_enc (ok_scV _ _ _)),(byD.is_enc (ok_scV _ _ _))⟩,h1⟩⟩,trivial⟩,trivial⟩,trivial⟩,trivial⟩,⟨⟨(byD.is_enc (ok_scV _ _ _)),(byD.is_enc (ok_scV _ _ _))⟩,h2⟩⟩,trivial⟩,trivial⟩,trivial⟩,trivial⟩,⟨⟨(byD.is_enc (ok_aInv _)),(byD.is_enc (ok_aInv _))⟩,h3⟩⟩,trivial⟩,trivial⟩,trivial⟩,trivial⟩,⟨trivial,h4⟩⟩,trivial⟩,trivial⟩,trivial⟩,trivial⟩,⟨trivial,h5⟩⟩,trivial⟩,trivial⟩,trivial⟩,trivial⟩,⟨trivial,h6⟩⟩,trivial⟩,trivial⟩,trivial⟩,trivial⟩,⟨trivial,h7⟩⟩,trivial⟩,trivial⟩,trivial⟩,⟨rfl,hn⟩⟩,trivial⟩,⟨rfl,hn⟩⟩,⟨⟨(byD.is_enc (w64_okI (hn))),(byD.is_enc (w64_okI (hn)))⟩,h8⟩⟩,trivial⟩,trivial⟩,trivial⟩,trivial⟩,trivial⟩
theorem scalars_c (A B n:Int) (hA:Ok A) (hB:Ok B) (hn:w64 n):Pure Tryz.prog 3 #[.agg (byC A),.agg (byC B),.int .u64 n] (.bool true):=by
  apply scl_p A B n hA hB hn<;>exact decide_eq_true rfl
end Go.Proofs.YtdebkddhpogkgaaGreat
